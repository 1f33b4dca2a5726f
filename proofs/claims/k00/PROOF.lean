import PyProof.Rows.All
import Wide.All
import OpenK.AllK
import Wide.FinOn
import HandS.SetBool
import HandS.ForMost
import HandS.IsInst
import HandS.Gcd
import HandS.Wide
import HandS.FStr
import HandS.StrMore
import HandS.Exc
import HandS.Lambda
import HandS.Walk
import HandS.Style
import KE.GoesMore
import KE.GoesEnum
import KE.KMathGC
import HandS.TupAny
import HandS.TupMul
import KE.KDictZip
import HandS.Zip0
import HandS.Star
import HandS.Zip
import HandS.WideBits
import HandS.Deep
import HandS.RevRange
import HandS.SetFor
import HandS.Strs
import HandS.Dict
import HandS.More
import HandS.ExcValue
import HandS.ExcIs
import HandS.ExcInit
import HandS.ExcOwn
import HandS.ExcField
import HandS.WordsExc
import HandS.TryMany
import KE.KExcInit
import HandS.Conv
import HandS.CallLocal
import HandS.RaiseMore
import HandS.HotCalls
import HandS.EndTab
import PySem.Challenge.RW_thirdcounts_k00_errors_told
set_option Elab.async false
set_option linter.all false
set_option maxRecDepth 100000
/-! A data layer over the hand layer: what expressions, statements and defs do to plain data (PyData), and to one list of three ints that is written in place. -/
namespace DL
open PySem PySem.Spec PyProof.Rows L2
/-- the tables of code objects that are known, and the names that they bear -/
class TabT where
  T : List (Addr × Str)
variable [TabT]

/-! ### 1. states, heaps, data -/
abbrev S := Int × Int × Int
def dv (s : S) : HO := .lst [.int s.1, .int s.2.1, .int s.2.2]
/-- the state's list, and lists that are being filled: what they hold stands still meanwhile -/
structure Z where
  dice : Option Addr
  vol : List (Addr × HO)
/-- not one of these -/
def Fz (z : Z) (a : Addr) : Prop := (z.dice ≠ some a ∧ ∀ q, (a, q) ∉ TabT.T) ∧ ∀ o, (a, o) ∉ z.vol
/-- what may be filled meanwhile: no table -/
inductive NT : HO → Prop
  | lst (xs : List V) : NT (.lst xs)
  | dK (kvs : List (Key × V)) : NT (.dK kvs)
  | frz (o : Obj) (kvs : List (Key × V)) : NT (.frz o (.dK kvs))
  | ext (φ : Heap → Prop) : NT (.ext φ)
  | xd (fs : List (Str × V)) : NT (.xd fs)
  | frx (o : Obj) (φ : Heap → Prop) : NT (.frz o (.ext φ))
structure At (z : Z) (H : Hp) (s : S) : Prop where
  d : ∀ a, z.dice = some a → H a = some (dv s)
  v : ∀ p ∈ z.vol, H p.1 = some p.2
  n : ∀ p ∈ z.vol, z.dice ≠ some p.1 ∧ NT p.2
  t : LamX.Tabs TabT.T H
/-- the tables stand where all but lists is kept -/
theorem tabs_but {T : List (Addr × Str)} {H H' : Hp} (t : LamX.Tabs T H) (k : ∀ b o, H b = some o → (∀ xs, o ≠ .lst xs) → H' b = some o) : LamX.Tabs T H' := fun p hp => by
  obtain ⟨ps, h1, h2, h3⟩ := t p hp
  refine ⟨ps, k _ _ h1 (fun xs e => by cases e), h2, fun pos cv hc => ?_⟩
  obtain ⟨c, e1, e2⟩ := h3 pos cv hc
  exact ⟨c, e1, k _ _ e2 (fun xs e => by
    unfold LamX.CodeO at e
    cases e)⟩
theorem tabs_upd {T : List (Addr × Str)} {H : Hp} {a : Addr} {xs : List V} {o : HO} (t : LamX.Tabs T H) (h : H a = some (.lst xs)) : LamX.Tabs T (upd H a o) := tabs_but t fun b u e n => by
  by_cases hb : b = a
  · rw [hb, h] at e
    exact absurd (Option.some.inj e).symm (n xs)
  · rw [upd_ne hb]
    exact e
theorem tabs_new {T : List (Addr × Str)} {H : Hp} {p : Addr} {o : HO} (t : LamX.Tabs T H) (h : H p = none) : LamX.Tabs T (upd H p o) := tabs_but t fun b u e n => by
  rw [upd_ne (ne_of_none e h)]
  exact e
def Ez (z : Z) (H H' : Hp) : Prop := ∀ a o, Fz z a → H a = some o → H' a = some o
theorem Ez.refl {z : Z} (H : Hp) : Ez z H H := fun _ _ _ h => h
theorem Ez.trans {z : Z} {H H1 H2 : Hp} (a : Ez z H H1) (b : Ez z H1 H2) : Ez z H H2 := fun x o n h => b x o n (a x o n h)
theorem Ez.new {z : Z} {H : Hp} {p : Addr} {o : HO} (h : H p = none) : Ez z H (upd H p o) := fun a u _ e => by
  rw [upd_ne (ne_of_none e h)]
  exact e
theorem At.new {z : Z} {H : Hp} {p : Addr} {o : HO} {s : S} (A : At z H s) (h : H p = none) : At z (upd H p o) s := by
  refine ⟨fun a e => ?_, fun q hq => ?_, A.n, tabs_new A.t h⟩
  · rw [upd_ne (ne_of_none (A.d a e) h)]
    exact A.d a e
  · rw [upd_ne (ne_of_none (A.v q hq) h)]
    exact A.v q hq
theorem At.fresh {z : Z} {H : Hp} {p : Addr} {s : S} (A : At z H s) (h : H p = none) : Fz z p := by
  refine ⟨⟨fun e => ?_, fun q hq => ?_⟩, fun o ho => ?_⟩
  · have := A.d p e
    rw [this] at h
    cases h
  · obtain ⟨ps, e, _⟩ := A.t _ hq
    have e : H p = some (.tbl ps) := e
    rw [e] at h
    cases h
  · have : H p = some o := A.v _ ho
    rw [this] at h
    cases h
theorem At.tab_far {z : Z} {H : Hp} {a : Addr} {xs : List V} {s : S} (A : At z H s) (h : H a = some (.lst xs)) : ∀ q, (a, q) ∉ TabT.T := fun q hq => by
  obtain ⟨ps, e, _⟩ := A.t _ hq
  have e : H a = some (.tbl ps) := e
  rw [e] at h
  cases h
theorem At.tab_far2 {z : Z} {H : Hp} {a : Addr} {o : HO} {s : S} (A : At z H s) (h : H a = some o) (n : NT o) : ∀ q, (a, q) ∉ TabT.T := fun q hq => by
  obtain ⟨ps, e, _⟩ := A.t _ hq
  have e : H a = some (.tbl ps) := e
  rw [e] at h
  cases h
  cases n
theorem At.set {z : Z} {a : Addr} {H : Hp} {s s' : S} (A : At z H s') (e : z.dice = some a) : At z (upd H a (dv s)) s := by
  refine ⟨fun b e2 => ?_, fun q hq => ?_, A.n, tabs_upd A.t (A.d a e)⟩
  · rw [e] at e2
    cases e2
    exact upd_same
  · have := (A.n q hq).1
    rw [upd_ne (fun h => this (by rw [e, h]))]
    exact A.v q hq
theorem Ez.set {z : Z} {a : Addr} {H : Hp} {o : HO} (h : z.dice = some a) : Ez z H (upd H a o) := fun b u n e => by
  rw [upd_ne (fun q => n.1.1 (by rw [h, q]))]
  exact e

/-- a dict with one entry, whose key is k and whose value is the integer i -/
def BoolD (a : Addr) (k : Bool) (i : Int) : HO := .ext fun h => (a == sysModules) = false ∧ ∃ t, ∀ (P : Program) (w : World), h.DictOf (PpSet.boolK P w) a [(k, .int i t)]
/-- a dict with one entry whose key is no integer -/
inductive Odd (a : Addr) : HO → List (PyData × PyData) → Prop
  | txt (x : Str) (i : Int) : Odd a (.dK [(Sum.inr x, .int i)]) [(.str x, .int i)]
  | tru (k : Bool) (i : Int) : Odd a (BoolD a k i) [(.bool k, .int i)]
mutual
inductive Da (z : Z) (H : Hp) : V → PyData → Prop
  | non : Da z H .non .none
  | bl (b : Bool) : Da z H (.bl b) (.bool b)
  | int (i : Int) : Da z H (.int i) (.int i)
  | str (x : Str) : Da z H (.str x) (.str x)
  | dkv {a : Addr} {kvs : List (Key × V)} {ks : List Int} {ds : List PyData} {d : List (PyData × PyData)} : Fz z a → H a = some (.dK kvs) → kvs.map (·.1) = ks.map Sum.inl → DaAll z H (kvs.map (·.2)) ds → d = (ks.map PyData.int).zip ds → Da z H (.ref a) (.dict d)
  | lst {a : Addr} {xs : List V} {ds : List PyData} : Fz z a → H a = some (.lst xs) → DaAll z H xs ds → Da z H (.ref a) (.list ds)
  | odd {a : Addr} {o : HO} {d : List (PyData × PyData)} : Fz z a → H a = some o → Odd a o d → Da z H (.ref a) (.dict d)
  | tup {a : Addr} {xs : List V} {ds : List PyData} : Fz z a → H a = some (.tup xs) → DaAll z H xs ds → Da z H (.ref a) (.tuple ds)
inductive DaAll (z : Z) (H : Hp) : List V → List PyData → Prop
  | nil : DaAll z H [] []
  | cons {v : V} {vs : List V} {d : PyData} {ds : List PyData} : Da z H v d → DaAll z H vs ds → DaAll z H (v :: vs) (d :: ds)
end
mutual
theorem Da.mono {z : Z} {H H' : Hp} (e : Ez z H H') : ∀ {v : V} {d : PyData}, Da z H v d → Da z H' v d
  | _, _, .non => .non
  | _, _, .bl b => .bl b
  | _, _, .int i => .int i
  | _, _, .str x => .str x
  | _, _, .dkv n h k r q => .dkv n (e _ _ n h) k (DaAll.mono e r) q
  | _, _, .odd n h r => .odd n (e _ _ n h) r
  | _, _, .lst n h r => .lst n (e _ _ n h) (DaAll.mono e r)
  | _, _, .tup n h r => .tup n (e _ _ n h) (DaAll.mono e r)
theorem DaAll.mono {z : Z} {H H' : Hp} (e : Ez z H H') : ∀ {vs : List V} {ds : List PyData}, DaAll z H vs ds → DaAll z H' vs ds
  | _, _, .nil => .nil
  | _, _, .cons h r => .cons (Da.mono e h) (DaAll.mono e r)
end
mutual
/-- no dict within -/
def nod : PyData → Bool
  | .none => true
  | .bool _ => true
  | .int _ => true
  | .str _ => true
  | .list xs => nodAll xs
  | .tuple xs => nodAll xs
  | .dict _ => false
def nodAll : List PyData → Bool
  | [] => true
  | x :: xs => nod x && nodAll xs
end
mutual
theorem Da.dp {K : PySem.W.Frag} {z : Z} {H : Hp} : ∀ {v : V} {d : PyData}, Da z H v d → nod d = true → Dp K H v d
  | _, _, .non, _ => .non
  | _, _, .bl b, _ => .bl b
  | _, _, .int i, _ => .int i
  | _, _, .str x, _ => .str x
  | _, _, .dkv _ _ _ _ _, q => by simp [nod] at q
  | _, _, .odd _ _ _, q => by simp [nod] at q
  | _, _, .lst n h r, q => .lst (.inl (.inl h)) (DaAll.dp r (by simpa [nod] using q))
  | _, _, .tup n h r, q => .tup (.inl (.inl h)) (DaAll.dp r (by simpa [nod] using q))
theorem DaAll.dp {K : PySem.W.Frag} {z : Z} {H : Hp} : ∀ {vs : List V} {ds : List PyData}, DaAll z H vs ds → nodAll ds = true → DpAll K H vs ds
  | _, _, .nil, _ => .nil
  | _, _, .cons h r, q => by
    simp only [nodAll, Bool.and_eq_true] at q
    exact .cons (Da.dp h q.1) (DaAll.dp r q.2)
end
theorem DaAll.length {z : Z} {H : Hp} : ∀ {vs : List V} {ds : List PyData}, DaAll z H vs ds → vs.length = ds.length
  | _, _, .nil => rfl
  | _, _, .cons _ r => by rw [List.length_cons, List.length_cons, DaAll.length r]
theorem DaAll.get {z : Z} {H : Hp} : ∀ {vs : List V} {ds : List PyData}, DaAll z H vs ds → ∀ (i : Nat) (d : PyData), ds[i]? = some d → ∃ v, vs[i]? = some v ∧ Da z H v d
  | _, _, .nil, i, d, h => by simp at h
  | _, _, .cons h r, 0, d, e => by
    cases Option.some.inj e
    exact ⟨_, rfl, h⟩
  | _, _, .cons h r, i + 1, d, e => DaAll.get r i d e
theorem DaAll.getV {z : Z} {H : Hp} : ∀ {vs : List V} {ds : List PyData}, DaAll z H vs ds → ∀ (i : Nat) (v : V), vs[i]? = some v → ∃ d, ds[i]? = some d ∧ Da z H v d
  | _, _, .nil, i, d, h => by simp at h
  | _, _, .cons h r, 0, d, e => by
    cases Option.some.inj e
    exact ⟨_, rfl, h⟩
  | _, _, .cons h r, i + 1, d, e => DaAll.getV r i d e
theorem DaAll.app {z : Z} {H : Hp} : ∀ {vs : List V} {ds : List PyData} {us : List V} {es : List PyData}, DaAll z H vs ds → DaAll z H us es → DaAll z H (vs ++ us) (ds ++ es)
  | _, _, _, _, .nil, q => q
  | _, _, _, _, .cons h r, q => .cons h (DaAll.app r q)

/-! ### exceptions as data: of a class without fields, with one field -/
inductive XD | pl (C : Addr) | wf (C : Addr) (f : Str) (d : PyData)
def XR (z : Z) (H : Hp) (cls : Value) (dx : Option Addr) : XD → Prop
  | .pl C => cls = .ref C ∧ dx = none
  | .wf C f d => cls = .ref C ∧ ∃ p v, dx = some p ∧ Fz z p ∧ H p = some (.xd [(f, v)]) ∧ Da z H v d
theorem XR.mono {z : Z} {H H' : Hp} {cls : Value} {dx : Option Addr} (e : Ez z H H') : ∀ {x : XD}, XR z H cls dx x → XR z H' cls dx x
  | .pl _, h => h
  | .wf _ _ _, ⟨h1, p, v, h2, n, h3, h4⟩ => ⟨h1, p, v, h2, n, e _ _ n h3, h4.mono e⟩

/-! ### slots -/
/-- a lambda that is handed about: its object, its code object and that one's name, what it took along -/
structure LQ where
  f : Addr
  c : Addr
  q : Str
  vs : List V
  ds : List PyData
def LkR (z : Z) (H : Hp) (l : LQ) : Prop := (Fz z l.c ∧ H l.c = some (LamX.CodeO l.c l.q)) ∧ DaAll z H l.vs l.ds
theorem LkR.mono {z : Z} {H H' : Hp} {l : LQ} (e : Ez z H H') (h : LkR z H l) : LkR z H' l := ⟨⟨h.1.1, e _ _ h.1.1 h.1.2⟩, h.2.mono e⟩
inductive Sl | fk (l : LQ) | fns (l : List LQ) | un | val (d : PyData) | dice | raw (v : V) | own (ds : List PyData) | dct (p : Addr) (ks : List Int) (ds : List PyData) | exc (a : Addr) (cls : Value) (dx : Option Addr) (x : XD)
inductive SlR (z : Z) (H : Hp) : Option V → Sl → Prop
  | fk {l : LQ} : LkR z H l → SlR z H (some (.ref l.f)) (.fk l)
  | fns {a : Addr} {l : List LQ} : Fz z a → H a = some (.lst (l.map fun q => V.ref q.f)) → (∀ q ∈ l, LkR z H q) → SlR z H (some (.ref a)) (.fns l)
  | un {x : Option V} : SlR z H x .un
  | val {v : V} {d : PyData} : Da z H v d → SlR z H (some v) (.val d)
  | dice {a : Addr} : z.dice = some a → SlR z H (some (.ref a)) .dice
  | raw {v : V} : SlR z H (some v) (.raw v)
  | own {p : Addr} {vs : List V} {ds : List PyData} : (p, HO.lst vs) ∈ z.vol → DaAll z H vs ds → SlR z H (some (.ref p)) (.own ds)
  | dct {p : Addr} {kvs : List (Key × V)} {ks : List Int} {ds : List PyData} : (p, HO.dK kvs) ∈ z.vol → kvs.map (·.1) = ks.map Sum.inl → DaAll z H (kvs.map (·.2)) ds → SlR z H (some (.ref p)) (.dct p ks ds)
  | exc {a : Addr} {cls : Value} {dx : Option Addr} {x : XD} : XR z H cls dx x → SlR z H (some (.ref a)) (.exc a cls dx x)
inductive En (z : Z) (H : Hp) : L2.St → List Sl → Prop
  | nil : En z H [] []
  | cons {x : Option V} {σ : L2.St} {e : Sl} {es : List Sl} : SlR z H x e → En z H σ es → En z H (x :: σ) (e :: es)
theorem SlR.mono {z : Z} {H H' : Hp} {x : Option V} {e : Sl} (k : Ez z H H') (h : SlR z H x e) : SlR z H' x e := by
  cases h with
  | fk r => exact .fk (r.mono k)
  | fns n h r => exact .fns n (k _ _ n h) (fun q hq => (r q hq).mono k)
  | un => exact .un
  | val d => exact .val (d.mono k)
  | dice e => exact .dice e
  | raw => exact .raw
  | own m r => exact .own m (r.mono k)
  | dct m e r => exact .dct m e (r.mono k)
  | exc r => exact .exc (r.mono k)
theorem En.mono {z : Z} {H H' : Hp} (k : Ez z H H') : ∀ {σ : L2.St} {es : List Sl}, En z H σ es → En z H' σ es
  | _, _, .nil => .nil
  | _, _, .cons h r => .cons (h.mono k) (En.mono k r)
theorem En.length {z : Z} {H : Hp} : ∀ {σ : L2.St} {es : List Sl}, En z H σ es → σ.length = es.length
  | _, _, .nil => rfl
  | _, _, .cons h r => by rw [List.length_cons, List.length_cons, En.length r]
theorem En.get {z : Z} {H : Hp} : ∀ {σ : L2.St} {es : List Sl}, En z H σ es → ∀ {i : Nat} {d : PyData}, es[i]? = some (.val d) → ∃ v, σ[i]? = some (some v) ∧ Da z H v d
  | _, _, .nil, i, d, h => by simp at h
  | _, _, .cons h r, 0, d, e => by
    cases Option.some.inj e
    cases h with
    | val q => exact ⟨_, rfl, q⟩
  | _, _, .cons h r, i + 1, d, e => En.get r (i := i) e
theorem En.getD {z : Z} {H : Hp} : ∀ {σ : L2.St} {es : List Sl}, En z H σ es → ∀ {i : Nat}, es[i]? = some .dice → ∃ a, σ[i]? = some (some (.ref a)) ∧ z.dice = some a
  | _, _, .nil, i, h => by simp at h
  | _, _, .cons h r, 0, e => by
    cases Option.some.inj e
    cases h with
    | dice q => exact ⟨_, rfl, q⟩
  | _, _, .cons h r, i + 1, e => En.getD r (i := i) e
theorem En.set {z : Z} {H : Hp} : ∀ {σ : L2.St} {es : List Sl}, En z H σ es → ∀ (i : Nat) {x : Option V} {e : Sl}, SlR z H x e → En z H (σ.set i x) (es.set i e)
  | _, _, .nil, i, _, _, _ => .nil
  | _, _, .cons h r, 0, _, _, q => .cons q r
  | _, _, .cons h r, i + 1, _, _, q => .cons h (En.set r i q)
theorem En.app {z : Z} {H : Hp} : ∀ {σ : L2.St} {es : List Sl} {τ : L2.St} {fs : List Sl}, En z H σ es → En z H τ fs → En z H (σ ++ τ) (es ++ fs)
  | _, _, _, _, .nil, q => q
  | _, _, _, _, .cons h r, q => .cons h (En.app r q)
theorem En.uns {z : Z} {H : Hp} : ∀ (n : Nat), En z H (List.replicate n none) (List.replicate n .un)
  | 0 => .nil
  | n + 1 => .cons .un (En.uns n)
/-- less is known -/
inductive Le : List Sl → List Sl → Prop
  | nil : Le [] []
  | same {e : Sl} {es fs : List Sl} : Le es fs → Le (e :: es) (e :: fs)
  | un {e : Sl} {es fs : List Sl} : Le es fs → Le (e :: es) (.un :: fs)
theorem Le.refl : ∀ es : List Sl, Le es es
  | [] => .nil
  | _ :: es => .same (Le.refl es)
theorem En.le {z : Z} {H : Hp} : ∀ {es fs : List Sl}, Le es fs → ∀ {σ : L2.St}, En z H σ es → En z H σ fs
  | _, _, .nil, _, h => h
  | _, _, .same l, _, .cons h r => .cons h (En.le l r)
  | _, _, .un l, _, .cons h r => .cons .un (En.le l r)

/-! ### 2. the weakest readings -/
section
variable {X : Cx}
def wE (X : Cx) (e : Expr) : TE := fun σ H Q => ∃ t, PE X e t ∧ t σ H Q
def wT (X : Cx) (e : Expr) : TT := fun σ H Q => ∃ t, PT X e t ∧ t σ H Q
def wA (X : Cx) (es : List Expr) : TA := fun σ H Q => ∃ t, PA X es t ∧ t σ H Q
def wS (X : Cx) (st : Stmt) : TS := fun D σ H => ∃ t, PS X st t ∧ t D σ H
def wB (X : Cx) (st : List Stmt) : TS := fun D σ H => ∃ t, PSs X st t ∧ t D σ H
theorem wE_ok {e : Expr} : PE X e (wE X e) := ⟨fun pins s σ H Q I ⟨_, h, q⟩ => h.run pins s σ H Q I q⟩
theorem wT_ok {e : Expr} : PT X e (wT X e) := ⟨fun pins s σ H Q I ⟨_, h, q⟩ => h.run pins s σ H Q I q⟩
theorem wA_ok {es : List Expr} : PA X es (wA X es) := ⟨fun pos pins s σ H Q I ⟨_, h, q⟩ => h.run pos pins s σ H Q I q⟩
theorem wS_ok {st : Stmt} : PS X st (wS X st) := ⟨fun pins s σ H D I ⟨_, h, q⟩ => h.run pins s σ H D I q⟩
theorem wB_ok {st : List Stmt} : PSs X st (wB X st) := ⟨fun pins s σ H D I ⟨_, h, q⟩ => h.run pins s σ H D I q⟩
theorem wB_never {st : List Stmt} : PSs X st tNever := ⟨fun _ _ _ _ _ _ h => h.elim⟩
/-- e gives the data d, and the state goes from s to s' -/
def EV (X : Cx) (z : Z) (e : Expr) (es : List Sl) (s : S) (d : PyData) (s' : S) : Prop := ∀ σ H, En z H σ es → At z H s → ∀ Q : VK, (∀ v H2, Ez z H H2 → At z H2 s' → Da z H2 v d → Q v H2) → wE X e σ H Q
def ET (X : Cx) (z : Z) (e : Expr) (es : List Sl) (s : S) (b : Bool) (s' : S) : Prop := ∀ σ H, En z H σ es → At z H s → ∀ Q : Bool → Hp → Prop, (∀ H2, Ez z H H2 → At z H2 s' → Q b H2) → wT X e σ H Q
def EA (X : Cx) (z : Z) (xs : List Expr) (es : List Sl) (s : S) (as : List Sl) (s' : S) : Prop := ∀ σ H, En z H σ es → At z H s → ∀ Q : List V → Hp → Prop, (∀ vs H2, Ez z H H2 → At z H2 s' → En z H2 (vs.map some) as → Q vs H2) → wA X xs σ H Q

variable {z : Z} {es : List Sl} {s s1 s2 s' : S} {a b c e : Expr} {pos p : Pos} {d d1 d2 : PyData}
/-- from a reading -/
theorem EV.mk {te : TE} (h : PE X e te) (k : ∀ σ H, En z H σ es → At z H s → ∀ Q : VK, (∀ v H2, Ez z H H2 → At z H2 s' → Da z H2 v d → Q v H2) → te σ H Q) : EV X z e es s d s' := fun σ H en at_ Q q => ⟨te, h, k σ H en at_ Q q⟩
theorem EV.is (h : EV X z e es s d s') (q : d = d1) : EV X z e es s d1 s' := q ▸ h
theorem EV.st (h : EV X z e es s d s') (q : s' = s1) : EV X z e es s d s1 := q ▸ h
theorem ET.is {b b' : Bool} (h : ET X z e es s b s') (q : b = b') : ET X z e es s b' s' := q ▸ h
theorem ev_int {i : Int} {j} : EV X z (.Constant (.int i) j pos) es s (.int i) s := .mk pe_int fun _ H _ at_ _ q => q _ H (.refl H) at_ (.int i)
theorem ev_bl {i : Bool} {j} : EV X z (.Constant (.bool i) j pos) es s (.bool i) s := .mk pe_bl fun _ H _ at_ _ q => q _ H (.refl H) at_ (.bl i)
theorem ev_str {i : Str} {j} : EV X z (.Constant (.str i) j pos) es s (.str i) s := .mk pe_str fun _ H _ at_ _ q => q _ H (.refl H) at_ (.str i)
theorem ev_non {j} : EV X z (.Constant .none j pos) es s .none s := .mk pe_non fun _ H _ at_ _ q => q _ H (.refl H) at_ .non
theorem ev_var (i : Nat) {x : Str} (h : es[i]? = some (.val d) := by rfl) (hN : X.N[i]? = some x := by rfl) (hv : Vis X.env.scope x := by first | exact Or.inl rfl | exact Or.inr (Or.inl rfl) | exact Or.inr (Or.inr rfl))
    (hd : (x == ("__debug__" : Str)) = false := by decide) (hcd : (x == ("__classdict__" : Str)) = false := by decide) : EV X z (.Name x pos) es s d s :=
  .mk (pe_var hN hv hd hcd) fun σ H en at_ Q q => by
    obtain ⟨v, e1, e2⟩ := en.get h
    exact ⟨v, e1, q v H (.refl H) at_ e2⟩
theorem ev_glob {x : Str} {i : Int} {u : Value} (hg : Gl X x) (hm : X.mg x = some u) (r : ∃ t, u = .int i t) (hd : (x == ("__debug__" : Str)) = false := by decide) : EV X z (.Name x pos) es s (.int i) s :=
  .mk (pe_glob (v := .int i) hg hm r hd) fun _ H _ at_ _ q => q _ H (.refl H) at_ (.int i)

/-! ### operators -/
/-- what an operation on values does to data -/
def RD (z : Z) (s : S) (r : R2) (d1 d2 d : PyData) : Prop := ∀ x y H, At z H s → Da z H x d1 → Da z H y d2 → ∀ Q : VK, (∀ v H2, Ez z H H2 → At z H2 s → Da z H2 v d → Q v H2) → r x y H Q
theorem ev_opR {r : R2} {f : Value → Value → Sem Value} {op : Operator} (ho : OpR X (binaryOp op) r) (hr : RD z s2 r d1 d2 d) (ha : EV X z a es s d1 s1) (hb : EV X z b es s1 d2 s2) : EV X z (.BinOp a op b pos) es s d s2 :=
  .mk (pe_op ho wE_ok wE_ok) fun σ H en at_ Q q => ha σ H en at_ _ fun x H1 e1 a1 x1 => hb σ H1 (en.mono e1) a1 _ fun y H2 e2 a2 y2 => hr x y H2 a2 (x1.mono e2) y2 Q fun v H3 e3 a3 v3 => q v H3 ((e1.trans e2).trans e3) a3 v3
theorem ev_cmpR {r : R2} {op : CmpOp} (ho : OpR X (compareOp op) r) (hr : RD z s2 r d1 d2 d) (ha : EV X z a es s d1 s1) (hb : EV X z b es s1 d2 s2) (hm : behindInMarks op b = false) : EV X z (.Compare a [op] [b] pos) es s d s2 :=
  .mk (pe_cmpR ho wE_ok wE_ok hm) fun σ H en at_ Q q => ha σ H en at_ _ fun x H1 e1 a1 x1 => hb σ H1 (en.mono e1) a1 _ fun y H2 e2 a2 y2 => hr x y H2 a2 (x1.mono e2) y2 Q fun v H3 e3 a3 v3 => q v H3 ((e1.trans e2).trans e3) a3 v3
theorem et_cmpR {r : R2} {op : CmpOp} {k : Bool} (ho : OpR X (compareOp op) r) (hr : RD z s2 r d1 d2 (.bool k)) (ha : EV X z a es s d1 s1) (hb : EV X z b es s1 d2 s2) (hm : behindInMarks op b = false) : ET X z (.Compare a [op] [b] pos) es s k s2 :=
  fun σ H en at_ Q q => ⟨_, pt_cmpR ho wE_ok wE_ok hm, ha σ H en at_ _ fun x H1 e1 a1 x1 => hb σ H1 (en.mono e1) a1 _ fun y H2 e2 a2 y2 => hr x y H2 a2 (x1.mono e2) y2 _ fun v H3 e3 a3 v3 => by
    cases v3
    exact ⟨k, rfl, q H3 ((e1.trans e2).trans e3) a3⟩⟩
theorem rd_I0 {g : Int → Int → V} {i j : Int} {d : PyData} (h : ∀ H, Da z H (g i j) d) : RD z s (rI0 g) (.int i) (.int j) d := fun x y H at_ hx hy Q q => by
  cases hx
  cases hy
  exact ⟨i, j, rfl, rfl, q _ H (.refl H) at_ (h H)⟩
theorem rd_I {C : Int → Int → Prop} {g : Int → Int → V} {i j : Int} {d : PyData} (hc : C i j) (h : ∀ H, Da z H (g i j) d) : RD z s (rI C g) (.int i) (.int j) d := fun x y H at_ hx hy Q q => by
  cases hx
  cases hy
  exact ⟨i, j, rfl, rfl, hc, q _ H (.refl H) at_ (h H)⟩
theorem ev_add {i j : Int} (ha : EV X z a es s (.int i) s1) (hb : EV X z b es s1 (.int j) s2) : EV X z (.BinOp a .Add b pos) es s (.int (i + j)) s2 := ev_opR (f := binaryOp .Add) op_add (rd_I0 fun _ => .int _) ha hb
theorem ev_sub {i j : Int} (ha : EV X z a es s (.int i) s1) (hb : EV X z b es s1 (.int j) s2) : EV X z (.BinOp a .Sub b pos) es s (.int (i - j)) s2 := ev_opR (f := binaryOp .Sub) op_sub (rd_I0 fun _ => .int _) ha hb
theorem ev_mul {i j : Int} (hc : CMulW i j) (ha : EV X z a es s (.int i) s1) (hb : EV X z b es s1 (.int j) s2) : EV X z (.BinOp a .Mult b pos) es s (.int (i * j)) s2 := ev_opR (f := binaryOp .Mult) op_mulW (rd_I hc fun _ => .int _) ha hb
theorem ev_mod {i j : Int} (hc : j ≠ 0) (ha : EV X z a es s (.int i) s1) (hb : EV X z b es s1 (.int j) s2) : EV X z (.BinOp a .Mod b pos) es s (.int (i.fmod j)) s2 := ev_opR (f := binaryOp .Mod) op_modN (rd_I hc fun _ => .int _) ha hb
theorem ev_pow {i j : Int} (hc : CPow i j) (ha : EV X z a es s (.int i) s1) (hb : EV X z b es s1 (.int j) s2) : EV X z (.BinOp a .Pow b pos) es s (.int (i ^ j.toNat)) s2 := ev_opR (f := binaryOp .Pow) op_pow (rd_I hc fun _ => .int _) ha hb
/-- // by any divisor but 0 below 2 ^ 9000 -/
def CDivZ (_ j : Int) : Prop := j ≠ 0 ∧ j.natAbs.log2 < 9000
theorem op_fdivZ : OpR X (binaryOp .FloorDiv) (rI CDivZ fun i j => .int (i.fdiv j)) := opI fun _ _ _ _ _ _ _ hc q => floordiv_int hc.1 q (.inl (PyProof.noPylong_of_log2 hc.2))
theorem ev_div {i j : Int} (hc : CDivZ i j) (ha : EV X z a es s (.int i) s1) (hb : EV X z b es s1 (.int j) s2) : EV X z (.BinOp a .FloorDiv b pos) es s (.int (i.fdiv j)) s2 := ev_opR (f := binaryOp .FloorDiv) op_fdivZ (rd_I hc fun _ => .int _) ha hb
theorem ev_neg {i : Int} (ha : EV X z a es s (.int i) s1) : EV X z (.UnaryOp .USub a pos) es s (.int (-i)) s1 :=
  .mk (pe_un un_neg wE_ok) fun σ H en at_ Q q => ha σ H en at_ _ fun x H1 e1 a1 x1 => by
    cases x1
    exact ⟨i, rfl, q _ H1 e1 a1 (.int _)⟩
theorem ev_addS {x y : Str} (hl : x.length + y.length ≤ sizeLine) (ha : EV X z a es s (.str x) s1) (hb : EV X z b es s1 (.str y) s2) : EV X z (.BinOp a .Add b pos) es s (.str (x ++ y)) s2 :=
  ev_opR (f := binaryOp .Add) op_add_str (fun u v H at_ hu hv Q q => by
    cases hu
    cases hv
    exact ⟨x, y, rfl, rfl, hl, q _ H (.refl H) at_ (.str _)⟩) ha hb
theorem ev_catT {ds fs : List PyData} (h0 : ds ≠ []) (h1 : fs ≠ []) (hl : ds.length + fs.length ≤ 100000) (ha : EV X z a es s (.tuple ds) s1) (hb : EV X z b es s1 (.tuple fs) s2) : EV X z (.BinOp a .Add b pos) es s (.tuple (ds ++ fs)) s2 :=
  ev_opR (f := binaryOp .Add) op_catT (fun u v H at_ hu hv Q q => by
    cases hu with
    | tup n1 e1 r1 =>
      cases hv with
      | tup n2 e2 r2 =>
        refine ⟨_, _, _, _, rfl, rfl, .inl (.inl e1), .inl (.inl e2), fun w => ?_, ?_, fun w => ?_, fun w p hp => ?_⟩
        · subst w
          cases r1
          exact h0 rfl
        · rw [r1.length, r2.length]
          exact Nat.le_trans hl (by decide)
        · subst w
          cases r2
          exact absurd rfl h1
        · exact q _ _ (.new hp) (at_.new hp) (.tup (at_.fresh hp) upd_same ((r1.app r2).mono (.new hp)))) ha hb
theorem ev_cat {ds fs : List PyData} (hl : ds.length + fs.length ≤ 100000) (ha : EV X z a es s (.list ds) s1) (hb : EV X z b es s1 (.list fs) s2) : EV X z (.BinOp a .Add b pos) es s (.list (ds ++ fs)) s2 :=
  ev_opR (f := binaryOp .Add) op_cat (fun u v H at_ hu hv Q q => by
    cases hu with
    | lst n1 e1 r1 =>
      cases hv with
      | lst n2 e2 r2 =>
        refine ⟨_, _, _, _, rfl, rfl, e1, e2, ?_, fun p hp => ?_⟩
        · rw [r1.length, r2.length]
          exact Nat.le_trans hl (by decide)
        · exact q _ _ (.new hp) (at_.new hp) (.lst (at_.fresh hp) upd_same ((r1.app r2).mono (.new hp)))) ha hb

/-! ### comparisons -/
theorem ev_lt {i j : Int} (ha : EV X z a es s (.int i) s1) (hb : EV X z b es s1 (.int j) s2) : EV X z (.Compare a [.Lt] [b] pos) es s (.bool (decide (i < j))) s2 := ev_cmpR op_lt (rd_I0 fun _ => .bl _) ha hb (nomark _)
theorem ev_le {i j : Int} (ha : EV X z a es s (.int i) s1) (hb : EV X z b es s1 (.int j) s2) : EV X z (.Compare a [.LtE] [b] pos) es s (.bool (decide (i ≤ j))) s2 := ev_cmpR op_le (rd_I0 fun _ => .bl _) ha hb (nomark _)
theorem ev_gt {i j : Int} (ha : EV X z a es s (.int i) s1) (hb : EV X z b es s1 (.int j) s2) : EV X z (.Compare a [.Gt] [b] pos) es s (.bool (decide (j < i))) s2 := ev_cmpR op_gt (rd_I0 fun _ => .bl _) ha hb (nomark _)
theorem ev_ge {i j : Int} (ha : EV X z a es s (.int i) s1) (hb : EV X z b es s1 (.int j) s2) : EV X z (.Compare a [.GtE] [b] pos) es s (.bool (decide (j ≤ i))) s2 := ev_cmpR op_ge (rd_I0 fun _ => .bl _) ha hb (nomark _)
theorem et_lt {i j : Int} (ha : EV X z a es s (.int i) s1) (hb : EV X z b es s1 (.int j) s2) : ET X z (.Compare a [.Lt] [b] pos) es s (decide (i < j)) s2 := et_cmpR op_lt (rd_I0 fun _ => .bl _) ha hb (nomark _)
theorem et_le {i j : Int} (ha : EV X z a es s (.int i) s1) (hb : EV X z b es s1 (.int j) s2) : ET X z (.Compare a [.LtE] [b] pos) es s (decide (i ≤ j)) s2 := et_cmpR op_le (rd_I0 fun _ => .bl _) ha hb (nomark _)
theorem et_gt {i j : Int} (ha : EV X z a es s (.int i) s1) (hb : EV X z b es s1 (.int j) s2) : ET X z (.Compare a [.Gt] [b] pos) es s (decide (j < i)) s2 := et_cmpR op_gt (rd_I0 fun _ => .bl _) ha hb (nomark _)
theorem et_ge {i j : Int} (ha : EV X z a es s (.int i) s1) (hb : EV X z b es s1 (.int j) s2) : ET X z (.Compare a [.GtE] [b] pos) es s (decide (j ≤ i)) s2 := et_cmpR op_ge (rd_I0 fun _ => .bl _) ha hb (nomark _)
theorem rd_eqD {K : PySem.W.Frag} (n1 : nod d1 = true) (n2 : nod d2 = true) (h1 : SeqAt.shaped d1 = true) (h2 : SeqAt.shaped d2 = true) : RD z s (rEqD K) d1 d2 (.bool (PyData.eqv d1 d2)) := fun x y H at_ hx hy Q q =>
  ⟨d1, d2, hx.dp n1, hy.dp n2, h1, h2, q _ H (.refl H) at_ (.bl _)⟩
theorem rd_neD {K : PySem.W.Frag} (n1 : nod d1 = true) (n2 : nod d2 = true) (h1 : SeqAt.shaped d1 = true) (h2 : SeqAt.shaped d2 = true) : RD z s (rNeD K) d1 d2 (.bool (!PyData.eqv d1 d2)) := fun x y H at_ hx hy Q q =>
  ⟨d1, d2, hx.dp n1, hy.dp n2, h1, h2, q _ H (.refl H) at_ (.bl _)⟩
/-- plain data: no dict, of small depth -/
def Pl (d : PyData) : Prop := nod d = true ∧ SeqAt.shaped d = true
theorem ev_eq (hu : X.A.units + 64 < cLine) (p1 : Pl d1) (p2 : Pl d2) (ha : EV X z a es s d1 s1) (hb : EV X z b es s1 d2 s2) : EV X z (.Compare a [.Eq] [b] pos) es s (.bool (PyData.eqv d1 d2)) s2 := ev_cmpR (op_eqD hu) (rd_eqD p1.1 p2.1 p1.2 p2.2) ha hb (nomark _)
theorem ev_ne (hu : X.A.units + 64 < cLine) (p1 : Pl d1) (p2 : Pl d2) (ha : EV X z a es s d1 s1) (hb : EV X z b es s1 d2 s2) : EV X z (.Compare a [.NotEq] [b] pos) es s (.bool (!PyData.eqv d1 d2)) s2 := ev_cmpR (op_neD hu) (rd_neD p1.1 p2.1 p1.2 p2.2) ha hb (nomark _)
theorem et_eq (hu : X.A.units + 64 < cLine) (p1 : Pl d1) (p2 : Pl d2) (ha : EV X z a es s d1 s1) (hb : EV X z b es s1 d2 s2) : ET X z (.Compare a [.Eq] [b] pos) es s (PyData.eqv d1 d2) s2 := et_cmpR (op_eqD hu) (rd_eqD p1.1 p2.1 p1.2 p2.2) ha hb (nomark _)
theorem et_ne (hu : X.A.units + 64 < cLine) (p1 : Pl d1) (p2 : Pl d2) (ha : EV X z a es s d1 s1) (hb : EV X z b es s1 d2 s2) : ET X z (.Compare a [.NotEq] [b] pos) es s (!PyData.eqv d1 d2) s2 := et_cmpR (op_neD hu) (rd_neD p1.1 p2.1 p1.2 p2.2) ha hb (nomark _)
end

/-! ### 3. argument lists, displays, calls -/
def ED (X : Cx) (z : Z) (xs : List Expr) (es : List Sl) (s : S) (ds : List PyData) (s' : S) : Prop := ∀ σ H, En z H σ es → At z H s → ∀ Q : List V → Hp → Prop, (∀ vs H2, Ez z H H2 → At z H2 s' → DaAll z H2 vs ds → Q vs H2) → wA X xs σ H Q
section
variable {X : Cx} {z : Z} {es : List Sl} {s s1 s2 s' : S} {a b c e : Expr} {xs : List Expr} {pos p : Pos} {d d1 d2 : PyData} {ds fs : List PyData} {as : List Sl}
theorem ed_nil : ED X z [] es s [] s := fun σ H en at_ Q q => ⟨tNil, pa_nil, q [] H (.refl H) at_ .nil⟩
theorem ed_cons (ha : EV X z a es s d s1) (hr : ED X z xs es s1 ds s2) (hs : starEach (a :: xs) X.env = (false, eval a X.env) :: starEach xs X.env := by rfl) : ED X z (a :: xs) es s (d :: ds) s2 := fun σ H en at_ Q q =>
  ⟨_, pa_cons wE_ok wA_ok hs, ha σ H en at_ _ fun v H1 e1 a1 v1 => hr σ H1 (en.mono e1) a1 _ fun vs H2 e2 a2 v2 => q (v :: vs) H2 (e1.trans e2) a2 (.cons (v1.mono e2) v2)⟩
theorem ea_nil : EA X z [] es s [] s := fun σ H en at_ Q q => ⟨tNil, pa_nil, q [] H (.refl H) at_ .nil⟩
theorem ea_cons (ha : EV X z a es s d s1) (hr : EA X z xs es s1 as s2) (hs : starEach (a :: xs) X.env = (false, eval a X.env) :: starEach xs X.env := by rfl) : EA X z (a :: xs) es s (.val d :: as) s2 := fun σ H en at_ Q q =>
  ⟨_, pa_cons wE_ok wA_ok hs, ha σ H en at_ _ fun v H1 e1 a1 v1 => hr σ H1 (en.mono e1) a1 _ fun vs H2 e2 a2 v2 => q (v :: vs) H2 (e1.trans e2) a2 (.cons (.val (v1.mono e2)) v2)⟩
/-- the state's list handed on -/
theorem ea_dice (i : Nat) {x : Str} (hr : EA X z xs es s as s2) (h : es[i]? = some .dice := by rfl) (hN : X.N[i]? = some x := by rfl) (hv : Vis X.env.scope x := by first | exact Or.inl rfl | exact Or.inr (Or.inl rfl) | exact Or.inr (Or.inr rfl))
    (hs : starEach ((.Name x pos) :: xs) X.env = (false, eval (.Name x pos) X.env) :: starEach xs X.env := by rfl) (hd : (x == ("__debug__" : Str)) = false := by decide) (hcd : (x == ("__classdict__" : Str)) = false := by decide) : EA X z (.Name x pos :: xs) es s (.dice :: as) s2 := fun σ H en at_ Q q => by
  obtain ⟨a, e1, e2⟩ := en.getD h
  exact ⟨_, pa_cons (pe_var hN hv hd hcd) wA_ok hs, .ref a, e1, hr σ H en at_ _ fun vs H2 k2 a2 v2 => q (.ref a :: vs) H2 k2 a2 (.cons (.dice e2) v2)⟩
theorem ev_tup {k : Nat} (h : ED X z xs es s ds s') (hl : ds.length ≤ 100000 := by exact Nat.le_of_ble_eq_true rfl) : EV X z (.Tuple xs k pos) es s (.tuple ds) s' := .mk (pe_tup wA_ok) fun σ H en at_ Q q =>
  h σ H en at_ _ fun vs H1 e1 a1 v1 => ⟨by rw [v1.length]; exact Nat.le_trans hl (by decide), fun p hp => q _ _ (e1.trans (.new hp)) (a1.new hp) (.tup (a1.fresh hp) upd_same (v1.mono (.new hp)))⟩
theorem ev_lst (h : ED X z xs es s ds s') (hl : ds.length ≤ 100000 := by exact Nat.le_of_ble_eq_true rfl) : EV X z (.List xs pos) es s (.list ds) s' := .mk (pe_lst wA_ok) fun σ H en at_ Q q =>
  h σ H en at_ _ fun vs H1 e1 a1 v1 => ⟨by rw [v1.length]; exact Nat.le_trans hl (by decide), fun p hp => q _ _ (e1.trans (.new hp)) (a1.new hp) (.lst (a1.fresh hp) upd_same (v1.mono (.new hp)))⟩
theorem ev_emptyDict : EV X z (.Dict [] [] pos) es s (.dict []) s := .mk pe_dnewK fun σ H en at_ Q q => fun p hp => q _ _ (.new hp) (at_.new hp) (.dkv (ks := []) (ds := []) (at_.fresh hp) upd_same rfl .nil rfl)
/-- a def of the text by what it does to data: from the arguments and the state ahead to the result and the state behind -/
abbrev Rel := List Sl → S → PyData → S → Prop
def spD (R : Rel) : Sp := fun vs H Q _ => ∃ z as s d s', R as s d s' ∧ En z H (vs.map some) as ∧ At z H s ∧ ∀ v H', Ez z H H' → At z H' s' → Da z H' v d → Q v H'
/-- the name x stands for such a def -/
def Dn (P : Program) (w : World) (K : PySem.W.Frag) (mg : Str → Option Value) (base : Heap) (k : Nat) (x : Str) (R : Rel) : Prop :=
  ∃ f fd ps, FnOk P w K mg base CX0 k f fd ps (spD R) ∧ mg x = some (.ref f) ∧ PySem.W.keepIn K (.ref f) = true ∧ Binds K fd ps []
theorem ev_call {k : Nat} {x : Str} {R : Rel} (G : Dn X.prog X.w X.K X.mg X.base k x R) (hr : Room k X.A) (ha : EA X z (e :: xs) es s as s1) (hR : R as s1 d s') (hg : Gl X x := by rfl) (hdb : (x == ("__debug__" : Str)) = false := by decide)
    (he : starEach (e :: xs) X.env = (false, eval e X.env) :: starEach xs X.env := by rfl) (hpl : (backTo pos (starEach xs X.env)).any (·.1) = false := by rfl) : EV X z (.Call (.Name x p) (e :: xs) [] pos) es s d s' := by
  obtain ⟨f, fd, ps, F, hm, hk, hb⟩ := G
  refine .mk (pe_call F hr hg hm hk hb .nil pass0 wA_ok hdb he hpl) fun σ H en at_ Q q => ?_
  refine ha σ H en at_ _ fun vs H1 e1 a1 v1 => ?_
  rw [List.append_nil]
  exact ⟨z, as, s1, d, s', hR, v1, a1, fun v H' e2 a2 v2 => q v H' (e1.trans e2) a2 v2⟩
/-- what a built-in's call does to data -/
def RB (z : Z) (s : S) (r : List V → Hp → VK → Prop) (ds : List PyData) (d : PyData) : Prop := ∀ vs H, At z H s → DaAll z H vs ds → ∀ Q : VK, (∀ v H2, Ez z H H2 → At z H2 s → Da z H2 v d → Q v H2) → r vs H Q
theorem ev_bltn {id : String} {x : Str} {r : List V → Hp → VK → Prop} (hc : CallR X (.builtin id) r) (hr : RB z s1 r ds d) (hm : X.mg x = none) (ha : ED X z (e :: xs) es s ds s1) (hv : bootBuiltins x = some (.builtin id) := by decide +kernel) (hg : Gl X x := by rfl)
    (hn : x ≠ "__name__" := by decide) (hdb : (x == ("__debug__" : Str)) = false := by decide) (he : starEach (e :: xs) X.env = (false, eval e X.env) :: starEach xs X.env := by rfl) (hpl : (backTo pos (starEach xs X.env)).any (·.1) = false := by rfl) : EV X z (.Call (.Name x p) (e :: xs) [] pos) es s d s1 :=
  .mk (pe_callB hc hg hm hv wA_ok hn hdb he hpl) fun σ H en at_ Q q => ha σ H en at_ _ fun vs H1 e1 a1 v1 => hr vs H1 a1 v1 Q fun v H2 e2 a2 v2 => q v H2 (e1.trans e2) a2 v2
theorem ev_bty {T : String} {x : Str} {r : List V → Hp → VK → Prop} (hc : CallR X (.type T) r) (hr : RB z s1 r ds d) (hm : X.mg x = none) (ha : ED X z (e :: xs) es s ds s1) (hv : bootBuiltins x = some (.type T) := by decide +kernel) (hg : Gl X x := by rfl)
    (hn : x ≠ "__name__" := by decide) (hdb : (x == ("__debug__" : Str)) = false := by decide) (he : starEach (e :: xs) X.env = (false, eval e X.env) :: starEach xs X.env := by rfl) (hpl : (backTo pos (starEach xs X.env)).any (·.1) = false := by rfl) : EV X z (.Call (.Name x p) (e :: xs) [] pos) es s d s1 :=
  .mk (pe_callTy hc hg hm hv wA_ok hn hdb he hpl) fun σ H en at_ Q q => ha σ H en at_ _ fun vs H1 e1 a1 v1 => hr vs H1 a1 v1 Q fun v H2 e2 a2 v2 => q v H2 (e1.trans e2) a2 v2
/-- a module's name for a built-in function (math.gcd ..) -/
theorem ev_bfun {id : String} {x : Str} {r : List V → Hp → VK → Prop} (hc : CallR X (.builtin id) r) (hr : RB z s1 r ds d) (hm : X.mg x = some (.builtin id)) (ha : ED X z (e :: xs) es s ds s1) (hg : Gl X x := by rfl)
    (hdb : (x == ("__debug__" : Str)) = false := by decide) (he : starEach (e :: xs) X.env = (false, eval e X.env) :: starEach xs X.env := by rfl) (hpl : (backTo pos (starEach xs X.env)).any (·.1) = false := by rfl) : EV X z (.Call (.Name x p) (e :: xs) [] pos) es s d s1 :=
  .mk (pe_callBfun hc hg hm wA_ok hdb he hpl) fun σ H en at_ Q q => ha σ H en at_ _ fun vs H1 e1 a1 v1 => hr vs H1 a1 v1 Q fun v H2 e2 a2 v2 => q v H2 (e1.trans e2) a2 v2
theorem rb_len : RB z s (fun xs H Q => ∃ x n, xs = [x] ∧ LenV X.K x H n ∧ Q (.int n) H) [.list ds] (.int ds.length) := fun vs H at_ h Q q => by
  cases h with
  | cons h r =>
    cases r
    cases h with
    | lst n e r =>
      refine ⟨_, ds.length, rfl, .inl ⟨_, .inl (.inl e), r.length.symm⟩, q _ H (.refl H) at_ (.int _)⟩
theorem rb_lenT : RB z s (fun xs H Q => ∃ x n, xs = [x] ∧ LenV X.K x H n ∧ Q (.int n) H) [.tuple ds] (.int ds.length) := fun vs H at_ h Q q => by
  cases h with
  | cons h r =>
    cases r
    cases h with
    | tup n e r =>
      refine ⟨_, ds.length, rfl, .inr ⟨_, .inl (.inl e), r.length.symm⟩, q _ H (.refl H) at_ (.int _)⟩
theorem rb_lenS {x : Str} (hl : x.length ≤ sizeLine) : RB z s (fun xs H Q => ∃ x n, xs = [x] ∧ LenV X.K x H n ∧ Q (.int n) H) [.str x] (.int x.length) := fun vs H at_ h Q q => by
  cases h with
  | cons h r =>
    cases r
    cases h
    exact ⟨_, x.length, rfl, ⟨hl, rfl⟩, q _ H (.refl H) at_ (.int _)⟩
theorem rb_int {i : Int} : RB z s (fun xs H Q => (∃ i, xs = [.int i] ∧ Q (.int i) H) ∨ ∃ k, xs = [.bl k] ∧ Q (.int (if k then 1 else 0)) H) [.int i] (.int i) := fun vs H at_ h Q q => by
  cases h with
  | cons h r =>
    cases r
    cases h
    exact .inl ⟨_, rfl, q _ H (.refl H) at_ (.int _)⟩
theorem rb_intB {k : Bool} : RB z s (fun xs H Q => (∃ i, xs = [.int i] ∧ Q (.int i) H) ∨ ∃ k, xs = [.bl k] ∧ Q (.int (if k then 1 else 0)) H) [.bool k] (.int (if k then 1 else 0)) := fun vs H at_ h Q q => by
  cases h with
  | cons h r =>
    cases r
    cases h
    exact .inr ⟨_, rfl, q _ H (.refl H) at_ (.int _)⟩
theorem rb_abs {i : Int} : RB z s (fun xs H Q => ∃ i, xs = [.int i] ∧ Q (.int (if i < 0 then -i else i)) H) [.int i] (.int i.natAbs) := fun vs H at_ h Q q => by
  cases h with
  | cons h r =>
    cases r
    cases h
    refine ⟨_, rfl, ?_⟩
    have e : (if i < 0 then -i else i) = (i.natAbs : Int) := by
      by_cases h : i < 0
      · rw [if_pos h]; omega
      · rw [if_neg h]; omega
    rw [e]
    exact q _ H (.refl H) at_ (.int _)
theorem rb_gcd {i j : Int} : RB z s rGcd [.int i, .int j] (.int (Nat.gcd i.natAbs j.natAbs : Nat)) := fun vs H at_ h Q q => by
  cases h with
  | cons h r =>
    cases h
    cases r with
    | cons h r =>
      cases h
      cases r
      exact ⟨i, j, rfl, q _ H (.refl H) at_ (.int _)⟩
/-- the class of a datum -/
def tyD : PyData → String
  | .none => "NoneType"
  | .bool _ => "bool"
  | .int _ => "int"
  | .str _ => "str"
  | .list _ => "list"
  | .tuple _ => "tuple"
  | .dict _ => "dict"
/-- the class of what stands at v, or a dict of one's own kind -/
inductive TyY (K : PySem.W.Frag) (H : Hp) : V → Value → Prop
  | x {v : V} {t : Value} : TyX K H v t → TyY K H v t
  | b {a : Addr} {k : Bool} {i : Int} : H a = some (BoolD a k i) → TyY K H (.ref a) (.type "dict")
theorem Da.ty {K : PySem.W.Frag} {H : Hp} {v : V} {d : PyData} (h : Da z H v d) : TyY K H v (.type (tyD d)) := by
  cases h with
  | non => exact .x (.base .non)
  | bl b => exact .x (.base (.bl b))
  | int i => exact .x (.base (.int i))
  | str x => exact .x (.base (.str x))
  | dkv n e _ _ _ => exact .x (.base (.dK e))
  | lst n e r => exact .x (.base (.lst e))
  | tup n e r => exact .x (.base (.tup e))
  | odd n e r =>
    cases r with
    | txt x i => exact .x (.base (.dK e))
    | tru k i => exact .b e
def rIsiY (K : PySem.W.Frag) : List V → Hp → VK → Prop := fun xs H Q => ∃ (x c : V) (t u : Value) (b : Bool), xs = [x, c] ∧ ClsV c u ∧ TyY K H x t ∧ PySem.W.kitOne K t u = some b ∧ Q (.bl b) H
theorem call_isiY : CallR X (.builtin "isinstance") (rIsiY X.K) := by
  intro pins s σ H xs us Q I r h
  obtain ⟨x, c, t, u, b, rfl, k, ty, e, q⟩ := h
  cases ty with
  | x ty => exact call_isi pins s σ H _ us Q I r ⟨x, c, t, u, b, rfl, k, ty, e, q⟩
  | b hb =>
    obtain ⟨u1, u2, rfl, r1, r2⟩ := vals2 r
    have e2 := k.eq r2
    subst e2
    cases r1
    obtain ⟨⟨hs, t, hq⟩, _⟩ := I.hok _ _ hb
    obtain ⟨o, es, ep, h1, h2, _⟩ := hq X.prog X.w
    exact PySem.W.kia_one PySem.W.kitx_dict I.kIn ⟨o, h1, h2.1⟩ e (fun z => nomatch z) fun tk => ⟨.bl b, H, I.tok tk, rfl, q⟩
theorem pe_ty {x : Str} {T : String} (hm : X.mg x = none) (hv : bootBuiltins x = some (.type T) := by decide +kernel) (hg : Gl X x := by rfl) (hn : x ≠ "__name__" := by decide) (hd : (x == ("__debug__" : Str)) = false := by decide) : PE X (.Name x pos) (tC (.ty T)) :=
  ⟨fun pins s σ H Q I h => ld_blt I hg hm hv ⟨.ty T, H, I, rfl, h⟩ hn hd⟩
theorem ev_isi {x y : Str} {T : String} {k : Bool} (hm : X.mg x = none) (hm2 : X.mg y = none) (he : EV X z e es s d s1) (hk : kitB (tyD d) T = some k) (hx : x = "isinstance" := by rfl) (hv : bootBuiltins x = some (.builtin "isinstance") := by decide +kernel) (hg : Gl X x := by rfl) (hvy : bootBuiltins y = some (.type T) := by decide +kernel) (hgy : Gl X y := by rfl)
    (hn : x ≠ "__name__" := by decide) (hdb : (x == ("__debug__" : Str)) = false := by decide) (hny : y ≠ "__name__" := by decide) (hdy : (y == ("__debug__" : Str)) = false := by decide) (hs : starEach [e, .Name y p] X.env = (false, eval e X.env) :: starEach [.Name y p] X.env := by rfl) (hs2 : starEach [.Name y p] X.env = (false, eval (.Name y p) X.env) :: starEach [] X.env := by rfl) (hpl : (backTo pos (starEach [.Name y p] X.env)).any (·.1) = false := by rfl) {p0 : Pos} :
    EV X z (.Call (.Name x p0) [e, .Name y p] [] pos) es s (.bool k) s1 :=
  .mk (pe_callB call_isiY hg hm hv (pa_cons wE_ok (pa_cons (pe_ty hm2 hvy hgy hny hdy) pa_nil hs2) hs) hn hdb hs hpl) fun σ H en at_ Q q => he σ H en at_ _ fun v H1 e1 a1 v1 =>
    ⟨v, .ty T, .type (tyD d), .type T, k, rfl, .ty T, v1.ty, kit_ty hk, q _ H1 e1 a1 (.bl k)⟩
theorem atI_rel {H : Hp} {vs : List V} {i : Int} (h : DaAll z H vs ds) (e : atI ds i = some d) : ∃ v, atI vs i = some v ∧ Da z H v d := by
  unfold atI at e ⊢
  rw [h.length]
  cases hj : ixN ds.length i with
  | none =>
    rw [hj] at e
    cases e
  | some j =>
    rw [hj] at e
    exact h.get j d e
theorem ev_ixL {i : Int} (ha : EV X z a es s (.list ds) s1) (hb : EV X z b es s1 (.int i) s2) (h : atI ds i = some d) (hs : PlainIx b := by intro _ _; rfl) : EV X z (.Subscript a b pos) es s d s2 :=
  .mk (pe_ix ix_list wE_ok wE_ok hs) fun σ H en at_ Q q => ha σ H en at_ _ fun v H1 e1 a1 v1 => hb σ H1 (en.mono e1) a1 _ fun u H2 e2 a2 v2 => by
    cases v2
    cases v1 with
    | lst n e r =>
      obtain ⟨v, k1, k2⟩ := atI_rel (r.mono e2) h
      exact ⟨_, _, i, v, rfl, rfl, .inl (.inl (e2 _ _ n e)), k1, q _ H2 (e1.trans e2) a2 k2⟩
theorem ev_ixT {i : Int} (ha : EV X z a es s (.tuple ds) s1) (hb : EV X z b es s1 (.int i) s2) (h : atI ds i = some d) (hs : PlainIx b := by intro _ _; rfl) : EV X z (.Subscript a b pos) es s d s2 :=
  .mk (pe_ix ix_tup wE_ok wE_ok hs) fun σ H en at_ Q q => ha σ H en at_ _ fun v H1 e1 a1 v1 => hb σ H1 (en.mono e1) a1 _ fun u H2 e2 a2 v2 => by
    cases v2
    cases v1 with
    | tup n e r =>
      obtain ⟨v, k1, k2⟩ := atI_rel (r.mono e2) h
      exact ⟨_, _, i, v, rfl, rfl, .inl (.inl (e2 _ _ n e)), k1, q _ H2 (e1.trans e2) a2 k2⟩

/-! ### conditions -/
theorem ev_ifT (hc : ET X z c es s true s1) (ha : EV X z a es s1 d s2) : EV X z (.IfExp c a b pos) es s d s2 := .mk (pe_ifExp wT_ok wE_ok wE_ok) fun σ H en at_ Q q =>
  hc σ H en at_ _ fun H1 e1 a1 => iteT (ha σ H1 (en.mono e1) a1 _ fun v H2 e2 a2 v2 => q v H2 (e1.trans e2) a2 v2)
theorem ev_ifF (hc : ET X z c es s false s1) (hb : EV X z b es s1 d s2) : EV X z (.IfExp c a b pos) es s d s2 := .mk (pe_ifExp wT_ok wE_ok wE_ok) fun σ H en at_ Q q =>
  hc σ H en at_ _ fun H1 e1 a1 => iteF (hb σ H1 (en.mono e1) a1 _ fun v H2 e2 a2 v2 => q v H2 (e1.trans e2) a2 v2)
theorem ev_andT (ha : EV X z a es s (.bool true) s1) (hb : EV X z (.BoolOp .And (b :: xs) pos) es s1 d s2) : EV X z (.BoolOp .And (a :: b :: xs) pos) es s d s2 := .mk (pe_and wE_ok wE_ok) fun σ H en at_ Q q =>
  ha σ H en at_ _ fun v H1 e1 a1 v1 => by
    cases v1
    exact ⟨true, rfl, iteT (hb σ H1 (en.mono e1) a1 _ fun v H2 e2 a2 v2 => q v H2 (e1.trans e2) a2 v2)⟩
theorem ev_andF (ha : EV X z a es s (.bool false) s1) : EV X z (.BoolOp .And (a :: b :: xs) pos) es s (.bool false) s1 := .mk (pe_and wE_ok wE_ok) fun σ H en at_ Q q =>
  ha σ H en at_ _ fun v H1 e1 a1 v1 => by
    cases v1
    exact ⟨false, rfl, iteF (q _ H1 e1 a1 (.bl false))⟩
theorem ev_orT (ha : EV X z a es s (.bool true) s1) : EV X z (.BoolOp .Or (a :: b :: xs) pos) es s (.bool true) s1 := .mk (pe_or wE_ok wE_ok) fun σ H en at_ Q q =>
  ha σ H en at_ _ fun v H1 e1 a1 v1 => by
    cases v1
    exact ⟨true, rfl, iteT (q _ H1 e1 a1 (.bl true))⟩
theorem ev_orF (ha : EV X z a es s (.bool false) s1) (hb : EV X z (.BoolOp .Or (b :: xs) pos) es s1 d s2) : EV X z (.BoolOp .Or (a :: b :: xs) pos) es s d s2 := .mk (pe_or wE_ok wE_ok) fun σ H en at_ Q q =>
  ha σ H en at_ _ fun v H1 e1 a1 v1 => by
    cases v1
    exact ⟨false, rfl, iteF (hb σ H1 (en.mono e1) a1 _ fun v H2 e2 a2 v2 => q v H2 (e1.trans e2) a2 v2)⟩
theorem ev_b1 {op : PySem.BoolOp} (ha : EV X z a es s d s1) : EV X z (.BoolOp op [a] pos) es s d s1 := .mk (pe_one wE_ok) fun σ H en at_ Q q => ha σ H en at_ Q q
theorem ev_and {k1 k2 : Bool} (ha : EV X z a es s (.bool k1) s) (hb : k1 = true → EV X z (.BoolOp .And (b :: xs) pos) es s (.bool k2) s) : EV X z (.BoolOp .And (a :: b :: xs) pos) es s (.bool (k1 && k2)) s := by
  cases k1 with
  | true => exact ev_andT ha (hb rfl)
  | false => exact ev_andF ha
theorem ev_or {k1 k2 : Bool} (ha : EV X z a es s (.bool k1) s) (hb : k1 = false → EV X z (.BoolOp .Or (b :: xs) pos) es s (.bool k2) s) : EV X z (.BoolOp .Or (a :: b :: xs) pos) es s (.bool (k1 || k2)) s := by
  cases k1 with
  | true => exact ev_orT ha
  | false => exact ev_orF ha (hb rfl)
theorem ev_not {k : Bool} (ha : EV X z a es s (.bool k) s1) : EV X z (.UnaryOp .Not a pos) es s (.bool (!k)) s1 := .mk (pe_not wE_ok) fun σ H en at_ Q q =>
  ha σ H en at_ _ fun v H1 e1 a1 v1 => by
    cases v1
    exact ⟨k, rfl, q _ H1 e1 a1 (.bl _)⟩
theorem et_val {k : Bool} (h : EV X z e es s (.bool k) s1) (he : ∀ whole, isTrue e X.env whole = (do let v ← whole; standAt e.pos; holding [v] (truthy v)) := by intro _; rfl) : ET X z e es s k s1 := fun σ H en at_ Q q =>
  ⟨_, pt_val wE_ok he, h σ H en at_ _ fun v H1 e1 a1 v1 => by
    cases v1
    exact ⟨k, rfl, q H1 e1 a1⟩⟩
theorem et_not {k : Bool} (h : ET X z a es s k s1) : ET X z (.UnaryOp .Not a pos) es s (!k) s1 := fun σ H en at_ Q q => ⟨_, pt_not wT_ok, h σ H en at_ _ fun H1 e1 a1 => q H1 e1 a1⟩
def wW (X : Cx) (e : Expr) : TT := fun σ H Q => ∃ t, PW X e t ∧ t σ H Q
theorem wW_ok : PW X e (wW X e) := ⟨fun whole pins s σ H Q I ⟨_, h, q⟩ => h.run whole pins s σ H Q I q⟩
def EW (X : Cx) (z : Z) (e : Expr) (es : List Sl) (s : S) (b : Bool) (s' : S) : Prop := ∀ σ H, En z H σ es → At z H s → ∀ Q : Bool → Hp → Prop, (∀ H2, Ez z H H2 → At z H2 s' → Q b H2) → wW X e σ H Q
theorem et_w {k : Bool} (h : EW X z e es s k s1) : ET X z e es s k s1 := fun σ H en at_ Q q => ⟨_, PW.pt wW_ok, h σ H en at_ Q q⟩
theorem ew_andT {k : Bool} (ha : ET X z a es s true s1) (hb : EW X z (.BoolOp .And (b :: xs) pos) es s1 k s2) : EW X z (.BoolOp .And (a :: b :: xs) pos) es s k s2 := fun σ H en at_ Q q => ⟨_, pw_and wT_ok wW_ok,
  ha σ H en at_ _ fun H1 e1 a1 => iteT (hb σ H1 (en.mono e1) a1 _ fun H2 e2 a2 => q H2 (e1.trans e2) a2)⟩
theorem ew_andF (ha : ET X z a es s false s1) : EW X z (.BoolOp .And (a :: b :: xs) pos) es s false s1 := fun σ H en at_ Q q => ⟨_, pw_and wT_ok wW_ok, ha σ H en at_ _ fun H1 e1 a1 => iteF (q H1 e1 a1)⟩
theorem ew_orF {k : Bool} (ha : ET X z a es s false s1) (hb : EW X z (.BoolOp .Or (b :: xs) pos) es s1 k s2) : EW X z (.BoolOp .Or (a :: b :: xs) pos) es s k s2 := fun σ H en at_ Q q => ⟨_, pw_or wT_ok wW_ok,
  ha σ H en at_ _ fun H1 e1 a1 => iteF (hb σ H1 (en.mono e1) a1 _ fun H2 e2 a2 => q H2 (e1.trans e2) a2)⟩
theorem ew_orT (ha : ET X z a es s true s1) : EW X z (.BoolOp .Or (a :: b :: xs) pos) es s true s1 := fun σ H en at_ Q q => ⟨_, pw_or wT_ok wW_ok, ha σ H en at_ _ fun H1 e1 a1 => iteT (q H1 e1 a1)⟩
theorem ew_and1 {k : Bool} (ha : ET X z a es s k s1) : EW X z (.BoolOp .And [a] pos) es s k s1 := fun σ H en at_ Q q => ⟨_, pw_and1 wT_ok, ha σ H en at_ Q q⟩
theorem ew_or1 {k : Bool} (ha : ET X z a es s k s1) : EW X z (.BoolOp .Or [a] pos) es s k s1 := fun σ H en at_ Q q => ⟨_, pw_or1 wT_ok, ha σ H en at_ Q q⟩
theorem ew_and {k1 k2 : Bool} (ha : ET X z a es s k1 s) (hb : k1 = true → EW X z (.BoolOp .And (b :: xs) pos) es s k2 s) : EW X z (.BoolOp .And (a :: b :: xs) pos) es s (k1 && k2) s := by
  cases k1 with
  | true => exact ew_andT ha (hb rfl)
  | false => exact ew_andF ha
theorem ew_or {k1 k2 : Bool} (ha : ET X z a es s k1 s) (hb : k1 = false → EW X z (.BoolOp .Or (b :: xs) pos) es s k2 s) : EW X z (.BoolOp .Or (a :: b :: xs) pos) es s (k1 || k2) s := by
  cases k1 with
  | true => exact ew_orT ha
  | false => exact ew_orF ha (hb rfl)
theorem et_chain {i j l : Int} {s3 : S} (ha : EV X z a es s (.int i) s1) (hb : EV X z b es s1 (.int j) s2) (hc : EV X z c es s2 (.int l) s2) (hm : lastMarks [.LtE, .LtE] [b, c] = false := by with_unfolding_all rfl) : EV X z (.Compare a [.LtE, .LtE] [b, c] pos) es s (.bool (decide (i ≤ j) && decide (j ≤ l))) s2 :=
  .mk (pe_chain op_le op_le wE_ok wE_ok wE_ok hm) fun σ H en at_ Q q => ha σ H en at_ _ fun x H1 e1 a1 x1 => hb σ H1 (en.mono e1) a1 _ fun y H2 e2 a2 y2 => by
    cases x1
    cases y2
    refine ⟨i, j, rfl, rfl, decide (i ≤ j), rfl, ?_⟩
    cases hk : decide (i ≤ j) with
    | true =>
      refine iteT (hc σ H2 (en.mono (e1.trans e2)) a2 _ fun w H3 e3 a3 w3 => ?_)
      cases w3
      exact ⟨j, l, rfl, rfl, by rw [hk] at q; exact q _ H3 ((e1.trans e2).trans e3) a3 (.bl _)⟩
    | false => exact iteF (by rw [hk] at q; exact q _ H2 (e1.trans e2) a2 (.bl _))
theorem et_chainLt {i j l : Int} (ha : EV X z a es s (.int i) s1) (hb : EV X z b es s1 (.int j) s2) (hc : EV X z c es s2 (.int l) s2) (hm : lastMarks [.Lt, .Lt] [b, c] = false := by with_unfolding_all rfl) : EV X z (.Compare a [.Lt, .Lt] [b, c] pos) es s (.bool (decide (i < j) && decide (j < l))) s2 :=
  .mk (pe_chain op_lt op_lt wE_ok wE_ok wE_ok hm) fun σ H en at_ Q q => ha σ H en at_ _ fun x H1 e1 a1 x1 => hb σ H1 (en.mono e1) a1 _ fun y H2 e2 a2 y2 => by
    cases x1
    cases y2
    refine ⟨i, j, rfl, rfl, decide (i < j), rfl, ?_⟩
    cases hk : decide (i < j) with
    | true =>
      refine iteT (hc σ H2 (en.mono (e1.trans e2)) a2 _ fun w H3 e3 a3 w3 => ?_)
      cases w3
      exact ⟨j, l, rfl, rfl, by rw [hk] at q; exact q _ H3 ((e1.trans e2).trans e3) a3 (.bl _)⟩
    | false => exact iteF (by rw [hk] at q; exact q _ H2 (e1.trans e2) a2 (.bl _))
end

/-! ### 4. statements -/
inductive Out | nx (es : List Sl) (s : S) | rt (d : PyData) (s : S) | ex (W : L2.WX) (es : List Sl) (x : XD) (s : S)
def Meets (z : Z) (H : Hp) (D : Ends) : Out → Prop
  | .nx es s => ∀ σ' H', Ez z H H' → At z H' s → En z H' σ' es → D.nx σ' H'
  | .rt d s => ∀ v H', Ez z H H' → At z H' s → Da z H' v d → D.rt v H'
  | .ex W es x s => ∀ cls dx σ' H', Ez z H H' → At z H' s → En z H' σ' es → XR z H' cls dx x → W cls dx σ' H'
theorem Meets.mono {z : Z} {H H1 : Hp} {D : Ends} (e : Ez z H H1) : ∀ {o : Out}, Meets z H D o → Meets z H1 D o
  | .nx es s, h => fun σ' H' k a n => h σ' H' (e.trans k) a n
  | .rt d s, h => fun v H' k a n => h v H' (e.trans k) a n
  | .ex W es x s, h => fun cls dx σ' H' k a n r => h cls dx σ' H' (e.trans k) a n r
/-- a block: from what the slots hold and the state ahead to how it ends -/
def SR (X : Cx) (z : Z) (st : List Stmt) (es : List Sl) (s : S) (o : Out) : Prop := ∀ σ H, En z H σ es → At z H s → ∀ D : Ends, Meets z H D o → wB X st D σ H
section
variable {X : Cx} {z : Z} {es es1 es2 fs : List Sl} {s s1 s2 s' : S} {a b c e : Expr} {xs : List Expr} {pos p p1 p2 p3 p4 : Pos} {d d1 d2 : PyData} {ds : List PyData} {as : List Sl} {o : Out} {st : Stmt} {rest body els : List Stmt}
theorem sr_nil : SR X z [] es s (.nx es s) := fun σ H en at_ D q => ⟨_, pss_nil, q σ H (.refl H) at_ en⟩
theorem sr_le (h : SR X z body es s (.nx es1 s1)) (l : Le es1 es2) : SR X z body es s (.nx es2 s1) := fun σ H en at_ D q => h σ H en at_ D fun σ' H' k a n => q σ' H' k a (n.le l)
theorem sr_pre (l : Le es fs) (h : SR X z body fs s o) : SR X z body es s o := fun σ H en at_ D q => h σ H (en.le l) at_ D q
theorem sr_is {o' : Out} (h : SR X z body es s o) (q : o = o') : SR X z body es s o' := q ▸ h
theorem sr_ret (h : EV X z e es s d s1) : SR X z (.Return (some e) pos :: rest) es s (.rt d s1) := fun σ H en at_ D q =>
  ⟨_, pss_cons (ps_ret wE_ok) wB_never, h σ H en at_ _ fun v H1 e1 a1 v1 => q v H1 e1 a1 v1⟩
theorem sr_retN : SR X z (.Return none pos :: rest) es s (.rt .none s) := fun σ H en at_ D q =>
  ⟨_, pss_cons ps_retN wB_never, q _ H (.refl H) at_ .non⟩
theorem sr_asg (i : Nat) {x : Str} (hN : X.N.Nodup) (h : EV X z e es s d s1) (k : SR X z rest (es.set i (.val d)) s1 o) (hi : X.N[i]? = some x := by rfl) (hx : Loc X.env.scope x := by first | exact Or.inl rfl | exact Or.inr rfl)
    (hs : swapsWith e (some (.Name x p)) pos.line X.env = pure false := by rfl) (hf : X.fn x = true ∨ X.env.scope.names.lookup x = some .local := by first | exact .inl rfl | exact .inr rfl) : SR X z (.Assign [.Name x p] e pos :: rest) es s o := fun σ H en at_ D q =>
  ⟨_, pss_cons (ps_set hN hi hx wE_ok hs hf) wB_ok, h σ H en at_ _ fun v H1 e1 a1 v1 => k _ H1 ((en.mono e1).set i (.val v1)) a1 D (q.mono e1)⟩
theorem sr_expr (h : EV X z e es s d s1) (k : SR X z rest es s1 o) (hs : swapsWith e none pos.line X.env = pure false := by rfl) : SR X z (.Expr e pos :: rest) es s o := fun σ H en at_ D q =>
  ⟨_, pss_cons (ps_expr wE_ok hs) wB_ok, h σ H en at_ _ fun v H1 e1 a1 v1 => k _ H1 (en.mono e1) a1 D (q.mono e1)⟩
/-- x, y = e1, e2 -/
theorem sr_par (i j : Nat) {x y : Str} {kt k2 : Nat} (hc : X.calm = true) (hN : X.N.Nodup) (h : ED X z [a, b] es s [d1, d2] s1) (k : SR X z rest ((es.set i (.val d1)).set j (.val d2)) s1 o)
    (hi : X.N[i]? = some x := by rfl) (hj : X.N[j]? = some y := by rfl) (hij : i ≠ j := by decide) (hx : X.env.scope.names.lookup x = some .local := by rfl) (hy : X.env.scope.names.lookup y = some .local := by rfl)
    (hw : swappedStores [.Tuple [.Name x p1, .Name y p2] kt p3] (.Tuple [a, b] k2 p4) X.env = pure (some [x, y]) := by rfl) (hs : swapsWithSole [.Tuple [.Name x p1, .Name y p2] kt p3] (.Tuple [a, b] k2 p4) pos.line X.env = pure false := by rfl) :
    SR X z (.Assign [.Tuple [.Name x p1, .Name y p2] kt p3] (.Tuple [a, b] k2 p4) pos :: rest) es s o := fun σ H en at_ D q =>
  ⟨_, pss_cons (ps_par hc hN hi hj hij hx hy wA_ok hw hs) wB_ok, h σ H en at_ _ fun vs H1 e1 a1 v1 => by
    cases v1 with
    | cons h1 r =>
      cases r with
      | cons h2 r =>
        cases r
        exact ⟨_, _, rfl, k _ H1 (((en.mono e1).set i (.val h1)).set j (.val h2)) a1 D (q.mono e1)⟩⟩
/-- x, y = e, e a tuple -/
theorem sr_unp2 (i j : Nat) {x y : Str} {kt : Nat} (hc : X.calm = true) (hN : X.N.Nodup) (h : EV X z e es s (.tuple [d1, d2]) s1) (k : SR X z rest ((es.set i (.val d1)).set j (.val d2)) s1 o)
    (hi : X.N[i]? = some x := by rfl) (hj : X.N[j]? = some y := by rfl) (hx : Loc X.env.scope x := by first | exact Or.inl rfl | exact Or.inr rfl) (hy : Loc X.env.scope y := by first | exact Or.inl rfl | exact Or.inr rfl)
    (fx : X.fn x = true ∨ X.env.scope.names.lookup x = some .local := by first | exact .inl rfl | exact .inr rfl) (fy : X.fn y = true ∨ X.env.scope.names.lookup y = some .local := by first | exact .inl rfl | exact .inr rfl)
    (hs : swapsWithSole [.Tuple [.Name x p1, .Name y p2] kt p3] e pos.line X.env = pure false := by rfl) (hw : swappedStores [.Tuple [.Name x p1, .Name y p2] kt p3] e X.env = pure none := by rfl) 
    (hn : (assignEach [.Name x p1, .Name y p2] X.env).length = 2 := by rfl) (hst : (assignEach [.Name x p1, .Name y p2] X.env).findIdx? (·.1) = none := by rfl)
    (h1 : (assignEach (.Name x p1 :: [.Name y p2]) X.env).map (·.2) = assign (.Name x p1) X.env :: (assignEach [.Name y p2] X.env).map (·.2) := by rfl) (h2 : (assignEach (.Name y p2 :: []) X.env).map (·.2) = assign (.Name y p2) X.env :: (assignEach [] X.env).map (·.2) := by rfl) :
    SR X z (.Assign [.Tuple [.Name x p1, .Name y p2] kt p3] e pos :: rest) es s o := fun σ H en at_ D q =>
  ⟨_, pss_cons (ps_asg wE_ok (pg_tup hc (pgs_cons (pg_name hN hi hx fx) (pgs_cons (pg_name hN hj hy fy) pgs_nil h2) h1) hn hst) hs hw) wB_ok, h σ H en at_ _ fun v H1 e1 a1 v1 => by
    cases v1 with
    | tup n e r =>
      cases r with
      | cons v1 r =>
        cases r with
        | cons v2 r =>
          cases r
          exact ⟨_, _, rfl, .inl (.inl e), rfl, _, _, rfl, _, _, rfl, rfl, k _ H1 (((en.mono e1).set i (.val v1)).set j (.val v2)) a1 D (q.mono e1)⟩⟩
theorem sr_unp3 (i j l : Nat) {x y w : Str} {kt : Nat} {d3 : PyData} {p5 : Pos} (hc : X.calm = true) (hN : X.N.Nodup) (h : EV X z e es s (.tuple [d1, d2, d3]) s1) (k : SR X z rest (((es.set i (.val d1)).set j (.val d2)).set l (.val d3)) s1 o)
    (hi : X.N[i]? = some x := by rfl) (hj : X.N[j]? = some y := by rfl) (hl : X.N[l]? = some w := by rfl) (hx : Loc X.env.scope x := by first | exact Or.inl rfl | exact Or.inr rfl) (hy : Loc X.env.scope y := by first | exact Or.inl rfl | exact Or.inr rfl) (hw' : Loc X.env.scope w := by first | exact Or.inl rfl | exact Or.inr rfl)
    (fx : X.fn x = true ∨ X.env.scope.names.lookup x = some .local := by first | exact .inl rfl | exact .inr rfl) (fy : X.fn y = true ∨ X.env.scope.names.lookup y = some .local := by first | exact .inl rfl | exact .inr rfl) (fw : X.fn w = true ∨ X.env.scope.names.lookup w = some .local := by first | exact .inl rfl | exact .inr rfl)
    (hs : swapsWithSole [.Tuple [.Name x p1, .Name y p2, .Name w p5] kt p3] e pos.line X.env = pure false := by rfl) (hw : swappedStores [.Tuple [.Name x p1, .Name y p2, .Name w p5] kt p3] e X.env = pure none := by rfl) 
    (hn : (assignEach [.Name x p1, .Name y p2, .Name w p5] X.env).length = 3 := by rfl) (hst : (assignEach [.Name x p1, .Name y p2, .Name w p5] X.env).findIdx? (·.1) = none := by rfl)
    (h1 : (assignEach (.Name x p1 :: [.Name y p2, .Name w p5]) X.env).map (·.2) = assign (.Name x p1) X.env :: (assignEach [.Name y p2, .Name w p5] X.env).map (·.2) := by rfl) (h2 : (assignEach (.Name y p2 :: [.Name w p5]) X.env).map (·.2) = assign (.Name y p2) X.env :: (assignEach [.Name w p5] X.env).map (·.2) := by rfl)
    (h3 : (assignEach (.Name w p5 :: []) X.env).map (·.2) = assign (.Name w p5) X.env :: (assignEach [] X.env).map (·.2) := by rfl) :
    SR X z (.Assign [.Tuple [.Name x p1, .Name y p2, .Name w p5] kt p3] e pos :: rest) es s o := fun σ H en at_ D q =>
  ⟨_, pss_cons (ps_asg wE_ok (pg_tup hc (pgs_cons (pg_name hN hi hx fx) (pgs_cons (pg_name hN hj hy fy) (pgs_cons (pg_name hN hl hw' fw) pgs_nil h3) h2) h1) hn hst) hs hw) wB_ok, h σ H en at_ _ fun v H1 e1 a1 v1 => by
    cases v1 with
    | tup n e r =>
      cases r with
      | cons v1 r =>
        cases r with
        | cons v2 r =>
          cases r with
          | cons v3 r =>
            cases r
            exact ⟨_, _, rfl, .inl (.inl e), rfl, _, _, rfl, _, _, rfl, _, _, rfl, rfl, k _ H1 ((((en.mono e1).set i (.val v1)).set j (.val v2)).set l (.val v3)) a1 D (q.mono e1)⟩⟩
theorem sr_unp4 (i j l m : Nat) {x y w u : Str} {kt : Nat} {d3 d4 : PyData} {p5 p6 : Pos} (hc : X.calm = true) (hN : X.N.Nodup) (h : EV X z e es s (.tuple [d1, d2, d3, d4]) s1) (k : SR X z rest ((((es.set i (.val d1)).set j (.val d2)).set l (.val d3)).set m (.val d4)) s1 o)
    (hi : X.N[i]? = some x := by rfl) (hj : X.N[j]? = some y := by rfl) (hl : X.N[l]? = some w := by rfl) (hm : X.N[m]? = some u := by rfl) (hx : Loc X.env.scope x := by first | exact Or.inl rfl | exact Or.inr rfl) (hy : Loc X.env.scope y := by first | exact Or.inl rfl | exact Or.inr rfl) (hw' : Loc X.env.scope w := by first | exact Or.inl rfl | exact Or.inr rfl) (hu : Loc X.env.scope u := by first | exact Or.inl rfl | exact Or.inr rfl)
    (fx : X.fn x = true ∨ X.env.scope.names.lookup x = some .local := by first | exact .inl rfl | exact .inr rfl) (fy : X.fn y = true ∨ X.env.scope.names.lookup y = some .local := by first | exact .inl rfl | exact .inr rfl) (fw : X.fn w = true ∨ X.env.scope.names.lookup w = some .local := by first | exact .inl rfl | exact .inr rfl) (fu : X.fn u = true ∨ X.env.scope.names.lookup u = some .local := by first | exact .inl rfl | exact .inr rfl)
    (hs : swapsWithSole [.Tuple [.Name x p1, .Name y p2, .Name w p5, .Name u p6] kt p3] e pos.line X.env = pure false := by rfl) (hw : swappedStores [.Tuple [.Name x p1, .Name y p2, .Name w p5, .Name u p6] kt p3] e X.env = pure none := by rfl) 
    (hn : (assignEach [.Name x p1, .Name y p2, .Name w p5, .Name u p6] X.env).length = 4 := by rfl) (hst : (assignEach [.Name x p1, .Name y p2, .Name w p5, .Name u p6] X.env).findIdx? (·.1) = none := by rfl)
    (h1 : (assignEach (.Name x p1 :: [.Name y p2, .Name w p5, .Name u p6]) X.env).map (·.2) = assign (.Name x p1) X.env :: (assignEach [.Name y p2, .Name w p5, .Name u p6] X.env).map (·.2) := by rfl) (h2 : (assignEach (.Name y p2 :: [.Name w p5, .Name u p6]) X.env).map (·.2) = assign (.Name y p2) X.env :: (assignEach [.Name w p5, .Name u p6] X.env).map (·.2) := by rfl)
    (h3 : (assignEach (.Name w p5 :: [.Name u p6]) X.env).map (·.2) = assign (.Name w p5) X.env :: (assignEach [.Name u p6] X.env).map (·.2) := by rfl) (h4 : (assignEach (.Name u p6 :: []) X.env).map (·.2) = assign (.Name u p6) X.env :: (assignEach [] X.env).map (·.2) := by rfl) :
    SR X z (.Assign [.Tuple [.Name x p1, .Name y p2, .Name w p5, .Name u p6] kt p3] e pos :: rest) es s o := fun σ H en at_ D q =>
  ⟨_, pss_cons (ps_asg wE_ok (pg_tup hc (pgs_cons (pg_name hN hi hx fx) (pgs_cons (pg_name hN hj hy fy) (pgs_cons (pg_name hN hl hw' fw) (pgs_cons (pg_name hN hm hu fu) pgs_nil h4) h3) h2) h1) hn hst) hs hw) wB_ok, h σ H en at_ _ fun v H1 e1 a1 v1 => by
    cases v1 with
    | tup n e r =>
      cases r with
      | cons v1 r =>
        cases r with
        | cons v2 r =>
          cases r with
          | cons v3 r =>
            cases r with
            | cons v4 r =>
              cases r
              exact ⟨_, _, rfl, .inl (.inl e), rfl, _, _, rfl, _, _, rfl, _, _, rfl, _, _, rfl, rfl, k _ H1 (((((en.mono e1).set i (.val v1)).set j (.val v2)).set l (.val v3)).set m (.val v4)) a1 D (q.mono e1)⟩⟩
/-- if: the branch returns | goes on -/
theorem sr_ifT (hc : ET X z c es s true s1) (h : SR X z body es s1 (.rt d s2)) : SR X z (.If c body els pos :: rest) es s (.rt d s2) := fun σ H en at_ D q =>
  ⟨_, pss_cons (ps_if wT_ok wB_ok wB_never) wB_never, hc σ H en at_ _ fun H1 e1 a1 => iteT (h σ H1 (en.mono e1) a1 _ fun v H2 e2 a2 v2 => q v H2 (e1.trans e2) a2 v2)⟩
theorem sr_ifTn (hc : ET X z c es s true s1) (h : SR X z body es s1 (.nx es2 s2)) (k : SR X z rest es2 s2 o) : SR X z (.If c body els pos :: rest) es s o := fun σ H en at_ D q =>
  ⟨_, pss_cons (ps_if wT_ok wB_ok wB_never) wB_ok, hc σ H en at_ _ fun H1 e1 a1 => iteT (h σ H1 (en.mono e1) a1 _ fun σ' H2 e2 a2 n2 => k σ' H2 n2 a2 D (q.mono (e1.trans e2)))⟩
theorem sr_ifF (hc : ET X z c es s false s1) (k : SR X z rest es s1 o) : SR X z (.If c body [] pos :: rest) es s o := fun σ H en at_ D q =>
  ⟨_, pss_cons (ps_if wT_ok wB_never pss_nil) wB_ok, hc σ H en at_ _ fun H1 e1 a1 => iteF (k σ H1 (en.mono e1) a1 D (q.mono e1))⟩
theorem sr_elF (hc : ET X z c es s false s1) (h : SR X z els es s1 (.rt d s2)) : SR X z (.If c body els pos :: rest) es s (.rt d s2) := fun σ H en at_ D q =>
  ⟨_, pss_cons (ps_if wT_ok wB_never wB_ok) wB_never, hc σ H en at_ _ fun H1 e1 a1 => iteF (h σ H1 (en.mono e1) a1 _ fun v H2 e2 a2 v2 => q v H2 (e1.trans e2) a2 v2)⟩
theorem sr_elFn (hc : ET X z c es s false s1) (h : SR X z els es s1 (.nx es2 s2)) (k : SR X z rest es2 s2 o) : SR X z (.If c body els pos :: rest) es s o := fun σ H en at_ D q =>
  ⟨_, pss_cons (ps_if wT_ok wB_never wB_ok) wB_ok, hc σ H en at_ _ fun H1 e1 a1 => iteF (h σ H1 (en.mono e1) a1 _ fun σ' H2 e2 a2 n2 => k σ' H2 n2 a2 D (q.mono (e1.trans e2)))⟩
/-- the state's list read and written by place -/
def comp (s : S) : Nat → Int
  | 0 => s.1
  | 1 => s.2.1
  | _ => s.2.2
def putc (s : S) (k : Nat) (i : Int) : S := match k with
  | 0 => (i, s.2.1, s.2.2)
  | 1 => (s.1, i, s.2.2)
  | _ => (s.1, s.2.1, i)
theorem ev_dice (i k : Nat) {x : Str} {j} (hk : k < 3 := by decide) (h : es[i]? = some .dice := by rfl) (hN : X.N[i]? = some x := by rfl) (hv : Vis X.env.scope x := by first | exact Or.inl rfl | exact Or.inr (Or.inl rfl) | exact Or.inr (Or.inr rfl))
    (hd : (x == ("__debug__" : Str)) = false := by decide) (hcd : (x == ("__classdict__" : Str)) = false := by decide) : EV X z (.Subscript (.Name x p) (.Constant (.int (k : Int)) j p2) pos) es s (.int (comp s k)) s :=
  .mk (pe_ix ix_list (pe_var hN hv hd hcd) pe_int (by intro _ _; rfl)) fun σ H en at_ Q q => by
    obtain ⟨a, e1, e2⟩ := en.getD h
    refine ⟨_, e1, a, _, (k : Int), .int (comp s k), rfl, rfl, .inl (.inl (at_.d a e2)), ?_, q _ H (.refl H) at_ (.int _)⟩
    match k, hk with
    | 0, _ => exact atI_nat (j := 0) rfl
    | 1, _ => exact atI_nat (j := 1) rfl
    | 2, _ => exact atI_nat (j := 2) rfl
theorem sr_put (i k : Nat) {x : Str} {j} {n : Int} (h : EV X z e es s (.int n) s1) (kk : SR X z rest es (putc s1 k n) o) (hk : k < 3 := by decide) (hi : es[i]? = some .dice := by rfl) (hN : X.N[i]? = some x := by rfl) (hv : Vis X.env.scope x := by first | exact Or.inl rfl | exact Or.inr (Or.inl rfl) | exact Or.inr (Or.inr rfl))
    (hd : (x == ("__debug__" : Str)) = false := by decide) (hcd : (x == ("__classdict__" : Str)) = false := by decide)
    (hs : swapsWithSole [.Subscript (.Name x p) (.Constant (.int (k : Int)) j p2) p3] e pos.line X.env = pure false := by rfl) (hw : swappedStores [.Subscript (.Name x p) (.Constant (.int (k : Int)) j p2) p3] e X.env = pure none := by rfl) :
    SR X z (.Assign [.Subscript (.Name x p) (.Constant (.int (k : Int)) j p2) p3] e pos :: rest) es s o := fun σ H en at_ D q =>
  ⟨_, pss_cons (ps_asg wE_ok (pg_sub (pe_var hN hv hd hcd) pe_int set_list) hs hw) wB_ok, h σ H en at_ _ fun v H1 e1 a1 v1 => by
    cases v1
    obtain ⟨a, k1, k2⟩ := en.getD hi
    have hE : Ez z H1 (upd H1 a (dv (putc s1 k n))) := .set k2
    have go : wB X rest D σ (upd H1 a (dv (putc s1 k n))) := kk σ _ ((en.mono e1).mono hE) (a1.set k2) D (q.mono (e1.trans hE))
    refine ⟨_, k1, a, _, (k : Int), k, rfl, rfl, a1.d a k2, ?_, ?_⟩
    · match k, hk with
      | 0, _ => rfl
      | 1, _ => rfl
      | 2, _ => rfl
    · match k, hk, go with
      | 0, _, go => exact go
      | 1, _, go => exact go
      | 2, _, go => exact go⟩

/-! ### loops -/
theorem sr_for1 (l : Nat) {x : Str} {n : Int} (hp : PassesOwn (model X.prog X.w) X.A X.env X.xe) (hc : X.calm = true) (hN : X.N.Nodup) (hm : X.mg "range" = none) (h : ED X z [a] es s [.int n] s1) (hn : n < 2 ^ 60) (hn0 : -(2 ^ 60) < n) (E : Nat → List Sl) (T : Nat → S) (h0 : Le es (E 0)) (t0 : T 0 = s1)
    (hb : ∀ i : Nat, (i : Int) < n → SR X z body ((E i).set l (.val (.int (i : Int)))) (T i) (.nx (E (i + 1)) (T (i + 1)))) (k : SR X z rest (E n.toNat) (T n.toNat) o)
    (hi : X.N[l]? = some x := by rfl) (hx : Loc X.env.scope x := by first | exact Or.inl rfl | exact Or.inr rfl) (hg : Gl X "range" := by rfl) (hs : starEach [a] X.env = [(false, eval a X.env)] := by rfl)
    (hf : X.fn x = true ∨ X.env.scope.names.lookup x = some .local := by first | exact .inl rfl | exact .inr rfl) (hfo : ∀ x, foldedSetIterable (.Call (.Name "range" p2) [a] [] p3) X.env x = pure x := by intro _; rfl) :
    SR X z (.For (.Name x p) (.Call (.Name "range" p2) [a] [] p3) body [] pos :: rest) es s o := fun σ H en at_ D q =>
  ⟨_, pss_cons (ps_for hp hc (pi_range1 hg hm wA_ok hs) (pg_name hN hi hx hf) wB_ok hfo) wB_ok, h σ H en at_ _ fun vs H1 e1 a1 v1 => by
    cases v1 with
    | cons v1 r =>
      cases r
      cases v1
      refine ⟨n, rfl, by omega, by omega, for_range (lo := 0) (n := n.toNat) (fun i σ' H' => Ez z H H' ∧ At z H' (T i) ∧ En z H' σ' (E i)) ⟨e1, t0 ▸ a1, (en.mono e1).le h0⟩ (fun i σ' H' hi w => ?_) fun σ' H' w => k σ' H' w.2.2 w.2.1 D (q.mono w.1)⟩
      have e0 : (0 : Int) + (i : Int) = (i : Int) := Int.zero_add _
      show wB X body _ (σ'.set l (some (.int ((0 : Int) + (i : Int))))) H'
      rw [e0]
      exact hb i (by omega) _ H' (w.2.2.set l (.val (.int _))) w.2.1 _ fun σ2 H2 e2 a2 n2 => ⟨w.1.trans e2, a2, n2⟩⟩
theorem sr_for2 (l : Nat) {x : Str} {lo n : Int} (hp : PassesOwn (model X.prog X.w) X.A X.env X.xe) (hc : X.calm = true) (hN : X.N.Nodup) (hm : X.mg "range" = none) (h : ED X z [a, b] es s [.int lo, .int n] s1) (hl : -(2 ^ 60) < lo ∧ lo < 2 ^ 60) (hn : n < 2 ^ 60) (hn0 : -(2 ^ 60) < n) (E : Nat → List Sl) (T : Nat → S) (h0 : Le es (E 0)) (t0 : T 0 = s1)
    (hb : ∀ i : Nat, lo + (i : Int) < n → SR X z body ((E i).set l (.val (.int (lo + (i : Int))))) (T i) (.nx (E (i + 1)) (T (i + 1)))) (k : SR X z rest (E (n - lo).toNat) (T (n - lo).toNat) o)
    (hi : X.N[l]? = some x := by rfl) (hx : Loc X.env.scope x := by first | exact Or.inl rfl | exact Or.inr rfl) (hg : Gl X "range" := by rfl) (hs : starEach [a, b] X.env = [(false, eval a X.env), (false, eval b X.env)] := by rfl) (hs2 : starEach [b] X.env = [(false, eval b X.env)] := by rfl)
    (hf : X.fn x = true ∨ X.env.scope.names.lookup x = some .local := by first | exact .inl rfl | exact .inr rfl) (hfo : ∀ x, foldedSetIterable (.Call (.Name "range" p2) [a, b] [] p3) X.env x = pure x := by intro _; rfl) :
    SR X z (.For (.Name x p) (.Call (.Name "range" p2) [a, b] [] p3) body [] pos :: rest) es s o := fun σ H en at_ D q =>
  ⟨_, pss_cons (ps_for hp hc (pi_range2 hg hm wA_ok hs hs2) (pg_name hN hi hx hf) wB_ok hfo) wB_ok, h σ H en at_ _ fun vs H1 e1 a1 v1 => by
    cases v1 with
    | cons v1 r =>
      cases v1
      cases r with
      | cons v1 r =>
        cases v1
        cases r
        refine ⟨lo, n, rfl, by omega, for_range (lo := lo) (n := (n - lo).toNat) (fun i σ' H' => Ez z H H' ∧ At z H' (T i) ∧ En z H' σ' (E i)) ⟨e1, t0 ▸ a1, (en.mono e1).le h0⟩ (fun i σ' H' hi w => ?_) fun σ' H' w => k σ' H' w.2.2 w.2.1 D (q.mono w.1)⟩
        exact hb i (by omega) _ H' (w.2.2.set l (.val (.int _))) w.2.1 _ fun σ2 H2 e2 a2 n2 => ⟨w.1.trans e2, a2, n2⟩⟩
theorem sr_while (hp : PassesOwn (model X.prog X.w) X.A X.env X.xe) (E : Nat → List Sl) (T : Nat → S) (n : Nat) (h0 : Le es (E 0)) (t0 : T 0 = s) (hc : ∀ i, i < n → ET X z c (E i) (T i) true (T i)) (hb : ∀ i, i < n → SR X z body (E i) (T i) (.nx (E (i + 1)) (T (i + 1))))
    (hz : ET X z c (E n) (T n) false (T n)) (k : SR X z rest (E n) (T n) o) : SR X z (.While c body [] pos :: rest) es s o := fun σ H en at_ D q =>
  ⟨_, pss_cons (ps_while hp wT_ok wB_ok) wB_ok, fun m σ' H' => ∃ i, i ≤ n ∧ m = n - i ∧ Ez z H H' ∧ At z H' (T i) ∧ En z H' σ' (E i), ⟨n, 0, Nat.zero_le _, rfl, .refl H, t0 ▸ at_, en.le h0⟩, fun m σ' H' w => by
    obtain ⟨i, hi, rfl, e1, a1, n1⟩ := w
    by_cases hl : i < n
    · refine hc i hl σ' H' n1 a1 _ fun H1 e2 a2 => iteT ⟨fun σ2 H2 => Ez z H H2 ∧ At z H2 (T (i + 1)) ∧ En z H2 σ2 (E (i + 1)), fun σ2 H2 w => ⟨n - (i + 1), by omega, i + 1, hl, rfl, w.1, w.2.1, w.2.2⟩, ?_⟩
      exact hb i hl σ' H1 (n1.mono e2) a2 _ fun σ2 H2 e3 a3 n3 => ⟨(e1.trans e2).trans e3, a3, n3⟩
    · have : i = n := by omega
      subst this
      exact hz σ' H' n1 a1 _ fun H1 e2 a2 => iteF (k σ' H1 (n1.mono e2) a2 D (q.mono (e1.trans e2)))⟩
end

/-! ### 5. a def by its block -/
section
variable {P : Program} {w : World} {K : PySem.W.Frag} {mg : Str → Option Value} {base : Heap}
/-- what stands around a def's body -/
structure Ctx (X : Cx) (k : Nat) (N : List Str) : Prop where
  nd : X.N.Nodup
  calm : X.calm = true
  hp : PassesOwn (model X.prog X.w) X.A X.env X.xe
  hr : Room k X.A
  hu : X.A.units + 64 < cLine
theorem okD {x qual : Str} {st : Stmt} {f : Addr} {fd : FuncData} {N ps : List Str} {k : Nat} {R : Rel} (F : Fun K x qual st f fd) (Sc : FnScope N ps (defScope st)) (hl : ∀ as s d s', R as s d s' → as.length = ps.length)
    (hb : ∀ cdv A outer s0 H0 E, Ctx (cxOf CX0 P w K mg base N qual (defScope st) f cdv A outer s0 H0 E).nox k N → ∀ z as s d s', R as s d s' → SR (cxOf CX0 P w K mg base N qual (defScope st) f cdv A outer s0 H0 E).nox z (defBody st) (as ++ List.replicate (N.length - as.length) .un) s (.rt d s')) :
    FnOk P w K mg base CX0 (k + 1) f fd ps (spD R) := by
  refine F.ok Sc (fun vs H Q E h => ?_) (fun cdv A outer s0 H0 vs Q E hr h => ?_)
  · obtain ⟨z, as, s, d, s', hR, en, _⟩ := h
    have := en.length
    rw [List.length_map] at this
    rw [this]
    exact hl _ _ _ _ hR
  · obtain ⟨z, as, s, d, s', hR, en, at_, q⟩ := h
    have e1 : vs.length = as.length := by
      have := en.length
      rwa [List.length_map] at this
    have C : Ctx (cxOf CX0 P w K mg base N qual (defScope st) f cdv A outer s0 H0 E).nox k N := ⟨Sc.nd, rfl, PassesOwn.never, hr, hr.units⟩
    have g := hb cdv A outer s0 H0 E C z as s d s' hR (L2.start N vs) H0 (by
      unfold L2.start
      rw [e1]
      exact en.app (.uns _)) at_ { nx := fun _ H' => Q .non H', rt := Q } (fun v H' e a n => q v H' e a n)
    exact ⟨_, wB_ok, g⟩
theorem dn_of {x qual : Str} {st : Stmt} {f : Addr} {fd : FuncData} {ps : List Str} {k : Nat} {R : Rel} (F : Fun K x qual st f fd) (O : FnOk P w K mg base CX0 k f fd ps (spD R)) (hm : mg x = some (.ref f)) (hb : Binds K fd ps []) : Dn P w K mg base k x R := ⟨f, fd, ps, O, hm, F.kp, hb⟩
end

/-! ### 6. more -/
section
variable {X : Cx} {z : Z} {es es1 es2 fs : List Sl} {s s1 s2 s' : S} {a b c e : Expr} {xs : List Expr} {pos p p1 p2 p3 p4 : Pos} {d d1 d2 : PyData} {ds : List PyData} {as : List Sl} {o : Out} {st : Stmt} {rest body els : List Stmt}
theorem et_notT (h : ET X z a es s false s1) : ET X z (.UnaryOp .Not a pos) es s true s1 := et_not h
theorem et_notF (h : ET X z a es s true s1) : ET X z (.UnaryOp .Not a pos) es s false s1 := et_not h
theorem pl_int {i : Int} : Pl (.int i) := ⟨rfl, rfl⟩
theorem et_eqI {i j : Int} (hu : X.A.units + 64 < cLine) (ha : EV X z a es s (.int i) s1) (hb : EV X z b es s1 (.int j) s2) : ET X z (.Compare a [.Eq] [b] pos) es s (decide (i = j)) s2 :=
  ET.is (et_eq hu pl_int pl_int ha hb) rfl
theorem et_neI {i j : Int} (hu : X.A.units + 64 < cLine) (ha : EV X z a es s (.int i) s1) (hb : EV X z b es s1 (.int j) s2) : ET X z (.Compare a [.NotEq] [b] pos) es s (!decide (i = j)) s2 :=
  ET.is (et_ne hu pl_int pl_int ha hb) rfl
theorem ev_eqI {i j : Int} (hu : X.A.units + 64 < cLine) (ha : EV X z a es s (.int i) s1) (hb : EV X z b es s1 (.int j) s2) : EV X z (.Compare a [.Eq] [b] pos) es s (.bool (decide (i = j))) s2 :=
  EV.is (ev_eq hu pl_int pl_int ha hb) rfl
end
section
variable {P : Program} {w : World} {K : PySem.W.Frag} {mg : Str → Option Value} {base : Heap}
/-- a def whose block ends without a return -/
theorem okN {x qual : Str} {st : Stmt} {f : Addr} {fd : FuncData} {N ps : List Str} {k : Nat} {R : Rel} (F : Fun K x qual st f fd) (Sc : FnScope N ps (defScope st)) (hl : ∀ as s d s', R as s d s' → as.length = ps.length)
    (hb : ∀ cdv A outer s0 H0 E, Ctx (cxOf CX0 P w K mg base N qual (defScope st) f cdv A outer s0 H0 E).nox k N → ∀ z as s d s', R as s d s' → d = .none ∧ ∃ es', SR (cxOf CX0 P w K mg base N qual (defScope st) f cdv A outer s0 H0 E).nox z (defBody st) (as ++ List.replicate (N.length - as.length) .un) s (.nx es' s')) :
    FnOk P w K mg base CX0 (k + 1) f fd ps (spD R) := by
  refine F.ok Sc (fun vs H Q E h => ?_) (fun cdv A outer s0 H0 vs Q E hr h => ?_)
  · obtain ⟨z, as, s, d, s', hR, en, _⟩ := h
    have := en.length
    rw [List.length_map] at this
    rw [this]
    exact hl _ _ _ _ hR
  · obtain ⟨z, as, s, d, s', hR, en, at_, q⟩ := h
    have e1 : vs.length = as.length := by
      have := en.length
      rwa [List.length_map] at this
    have C : Ctx (cxOf CX0 P w K mg base N qual (defScope st) f cdv A outer s0 H0 E).nox k N := ⟨Sc.nd, rfl, PassesOwn.never, hr, hr.units⟩
    obtain ⟨rfl, es', hb'⟩ := hb cdv A outer s0 H0 E C z as s d s' hR
    have g := hb' (L2.start N vs) H0 (by
      unfold L2.start
      rw [e1]
      exact en.app (.uns _)) at_ { nx := fun _ H' => Q .non H', rt := Q } (fun σ' H' e a n => q .non H' e a .non)
    exact ⟨_, wB_ok, g⟩
end

/-! ### 7. while by a word; isqrt, comb; texts -/
section
variable {X : Cx} {z : Z} {es es1 es2 fs : List Sl} {s s1 s2 s' : S} {a b c e : Expr} {xs : List Expr} {pos p p1 p2 p3 p4 apos : Pos} {d d1 d2 : PyData} {ds : List PyData} {as : List Sl} {o : Out} {st : Stmt} {rest body els : List Stmt}
theorem sr_whileW (hp : PassesOwn (model X.prog X.w) X.A X.env X.xe) (W : Nat → List Sl → S → Prop) {m0 : Nat} (h0 : W m0 es s)
    (hs : ∀ m es s, W m es s → (ET X z c es s false s ∧ SR X z rest es s o) ∨ (ET X z c es s true s ∧ ∃ es' s' m', m' < m ∧ W m' es' s' ∧ SR X z body es s (.nx es' s'))) : SR X z (.While c body [] pos :: rest) es s o := fun σ H en at_ D q =>
  ⟨_, pss_cons (ps_while hp wT_ok wB_ok) wB_ok, fun m σ' H' => ∃ es' s', W m es' s' ∧ Ez z H H' ∧ At z H' s' ∧ En z H' σ' es', ⟨m0, es, s, h0, .refl H, at_, en⟩, fun m σ' H' w => by
    obtain ⟨es', s', w1, e1, a1, n1⟩ := w
    rcases hs m es' s' w1 with ⟨h1, h2⟩ | ⟨h1, es2, s2, m', hl, w2, h2⟩
    · exact h1 σ' H' n1 a1 _ fun H1 e2 a2 => iteF (h2 σ' H1 (n1.mono e2) a2 D (q.mono (e1.trans e2)))
    · refine h1 σ' H' n1 a1 _ fun H1 e2 a2 => iteT ⟨fun σ2 H2 => Ez z H H2 ∧ At z H2 s2 ∧ En z H2 σ2 es2, fun σ2 H2 w => ⟨m', hl, es2, s2, w2, w.1, w.2.1, w.2.2⟩, ?_⟩
      exact h2 σ' H1 (n1.mono e2) a2 _ fun σ2 H2 e3 a3 n3 => ⟨(e1.trans e2).trans e3, a3, n3⟩⟩
def rSqrt : List V → Hp → VK → Prop := fun vs H Q => ∃ n : Nat, vs = [.int (n : Int)] ∧ n.log2 < 13000 ∧ Q (.int ((Float64.isqrt n : Nat) : Int)) H
theorem cr_isqrt : CallR X (.builtin "math.isqrt") rSqrt := by
  intro pins s σ H vs us Q I r h
  obtain ⟨n, rfl, hn, q⟩ := h
  obtain ⟨u, rfl, t, rfl⟩ := vals1 r
  have g := PySem.W.mg_run_isqrt (n : Int) t (by omega) (by rw [Int.toNat_natCast]; omega) (by rw [Int.toNat_natCast]; omega)
  exact call_function_meets PySem.W.MGF.kind_isqrt PySem.W.MGF.plain_isqrt PySem.W.MGF.entry_isqrt (PySem.W.MGF.args_isqrt _) g.meets ⟨.int _, H, I.tok _, ⟨_, by rw [Int.toNat_natCast]⟩, q⟩
theorem rb_sqrt {i : Int} (h0 : 0 ≤ i) (h : i.natAbs.log2 < 13000) : RB z s rSqrt [.int i] (.int ((Float64.isqrt i.toNat : Nat) : Int)) := fun vs H at_ h Q q => by
  cases h with
  | cons h r =>
    cases r
    cases h
    exact ⟨i.toNat, by rw [Int.toNat_of_nonneg h0], by rw [show i.toNat = i.natAbs by omega]; assumption, q _ H (.refl H) at_ (.int _)⟩
theorem combEntry : entryFor table "math.comb" = some Builtin.«math.comb» := entryFor_of_tree (by kernel_rfl)
theorem combKind : builtinKind "math.comb" = none := by kernel_rfl
theorem combPlain : plainId "math.comb" = true := by decide +kernel
theorem combArgs (x y : Value) : argsOk "math.comb" ⟨[x, y], []⟩ := by unfold argsOk; kernel_rfl
theorem combOver (n : Int) (t : Tok) (k : Int) (u : Tok) (h0 : ¬ n < 0) (h1 : ¬ k < 0) (h2 : k > n) : Gives (Builtin.«math.comb» ⟨[.int n t, .int k u], []⟩) (.int 0) :=
  .of_wp fun M A E s Q h => by
    obtain ⟨hp, g, d, tk, os⟩ := s
    wp_walk
    exact ⟨_, rfl, h⟩
theorem combRun (n : Int) (t : Tok) (k : Int) (u : Tok) (h0 : ¬ n < 0) (h1 : ¬ k < 0) (h2 : ¬ k > n) (h3 : ¬ min k (n - k) > Builtin.Math.maxSsize) (h4 : ¬ min k (n - k) > Builtin.Math.manyFactors) (h5 : ¬ min k (n - k) > 9000)
    (hsz : (Builtin.Math.fallingProduct n (min k (n - k)).toNat / Builtin.Math.fallingProduct (min k (n - k)) (min k (n - k)).toNat).natAbs.log2 < bitsLine) :
    Gives (Builtin.«math.comb» ⟨[.int n t, .int k u], []⟩) (.int (Builtin.Math.fallingProduct n (min k (n - k)).toNat / Builtin.Math.fallingProduct (min k (n - k)) (min k (n - k)).toNat)) :=
  .of_wp fun M A E s Q h => by
    obtain ⟨hp, g, d, tk, os⟩ := s
    wp_walk
    (try (refine wpAny_ite_false (decide_eq_false (Nat.not_le.mpr hsz)) ?_; wp_walk))
    exact ⟨_, rfl, h⟩
end
def combV (n k : Int) : Int := if k > n then 0 else Builtin.Math.fallingProduct n (min k (n - k)).toNat / Builtin.Math.fallingProduct (min k (n - k)) (min k (n - k)).toNat
def rComb : List V → Hp → VK → Prop := fun vs H Q => ∃ n k : Int, vs = [.int n, .int k] ∧ 0 ≤ n ∧ n ≤ 1000 ∧ 0 ≤ k ∧ k ≤ 1000 ∧ (combV n k).natAbs.log2 < bitsLine ∧ Q (.int (combV n k)) H
section
variable {X : Cx} {z : Z} {es es1 es2 fs : List Sl} {s s1 s2 s' : S} {a b c e f : Expr} {xs : List Expr} {pos p p1 p2 p3 p4 apos : Pos} {d d1 d2 : PyData} {ds : List PyData} {as : List Sl} {o : Out} {st : Stmt} {rest body els : List Stmt}
theorem cr_comb : CallR X (.builtin "math.comb") rComb := by
  intro pins s σ H vs us Q I r h
  obtain ⟨n, k, rfl, n0, n1, k0, k1, hz, q⟩ := h
  obtain ⟨t, u, rfl⟩ := Vals.int2 r
  have hm : Builtin.Math.maxSsize > 100000 := by decide
  have hf : (9000 : Int) < Builtin.Math.manyFactors := by decide
  unfold combV at hz q
  by_cases hk : k > n
  · rw [if_pos hk] at q
    exact call_function_meets combKind combPlain combEntry (combArgs _ _) (combOver n t k u (by omega) (by omega) hk).meets ⟨.int _, H, I.tok _, ⟨_, rfl⟩, q⟩
  · rw [if_neg hk] at hz q
    exact call_function_meets combKind combPlain combEntry (combArgs _ _) (combRun n t k u (by omega) (by omega) hk (by omega) (by omega) (by omega) hz).meets ⟨.int _, H, I.tok _, ⟨_, rfl⟩, q⟩
theorem rb_comb {n k : Int} (n0 : 0 ≤ n) (n1 : n ≤ 1000) (k0 : 0 ≤ k) (k1 : k ≤ 1000) (hz : (combV n k).natAbs.log2 < bitsLine) : RB z s rComb [.int n, .int k] (.int (combV n k)) := fun vs H at_ h Q q => by
  cases h with
  | cons h r =>
    cases h
    cases r with
    | cons h r =>
      cases h
      cases r
      exact ⟨n, k, rfl, n0, n1, k0, k1, hz, q _ H (.refl H) at_ (.int _)⟩
/-- a method of a text -/
def RM (z : Z) (s : S) (r : V → List V → Hp → VK → Prop) (x : Str) (ds : List PyData) (d : PyData) : Prop := ∀ vs H, At z H s → DaAll z H vs ds → ∀ Q : VK, (∀ v H2, Ez z H H2 → At z H2 s → Da z H2 v d → Q v H2) → r (.str x) vs H Q
theorem ev_m0 {id : String} {name x : Str} {r : V → List V → Hp → VK → Prop} (slot : Slot "str" name id) (ty : typeOf (.builtin id) = pure (.type "method_descriptor")) (rule : MtR X id r) (hr : RM z s1 r x [] d) (ho : EV X z a es s (.str x) s1)
    (hbase : attributeBase a name X.env (eval a X.env) = eval a X.env := by rfl) (hline : (apos.endLine == pos.line) = true := by rfl) : EV X z (.Call (.Attribute a name apos) [] [] pos) es s d s1 :=
  .mk (pe_m0 slot ty rule wE_ok hbase hline) fun σ H en at_ Q q => ho σ H en at_ _ fun v H1 e1 a1 v1 => by
    cases v1
    exact ⟨⟨x, rfl⟩, hr [] H1 a1 .nil Q fun v H2 e2 a2 v2 => q v H2 (e1.trans e2) a2 v2⟩
theorem ev_m1 {id : String} {name x : Str} {r : V → List V → Hp → VK → Prop} (slot : Slot "str" name id) (ty : typeOf (.builtin id) = pure (.type "method_descriptor")) (rule : MtR X id r) (hr : RM z s2 r x [d1] d) (ho : EV X z a es s (.str x) s1) (he : EV X z e es s1 d1 s2)
    (hs : starEach [e] X.env = [(false, eval e X.env)] := by rfl) (hbase : attributeBase a name X.env (eval a X.env) = eval a X.env := by rfl) (hline : (apos.endLine == pos.line) = true := by rfl) : EV X z (.Call (.Attribute a name apos) [e] [] pos) es s d s2 :=
  .mk (pe_m1 slot ty rule wE_ok wE_ok hs hbase hline) fun σ H en at_ Q q => ho σ H en at_ _ fun v H1 e1 a1 v1 => by
    cases v1
    refine ⟨⟨x, rfl⟩, he σ H1 (en.mono e1) a1 _ fun y H2 e2 a2 y2 => ?_⟩
    exact hr [y] H2 a2 (.cons y2 .nil) Q fun v H3 e3 a3 v3 => q v H3 ((e1.trans e2).trans e3) a3 v3
/-- the text of an int -/
def itx (i : Int) : Str := Str.ofString (toString i)
theorem ev_fmtI {i : Int} (hz : i.natAbs.log2 < 1920) (h : EV X z e es s (.int i) s1) : EV X z (.FormattedValue e (-1) none pos) es s (.str (itx i)) s1 := .mk (pe_fmt wE_ok) fun σ H en at_ Q q => h σ H en at_ _ fun v H1 e1 a1 v1 => by
  cases v1
  exact .inr ⟨i, rfl, hz, q _ H1 e1 a1 (.str _)⟩
theorem ev_fstr1 (h : EV X z e es s d s1) : EV X z (.JoinedStr [e] pos) es s d s1 := .mk (pe_joined1 wE_ok) fun σ H en at_ Q q => h σ H en at_ Q q
theorem ev_fstr3 {x y w : Str} (hl : x.length + y.length + w.length ≤ 100000) (ha : EV X z a es s (.str x) s) (hb : EV X z b es s (.str y) s) (hc : EV X z c es s (.str w) s) : EV X z (.JoinedStr [a, b, c] pos) es s (.str (x ++ y ++ w)) s :=
  .mk (pe_joined (.cons wE_ok (.cons wE_ok (.cons wE_ok .nil)))) fun σ H en at_ Q q => ha σ H en at_ _ fun v H1 e1 a1 v1 => by
    have hL : (100000 : Nat) ≤ sizeLine := by decide
    have e0 : ∀ t : Str, Str.empty ++ t = t := fun t => TL.ext_tl (by
      rw [TL.tl_append]
      rfl)
    cases v1
    refine ⟨x, rfl, by rw [e0]; omega, hb σ H1 (en.mono e1) a1 _ fun v H2 e2 a2 v2 => ?_⟩
    cases v2
    refine ⟨y, rfl, by rw [e0, Str.length_append]; omega, hc σ H2 (en.mono (e1.trans e2)) a2 _ fun v H3 e3 a3 v3 => ?_⟩
    cases v3
    refine ⟨w, rfl, by rw [e0, Str.length_append, Str.length_append]; omega, ?_⟩
    rw [e0]
    exact q _ H3 ((e1.trans e2).trans e3) a3 (.str _)
theorem rb_str {i : Int} (hz : i.natAbs.log2 < 1920) : RB z s (fun xs H Q => ∃ i : Int, xs = [.int i] ∧ i.natAbs.log2 < 1920 ∧ Q (.str (toString i)) H) [.int i] (.str (itx i)) := fun vs H at_ h Q q => by
  cases h with
  | cons h r =>
    cases r
    cases h
    exact ⟨i, rfl, hz, q _ H (.refl H) at_ (.str _)⟩
theorem rb_intS {x : Str} {n : Int} (h : PySem.intText? x = some n) (hl : x.length ≤ 640) : RB z s (fun xs H Q => ∃ a n, xs = [.str a] ∧ PySem.intText? a = some n ∧ a.length ≤ 640 ∧ Q (.int n) H) [.str x] (.int n) := fun vs H at_ k Q q => by
  cases k with
  | cons k r =>
    cases r
    cases k
    exact ⟨x, n, rfl, h, hl, q _ H (.refl H) at_ (.int _)⟩
end
/-- a loop's body -/
def loopB (st : Option Stmt) : List Stmt := match st with
  | some (Stmt.While _ b _ _) => b
  | some (Stmt.For _ _ b _ _) => b
  | _ => []
section
variable {X : Cx} {z : Z} {es : List Sl} {s s1 s2 : S} {a b : Expr} {pos : Pos}
/-- * with a small left factor -/
theorem ev_mulL {i j : Int} (hc : -(2 ^ 64) < i ∧ i < 2 ^ 64) (ha : EV X z a es s (.int i) s1) (hb : EV X z b es s1 (.int j) s2) : EV X z (.BinOp a .Mult b pos) es s (.int (i * j)) s2 := ev_opR (f := binaryOp .Mult) op_mul (rd_I (.inl hc) fun _ => .int _) ha hb
end
end DL


set_option Elab.async false
set_option linter.all false
set_option maxRecDepth 100000
namespace DL
open PySem PySem.Spec PyProof.Rows L2
variable [TabT]
/-! ### 8. list comprehensions -/
def Z.add (z : Z) (D : Addr) (o : HO) : Z := ⟨z.dice, (D, o) :: z.vol⟩
theorem Fz.of_add {z : Z} {D a : Addr} {o : HO} (h : Fz (z.add D o) a) : Fz z a ∧ a ≠ D := ⟨⟨h.1, fun u hu => h.2 u (List.mem_cons_of_mem _ hu)⟩, fun e => h.2 o (by rw [e]; exact List.mem_cons_self ..)⟩
theorem Fz.to_add {z : Z} {D a : Addr} {o : HO} (h : Fz z a) (n : a ≠ D) : Fz (z.add D o) a := ⟨h.1, fun u hu => by
  rcases List.mem_cons.mp hu with e | e
  · exact n (congrArg Prod.fst e)
  · exact h.2 u e⟩
mutual
theorem Da.re {z z' : Z} {H H' : Hp} (k : ∀ a o, Fz z a → H a = some o → Fz z' a ∧ H' a = some o) : ∀ {v : V} {d : PyData}, Da z H v d → Da z' H' v d
  | _, _, .non => .non
  | _, _, .bl b => .bl b
  | _, _, .int i => .int i
  | _, _, .str x => .str x
  | _, _, .dkv n h q r e => .dkv (k _ _ n h).1 (k _ _ n h).2 q (DaAll.re k r) e
  | _, _, .odd n h r => .odd (k _ _ n h).1 (k _ _ n h).2 r
  | _, _, .lst n h r => .lst (k _ _ n h).1 (k _ _ n h).2 (DaAll.re k r)
  | _, _, .tup n h r => .tup (k _ _ n h).1 (k _ _ n h).2 (DaAll.re k r)
theorem DaAll.re {z z' : Z} {H H' : Hp} (k : ∀ a o, Fz z a → H a = some o → Fz z' a ∧ H' a = some o) : ∀ {vs : List V} {ds : List PyData}, DaAll z H vs ds → DaAll z' H' vs ds
  | _, _, .nil => .nil
  | _, _, .cons h r => .cons (Da.re k h) (DaAll.re k r)
end
theorem XR.re {z z' : Z} {H H' : Hp} {cls : Value} {dx : Option Addr} (k : ∀ a o, Fz z a → H a = some o → Fz z' a ∧ H' a = some o) : ∀ {x : XD}, XR z H cls dx x → XR z' H' cls dx x
  | .pl _, h => h
  | .wf _ _ _, ⟨h1, p, v, h2, n, h3, h4⟩ => ⟨h1, p, v, h2, (k p _ n h3).1, (k p _ n h3).2, h4.re k⟩
theorem LkR.re {z z' : Z} {H H' : Hp} {l : LQ} (k : ∀ a o, Fz z a → H a = some o → Fz z' a ∧ H' a = some o) (h : LkR z H l) : LkR z' H' l := ⟨⟨(k _ _ h.1.1 h.1.2).1, (k _ _ h.1.1 h.1.2).2⟩, h.2.re k⟩
theorem En.re {z z' : Z} {H H' : Hp} (hd : z'.dice = z.dice) (hv : ∀ q ∈ z.vol, q ∈ z'.vol) (k : ∀ a o, Fz z a → H a = some o → Fz z' a ∧ H' a = some o) : ∀ {σ : L2.St} {es : List Sl}, En z H σ es → En z' H' σ es
  | _, _, .nil => .nil
  | _, _, .cons h r => .cons (by
      cases h with
      | fk r => exact .fk (r.re k)
      | fns n h r => exact .fns (k _ _ n h).1 (k _ _ n h).2 (fun q hq => (r q hq).re k)
      | un => exact .un
      | val d => exact .val (d.re k)
      | dice e => exact .dice (hd.trans e)
      | raw => exact .raw
      | own m q => exact .own (hv _ m) (q.re k)
      | dct m e q => exact .dct (hv _ m) e (q.re k)
      | exc q => exact .exc (q.re k)) (En.re hd hv k r)
section
variable {X : Cx} {z : Z} {es : List Sl} {s s1 : S} {iter elt cond : Expr} {ds : List PyData}
/-- the turns of a comprehension over anything that walks, with any target -/
theorem lc_all {te : TE} {tt : TT} {g : TG} {ws : List Nat} {n : Nat} {J : It} {G : Hp → Prop} {Y : Nat → Hp → V → Hp → Prop} (wk : Walk J n G Y) {σ : L2.St} {H1 : Hp} {D : Addr} (T U : Nat → S) (a1 : At z H1 (T 0)) (hD : H1 D = none) (esT : Nat → List Sl)
    (hG : ∀ H', Ez z H1 H' → G H') (turn : ∀ (i : Nat) (x : V) (H' H2 : Hp) (o : HO), i < n → Ez z H1 H' → Y i H' x H2 → At (z.add D o) H' (T i) → ∀ Q : L2.St → Hp → Prop, (∀ σ2 H3, wipe σ2 ws = wipe σ ws → Ez (z.add D o) H' H3 → At (z.add D o) H3 (T i) → En (z.add D o) H3 σ2 (esT i) → Q σ2 H3) → g x (wipe σ ws) H2 Q) (hl : n ≤ 100000) (kb : Nat → Bool) (A : Nat → List PyData) (hA0 : A 0 = [])
    (Ht : ∀ (z' : Z) (i : Nat), i < n → ∀ σ H, En z' H σ (esT i) → At z' H (T i) → ∀ Q : Bool → Hp → Prop, (∀ H2, Ez z' H H2 → At z' H2 (U i) → Q (kb i) H2) → tt σ H Q)
    (He : ∀ (z' : Z) (i : Nat), i < n → kb i = true → ∃ y, A (i + 1) = A i ++ [y] ∧ ∀ σ H, En z' H σ (esT i) → At z' H (U i) → ∀ Q : VK, (∀ v H2, Ez z' H H2 → At z' H2 (T (i + 1)) → Da z' H2 v y → Q v H2) → te σ H Q)
    (hn : ∀ (i : Nat), i < n → kb i = false → A (i + 1) = A i ∧ T (i + 1) = U i) {Qd : Hp → Prop} (hQ : ∀ H', Ez z H1 H' → At z H' (T n) → Da z H' (.ref D) (.list (A n)) → Qd H') :
    ∃ W : Nat → Nat → Hp → Prop, (∃ m, W 0 m (upd H1 D (.lst []))) ∧ ∀ i m H, W i m H → (J.stop i H ∧ Qd H) ∨ (J.go i H ∧ ∃ Nx : Hp → Prop, (∀ H', Nx H' → ∃ m', m' < m ∧ W (i + 1) m' H') ∧ ∀ x H', J.yld i H x H' → g x (wipe σ ws) H' fun σ2 H2 => wipe σ2 ws = wipe σ ws ∧ tt σ2 H2 fun b H3 =>
        if b = true then te σ2 H3 fun y H4 => ∃ acc, H4 D = some (.lst acc) ∧ acc.length < sizeLine ∧ Nx (upd H4 D (.lst (acc ++ [y]))) else Nx H3) := by
  have lA : ∀ i, i ≤ n → (A i).length ≤ i := by
    intro i
    induction i with
    | zero => intro _; rw [hA0]; exact Nat.le_refl _
    | succ i ih =>
      intro hi
      cases hk : kb i with
      | true =>
        obtain ⟨y, hy, _⟩ := He z i (by omega) hk
        rw [hy, List.length_append]
        have := ih (by omega)
        simp
        omega
      | false =>
        rw [(hn i (by omega) hk).1]
        have := ih (by omega)
        omega
  have reach : ∀ {H' : Hp} {o : HO}, Ez z H1 H' → ∀ (b : Addr) (u : HO), Fz z b → H1 b = some u → Fz (z.add D o) b ∧ H' b = some u := fun e b u fb hb => ⟨fb.to_add (ne_of_none hb hD), e b u fb hb⟩
  have up : ∀ {H' H2 : Hp} {o : HO}, Ez z H1 H' → Ez (z.add D o) H' H2 → Ez z H1 H2 := fun e e2 b u fb hb => e2 b u (fb.to_add (ne_of_none hb hD)) (e b u fb hb)
  refine lc_it wk (fun i H' => Ez z H1 H' ∧ ∃ acc, H' D = some (.lst acc) ∧ At (z.add D (.lst acc)) H' (T i) ∧ DaAll (z.add D (.lst acc)) H' acc (A i)) ?_ (fun i H' _ w => hG H' w.1) ?_ ?_
  · refine ⟨.new hD, [], upd_same, ⟨?_, ?_, ?_, tabs_new a1.t hD⟩, ?_⟩
    · intro b hb
      rw [upd_ne (ne_of_none (a1.d b hb) hD)]
      exact a1.d b hb
    · intro p hp
      rcases List.mem_cons.mp hp with e | e
      · rw [e]
        exact upd_same
      · rw [upd_ne (ne_of_none (a1.v p e) hD)]
        exact a1.v p e
    · intro p hp
      rcases List.mem_cons.mp hp with e | e
      · refine ⟨fun e2 => ?_, by rw [e]; exact .lst _⟩
        rw [e] at e2
        have := a1.d D e2
        rw [this] at hD
        cases hD
      · exact a1.n p e
    · rw [hA0]
      exact .nil
  · intro i x H0 H' hi w hy
    obtain ⟨e2, acc, hDa, a2, rA⟩ := w
    refine turn i x H0 H' (.lst acc) hi e2 hy a2 _ fun σ2 H5 hw e5 a5 en2 => ⟨hw, ?_⟩
    refine Ht _ i hi _ H5 en2 a5 _ fun H3 e30 a3 => ?_
    have e3 := e5.trans e30
    have hD3 : H3 D = some (.lst acc) := a3.v (D, .lst acc) (List.mem_cons_self ..)
    cases hk : kb i with
    | false =>
      obtain ⟨n1, n2⟩ := hn i hi hk
      refine iteF ⟨up e2 e3, acc, hD3, by rw [n2]; exact a3, by rw [n1]; exact rA.mono e3⟩
    | true =>
      obtain ⟨y, hy, go⟩ := He (z.add D (.lst acc)) i hi hk
      refine iteT (go _ H3 (en2.mono e30) a3 _ fun v H4 e4 a4 v4 => ?_)
      have hD4 : H4 D = some (.lst acc) := a4.v (D, .lst acc) (List.mem_cons_self ..)
      have rA4 := (rA.mono e3).mono e4
      have la := rA4.length
      have := lA i (by omega)
      have far : ∀ (b : Addr) (u : HO), Fz (z.add D (.lst acc)) b → H4 b = some u → Fz (z.add D (.lst (acc ++ [v]))) b ∧ upd H4 D (.lst (acc ++ [v])) b = some u := fun b u fb hb => by
        obtain ⟨f1, f2⟩ := fb.of_add
        exact ⟨f1.to_add f2, by rw [upd_ne f2]; exact hb⟩
      refine ⟨acc, hD4, Nat.lt_of_lt_of_le (show acc.length < 100001 by omega) (by decide), ?_, acc ++ [v], upd_same, ⟨?_, ?_, ?_, tabs_upd a4.t hD4⟩, ?_⟩
      · intro b u fb hb
        rw [upd_ne (ne_of_none hb hD)]
        exact up (up e2 e3) e4 b u fb hb
      · intro b hb
        rw [upd_ne (fun e => (a4.n (D, .lst acc) (List.mem_cons_self ..)).1 (by rw [← e]; exact hb))]
        exact a4.d b hb
      · intro p hp
        rcases List.mem_cons.mp hp with e | e
        · rw [e]
          exact upd_same
        · have h1 := a1.v p e
          rw [upd_ne (ne_of_none h1 hD)]
          exact a4.v p (List.mem_cons_of_mem _ e)
      · intro p hp
        rcases List.mem_cons.mp hp with e | e
        · rw [e]
          exact ⟨(a4.n (D, .lst acc) (List.mem_cons_self ..)).1, .lst _⟩
        · exact a4.n p (List.mem_cons_of_mem _ e)
      · rw [hy]
        exact (rA4.re far).app (.cons (v4.re far) .nil)
  · intro H' w
    obtain ⟨e2, acc, hDa, a2, rA⟩ := w
    have fD : Fz z D := a1.fresh hD
    exact hQ H' e2 ⟨a2.d, fun p hp => a2.v p (List.mem_cons_of_mem _ hp), fun p hp => a2.n p (List.mem_cons_of_mem _ hp), a2.t⟩ (.lst fD hDa (rA.re fun b u fb hb => ⟨fb.of_add.1, hb⟩))
/-- the same with a name as the target, over what leaves the heap alone -/
theorem lc_gen {te : TE} {tt : TT} {j n : Nat} {J : It} {G : Hp → Prop} {Y : Nat → Hp → V → Hp → Prop} (wk : Walk J n G Y) {σ : L2.St} {H1 : Hp} {D : Addr} (T U : Nat → S) (en1 : En z H1 σ es) (a1 : At z H1 (T 0)) (hD : H1 D = none) (items : Nat → PyData)
    (hG : ∀ H', Ez z H1 H' → G H') (hY : ∀ i x H' H2, i < n → Y i H' x H2 → H2 = H' ∧ Da z H1 x (items i)) (hl : n ≤ 100000) (kb : Nat → Bool) (A : Nat → List PyData) (hA0 : A 0 = [])
    (Ht : ∀ (z' : Z) (i : Nat), i < n → ∀ σ H, En z' H σ (es.set j (.val (items i))) → At z' H (T i) → ∀ Q : Bool → Hp → Prop, (∀ H2, Ez z' H H2 → At z' H2 (U i) → Q (kb i) H2) → tt σ H Q)
    (He : ∀ (z' : Z) (i : Nat), i < n → kb i = true → ∃ y, A (i + 1) = A i ++ [y] ∧ ∀ σ H, En z' H σ (es.set j (.val (items i))) → At z' H (U i) → ∀ Q : VK, (∀ v H2, Ez z' H H2 → At z' H2 (T (i + 1)) → Da z' H2 v y → Q v H2) → te σ H Q)
    (hn : ∀ (i : Nat), i < n → kb i = false → A (i + 1) = A i ∧ T (i + 1) = U i) {Qd : Hp → Prop} (hQ : ∀ H', Ez z H1 H' → At z H' (T n) → Da z H' (.ref D) (.list (A n)) → Qd H') :
    ∃ W : Nat → Nat → Hp → Prop, (∃ m, W 0 m (upd H1 D (.lst []))) ∧ ∀ i m H, W i m H → (J.stop i H ∧ Qd H) ∨ (J.go i H ∧ ∃ Nx : Hp → Prop, (∀ H', Nx H' → ∃ m', m' < m ∧ W (i + 1) m' H') ∧ ∀ x H', J.yld i H x H' → gName j x (wipe σ [j]) H' fun σ2 H2 => wipe σ2 [j] = wipe σ [j] ∧ tt σ2 H2 fun b H3 =>
        if b = true then te σ2 H3 fun y H4 => ∃ acc, H4 D = some (.lst acc) ∧ acc.length < sizeLine ∧ Nx (upd H4 D (.lst (acc ++ [y]))) else Nx H3) := by
  refine lc_all (g := gName j) (ws := [j]) wk T U a1 hD (fun i => es.set j (.val (items i))) hG (fun i x H' H2 o hi e2 hy a2 Q q => ?_) hl kb A hA0 Ht He hn hQ
  obtain ⟨rfl, hxd⟩ := hY i x H' H2 hi hy
  have reach : ∀ (b : Addr) (u : HO), Fz z b → H1 b = some u → Fz (z.add D o) b ∧ H2 b = some u := fun b u fb hb => ⟨fb.to_add (ne_of_none hb hD), e2 b u fb hb⟩
  have es2 : (wipe σ [j]).set j (some x) = σ.set j (some x) := by
    show (σ.set j none).set j (some x) = _
    rw [List.set_set]
  show Q ((wipe σ [j]).set j (some x)) H2
  rw [es2]
  have en0 : En (z.add D o) H2 σ es := En.re (z := z) (z' := z.add D o) rfl (fun q h => List.mem_cons_of_mem _ h) reach en1
  exact q _ H2 (by
    show (σ.set j (some x)).set j none = σ.set j none
    rw [List.set_set]) (.refl _) a2 (en0.set j (.val (hxd.re reach)))
/-- the same with two names as the target, each turn's pair being at hand as a tuple -/
theorem lc_two {te : TE} {tt : TT} {K : PySem.W.Frag} {j k n : Nat} {J : It} {G : Hp → Prop} {Y : Nat → Hp → V → Hp → Prop} (wk : Walk J n G Y) {σ : L2.St} {H1 : Hp} {D : Addr} (T U : Nat → S) (en1 : En z H1 σ es) (a1 : At z H1 (T 0)) (hD : H1 D = none) (hjk : j ≠ k) (items other : Nat → PyData)
    (hG : ∀ H', Ez z H1 H' → G H') (hY : ∀ i x H' H2, i < n → Ez z H1 H' → Y i H' x H2 → ∃ t u v, x = .ref t ∧ SqT K H2 t [u, v] ∧ (H2 = H' ∨ (H' t = none ∧ H2 = upd H' t (.tup [u, v]))) ∧ Da z H1 u (items i) ∧ Da z H1 v (other i)) (hl : n ≤ 100000) (kb : Nat → Bool) (A : Nat → List PyData) (hA0 : A 0 = [])
    (Ht : ∀ (z' : Z) (i : Nat), i < n → ∀ σ H, En z' H σ ((es.set j (.val (items i))).set k (.val (other i))) → At z' H (T i) → ∀ Q : Bool → Hp → Prop, (∀ H2, Ez z' H H2 → At z' H2 (U i) → Q (kb i) H2) → tt σ H Q)
    (He : ∀ (z' : Z) (i : Nat), i < n → kb i = true → ∃ y, A (i + 1) = A i ++ [y] ∧ ∀ σ H, En z' H σ ((es.set j (.val (items i))).set k (.val (other i))) → At z' H (U i) → ∀ Q : VK, (∀ v H2, Ez z' H H2 → At z' H2 (T (i + 1)) → Da z' H2 v y → Q v H2) → te σ H Q)
    (hn : ∀ (i : Nat), i < n → kb i = false → A (i + 1) = A i ∧ T (i + 1) = U i) {Qd : Hp → Prop} (hQ : ∀ H', Ez z H1 H' → At z H' (T n) → Da z H' (.ref D) (.list (A n)) → Qd H') :
    ∃ W : Nat → Nat → Hp → Prop, (∃ m, W 0 m (upd H1 D (.lst []))) ∧ ∀ i m H, W i m H → (J.stop i H ∧ Qd H) ∨ (J.go i H ∧ ∃ Nx : Hp → Prop, (∀ H', Nx H' → ∃ m', m' < m ∧ W (i + 1) m' H') ∧ ∀ x H', J.yld i H x H' → gTup K 2 (gCons (gName j) (gCons (gName k) gNil)) x (wipe σ [j, k]) H' fun σ2 H2 => wipe σ2 [j, k] = wipe σ [j, k] ∧ tt σ2 H2 fun b H3 =>
        if b = true then te σ2 H3 fun y H4 => ∃ acc, H4 D = some (.lst acc) ∧ acc.length < sizeLine ∧ Nx (upd H4 D (.lst (acc ++ [y]))) else Nx H3) := by
  refine lc_all (g := gTup K 2 (gCons (gName j) (gCons (gName k) gNil))) (ws := [j, k]) wk T U a1 hD (fun i => (es.set j (.val (items i))).set k (.val (other i))) hG (fun i x H' H2 o hi e2 hy a2 Q q => ?_) hl kb A hA0 Ht He hn hQ
  obtain ⟨t, u, v, rfl, ht, hH, hu, hv⟩ := hY i x H' H2 hi e2 hy
  have e3 : Ez (z.add D o) H' H2 := by
    rcases hH with rfl | ⟨nt, rfl⟩
    · exact .refl _
    · exact .new nt
  have a3 : At (z.add D o) H2 (T i) := by
    rcases hH with rfl | ⟨nt, rfl⟩
    · exact a2
    · exact a2.new nt
  have reach : ∀ (b : Addr) (w : HO), Fz z b → H1 b = some w → Fz (z.add D o) b ∧ H2 b = some w := fun b w fb hb => by
    have f := fb.to_add (o := o) (ne_of_none hb hD)
    exact ⟨f, e3 b w f (e2 b w fb hb)⟩
  have w0 : wipe σ [j, k] = (σ.set k none).set j none := rfl
  have es2 : ((wipe σ [j, k]).set j (some u)).set k (some v) = (σ.set j (some u)).set k (some v) := by
    rw [w0, List.set_set, List.set_comm _ _ hjk, List.set_set, List.set_comm _ _ hjk.symm]
  refine ⟨t, [u, v], rfl, ht, rfl, u, [v], rfl, v, [], rfl, rfl, ?_⟩
  rw [es2]
  have en0 : En (z.add D o) H2 σ es := En.re (z := z) (z' := z.add D o) rfl (fun q h => List.mem_cons_of_mem _ h) reach en1
  refine q _ H2 ?_ e3 a3 ((en0.set j (.val (hu.re reach))).set k (.val (hv.re reach)))
  show (((σ.set j (some u)).set k (some v)).set k none).set j none = (σ.set k none).set j none
  rw [List.set_set, List.set_comm _ _ hjk, List.set_set, List.set_comm _ _ hjk.symm]
theorem lc_read {te : TE} {tt : TT} {j : Nat} (hit : EV X z iter es s (.list ds) s1) (hl : ds.length ≤ 100000) (kb : Nat → Bool) (A : Nat → List PyData) (T U : Nat → S) (hA0 : A 0 = []) (t0 : T 0 = s1)
    (Ht : ∀ (z' : Z) (i : Nat) d, ds[i]? = some d → ∀ σ H, En z' H σ (es.set j (.val d)) → At z' H (T i) → ∀ Q : Bool → Hp → Prop, (∀ H2, Ez z' H H2 → At z' H2 (U i) → Q (kb i) H2) → tt σ H Q)
    (He : ∀ (z' : Z) (i : Nat) d, ds[i]? = some d → kb i = true → ∃ y, A (i + 1) = A i ++ [y] ∧ ∀ σ H, En z' H σ (es.set j (.val d)) → At z' H (U i) → ∀ Q : VK, (∀ v H2, Ez z' H H2 → At z' H2 (T (i + 1)) → Da z' H2 v y → Q v H2) → te σ H Q)
    (hn : ∀ (i : Nat) d, ds[i]? = some d → kb i = false → A (i + 1) = A i ∧ T (i + 1) = U i) :
    ∀ σ H, En z H σ es → At z H s → ∀ Q : VK, (∀ v H2, Ez z H H2 → At z H2 (T ds.length) → Da z H2 v (.list (A ds.length)) → Q v H2) → tLc (iList X.K (wE X iter)) (gName j) tt te [j] σ H Q := fun σ H en at_ Q q => by
  refine hit σ H en at_ _ fun v H1 e1 a1 v1 => ?_
  cases v1 with
  | @lst a xs _ fa ha r =>
    have hx : xs.length = ds.length := r.length
    have g : ∀ i, i < xs.length → ds[i]? = some (ds.getD i .none) := fun i hi => by
      rw [List.getD_eq_getElem?_getD, List.getElem?_eq_getElem (by omega)]
      rfl
    refine ⟨a, rfl, ⟨xs, .inl (.inl ha)⟩, fun D hD => ?_⟩
    refine lc_gen (walk_list (K := X.K) (a := a) (xs := xs)) T U (en.mono e1) (t0 ▸ a1) hD (fun i => ds.getD i .none) (fun H' e => .inl (.inl (e a _ fa ha))) (fun i x H' H2 hi hy => ⟨hy.1, ?_⟩) (by omega) kb A hA0 (fun z' i hi => Ht z' i _ (g i hi)) (fun z' i hi => He z' i _ (g i hi)) (fun i hi => hn i _ (g i hi)) (fun H' e a2 d2 => ?_)
    · obtain ⟨d, hd, hv⟩ := r.getV i x hy.2
      have := g i hi
      rw [hd] at this
      rw [← Option.some.inj this]
      exact hv
    · rw [hx] at a2 d2
      exact q _ H' (e1.trans e) a2 d2
/-- over the signs of a text -/
theorem lc_readS {te : TE} {tt : TT} {j : Nat} {t : Str} (hit : EV X z iter es s (.str t) s1) (hl : t.cps.size ≤ 100000) (kb : Nat → Bool) (A : Nat → List PyData) (T U : Nat → S) (hA0 : A 0 = []) (t0 : T 0 = s1)
    (Ht : ∀ (z' : Z) (i c : Nat), t.cps[i]? = some c → ∀ σ H, En z' H σ (es.set j (.val (.str ⟨#[c]⟩))) → At z' H (T i) → ∀ Q : Bool → Hp → Prop, (∀ H2, Ez z' H H2 → At z' H2 (U i) → Q (kb i) H2) → tt σ H Q)
    (He : ∀ (z' : Z) (i c : Nat), t.cps[i]? = some c → kb i = true → ∃ y, A (i + 1) = A i ++ [y] ∧ ∀ σ H, En z' H σ (es.set j (.val (.str ⟨#[c]⟩))) → At z' H (U i) → ∀ Q : VK, (∀ v H2, Ez z' H H2 → At z' H2 (T (i + 1)) → Da z' H2 v y → Q v H2) → te σ H Q)
    (hn : ∀ (i c : Nat), t.cps[i]? = some c → kb i = false → A (i + 1) = A i ∧ T (i + 1) = U i) :
    ∀ σ H, En z H σ es → At z H s → ∀ Q : VK, (∀ v H2, Ez z H H2 → At z H2 (T t.cps.size) → Da z H2 v (.list (A t.cps.size)) → Q v H2) → tLc (iStr (wE X iter)) (gName j) tt te [j] σ H Q := fun σ H en at_ Q q => by
  refine hit σ H en at_ _ fun v H1 e1 a1 v1 => ?_
  cases v1
  have g : ∀ i, i < t.cps.size → t.cps[i]? = some (t.cps.getD i 0) := fun i hi => by
    rw [Array.getD_eq_getD_getElem?, Array.getElem?_eq_getElem hi]
    rfl
  refine ⟨t, rfl, fun D hD => ?_⟩
  refine lc_gen (walk_str (z := t)) T U (en.mono e1) (t0 ▸ a1) hD (fun i => .str ⟨#[t.cps.getD i 0]⟩) (fun H' e => trivial) (fun i x H' H2 hi hy => ⟨hy.1, ?_⟩) hl kb A hA0 (fun z' i hi => Ht z' i _ (g i hi)) (fun z' i hi => He z' i _ (g i hi)) (fun i hi => hn i _ (g i hi)) (fun H' e a2 d2 => q _ H' (e1.trans e) a2 d2)
  obtain ⟨c, hc, rfl⟩ := hy.2
  have := g i hi
  rw [hc] at this
  rw [← Option.some.inj this]
  exact .str _
/-- in the block of a comprehension -/
abbrev Blk (X : Cx) (scope : Scope) (p : Cx → Prop) : Prop := ∀ (s0 : Shared) (H0 : Hp) (C : Addr) (cl : List (Str × Addr)) (fp : List Addr), p (X.blk s0 H0 scope (compEnvC scope cl C X.env) fp)
def tEl (X : Cx) (scope : Scope) (elt : Expr) : TE := fun σ H Q => ∀ (s0 : Shared) (H0 : Hp) (C : Addr) (cl : List (Str × Addr)) (fp : List Addr), wE (X.blk s0 H0 scope (compEnvC scope cl C X.env) fp) elt σ H Q
def tTs (X : Cx) (scope : Scope) (cond : Expr) : TT := fun σ H Q => ∀ (s0 : Shared) (H0 : Hp) (C : Addr) (cl : List (Str × Addr)) (fp : List Addr), wT (X.blk s0 H0 scope (compEnvC scope cl C X.env) fp) cond σ H Q
theorem tEl_ok {scope : Scope} (s0 : Shared) (H0 : Hp) (C : Addr) (cl : List (Str × Addr)) (fp : List Addr) : PE (X.blk s0 H0 scope (compEnvC scope cl C X.env) fp) elt (tEl X scope elt) := ⟨fun pins s σ H Q I h => wE_ok.run pins s σ H Q I (h s0 H0 C cl fp)⟩
theorem tTs_ok {scope : Scope} (s0 : Shared) (H0 : Hp) (C : Addr) (cl : List (Str × Addr)) (fp : List Addr) : PTs (X.blk s0 H0 scope (compEnvC scope cl C X.env) fp) [cond] (tTs X scope cond) := pts_one ⟨fun pins s σ H Q I h => wT_ok.run pins s σ H Q I (h s0 H0 C cl fp)⟩
theorem ev_lcIf {j : Nat} {x : Str} {scope : Scope} {p pos : Pos} (hc : X.calm = true) (hN : X.N.Nodup) (hit : EV X z iter es s (.list ds) s1) (hl : ds.length ≤ 100000) (kb : Nat → Bool) (A : Nat → List PyData) (T U : Nat → S) (hA0 : A 0 = []) (t0 : T 0 = s1)
    (hB : BlkOk X.N X.env.scope scope [(x, j)]) (hg : ∀ (s : Shared) (H : Hp) (C : Addr) (cl : List (Str × Addr)) (fp : List Addr), PG (X.blk s H scope (compEnvC scope cl C X.env) fp) (.Name x p) (gName j))
    (Ht : ∀ (z' : Z) (i : Nat) d, ds[i]? = some d → Blk X scope fun Y => ET Y z' cond (es.set j (.val d)) (T i) (kb i) (U i))
    (He : ∀ (i : Nat) d, ds[i]? = some d → kb i = true → ∃ y, A (i + 1) = A i ++ [y] ∧ ∀ z' : Z, Blk X scope fun Y => EV Y z' elt (es.set j (.val d)) (U i) y (T (i + 1)))
    (hn : ∀ (i : Nat) d, ds[i]? = some d → kb i = false → A (i + 1) = A i ∧ T (i + 1) = U i) (hs : ∀ x, foldedSetIterable iter X.env x = pure x := by intro _; rfl) :
    EV X z (.ListComp elt [{ target := .Name x p, iter := iter, ifs := [cond], is_async := 0 }] scope pos) es s (.list (A ds.length)) (T ds.length) :=
  .mk (pe_lc (own := [(x, j)]) hc hN (pi_list wE_ok) hB hg tTs_ok tEl_ok hs)
    (lc_read hit hl kb A T U hA0 t0 (fun z' i d hd σ H en at_ Q q s0 H0 C cl fp => Ht z' i d hd s0 H0 C cl fp σ H en at_ Q q)
      (fun z' i d hd hk => by
        obtain ⟨y, hy, go⟩ := He i d hd hk
        exact ⟨y, hy, fun σ H en at_ Q q s0 H0 C cl fp => go z' s0 H0 C cl fp σ H en at_ Q q⟩) hn)
/-- y = [.. if ..] -/
theorem sr_lcIf {j k : Nat} {x y : Str} {scope : Scope} {p py pos spos : Pos} {rest : List Stmt} {o : Out} (hc : X.calm = true) (hN : X.N.Nodup) (hit : EV X z iter es s (.list ds) s1) (hl : ds.length ≤ 100000) (kb : Nat → Bool) (A : Nat → List PyData) (T U : Nat → S) (hA0 : A 0 = []) (t0 : T 0 = s1)
    (hB : BlkOk X.N X.env.scope scope [(x, j)]) (hg : ∀ (s : Shared) (H : Hp) (C : Addr) (cl : List (Str × Addr)) (fp : List Addr), PG (X.blk s H scope (compEnvC scope cl C X.env) fp) (.Name x p) (gName j))
    (Ht : ∀ (z' : Z) (i : Nat) d, ds[i]? = some d → Blk X scope fun Y => ET Y z' cond (es.set j (.val d)) (T i) (kb i) (U i))
    (He : ∀ (i : Nat) d, ds[i]? = some d → kb i = true → ∃ y, A (i + 1) = A i ++ [y] ∧ ∀ z' : Z, Blk X scope fun Y => EV Y z' elt (es.set j (.val d)) (U i) y (T (i + 1)))
    (hn : ∀ (i : Nat) d, ds[i]? = some d → kb i = false → A (i + 1) = A i ∧ T (i + 1) = U i) (kk : SR X z rest (es.set k (.val (.list (A ds.length)))) (T ds.length) o)
    (hi : X.N[k]? = some y := by rfl) (hy : List.lookup y X.env.scope.names = some NameKind.local := by rfl)
    (hsw : swapsWith (.ListComp elt [{ target := .Name x p, iter := iter, ifs := [cond], is_async := 0 }] scope pos) (some (.Name y py)) spos.line X.env = pure true := by exact sw_true rfl rfl rfl (by decide +kernel)) (hs : ∀ x, foldedSetIterable iter X.env x = pure x := by intro _; rfl) :
    SR X z (.Assign [.Name y py] (.ListComp elt [{ target := .Name x p, iter := iter, ifs := [cond], is_async := 0 }] scope pos) spos :: rest) es s o := fun σ H en at_ D q =>
  ⟨_, pss_cons (ps_setLc (i := k) (own := [(x, j)]) hc hN hi hy hsw (pi_list wE_ok) hB hg tTs_ok tEl_ok hs) wB_ok, by
    show tLc (iList X.K (wE X iter)) (gName j) (tTs X scope cond) (tEl X scope elt) [j] σ H (fun v H1 => wB X rest D (σ.set k (some v)) H1)
    exact lc_read hit hl kb A T U hA0 t0 (fun z' i d hd σ H en at_ Q q s0 H0 C cl fp => Ht z' i d hd s0 H0 C cl fp σ H en at_ Q q)
      (fun z' i d hd hk => by
        obtain ⟨y, hy, go⟩ := He i d hd hk
        exact ⟨y, hy, fun σ H en at_ Q q s0 H0 C cl fp => go z' s0 H0 C cl fp σ H en at_ Q q⟩) hn σ H en at_ _ fun v H2 e2 a2 v2 => kk _ H2 ((en.mono e2).set k (.val v2)) a2 D (q.mono e2)⟩
theorem ev_lcStr {j : Nat} {t : Str} {x : Str} {scope : Scope} {p pos : Pos} (hc : X.calm = true) (hN : X.N.Nodup) (hit : EV X z iter es s (.str t) s) (hl : t.cps.size ≤ 100000) (f : Nat → PyData)
    (hB : BlkOk X.N X.env.scope scope [(x, j)]) (hg : ∀ (s : Shared) (H : Hp) (C : Addr) (cl : List (Str × Addr)) (fp : List Addr), PG (X.blk s H scope (compEnvC scope cl C X.env) fp) (.Name x p) (gName j))
    (He : ∀ (c : Nat), ∀ z' : Z, Blk X scope fun Y => EV Y z' elt (es.set j (.val (.str ⟨#[c]⟩))) s (f c) s) (hs : ∀ x, foldedSetIterable iter X.env x = pure x := by intro _; rfl) :
    EV X z (.ListComp elt [{ target := .Name x p, iter := iter, ifs := [], is_async := 0 }] scope pos) es s (.list (t.cps.toList.map f)) s :=
  .mk (pe_lc (own := [(x, j)]) hc hN (pi_str wE_ok) hB hg (fun _ _ _ _ _ => pts_nil) tEl_ok hs) (by
    have g := lc_readS (X := X) (te := tEl X scope elt) (tt := tYes) (j := j) hit hl (fun _ => true) (fun i => (t.cps.toList.take i).map f) (fun _ => s) (fun _ => s) rfl rfl (fun z' i c hc σ H en at_ Q q => q H (.refl H) at_)
      (fun z' i c hc _ => ⟨f c, by rw [List.take_add_one, List.map_append, Array.getElem?_toList, hc]; rfl, fun σ H en at_ Q q s0 H0 C cl fp => He c z' s0 H0 C cl fp σ H en at_ Q q⟩) (fun i c _ h => by cases h)
    rw [show (t.cps.toList.take t.cps.size) = t.cps.toList from List.take_of_length_le (by simp)] at g
    exact g)
theorem rb_all {bs : List Bool} {K : PySem.W.Frag} : RB z s (rAll K) [.list (bs.map .bool)] (.bool (bs.all id)) := fun vs H at_ h Q q => by
  cases h with
  | cons h r =>
    cases r
    cases h with
    | lst n e r =>
      have : ∀ {xs : List V} {bs : List Bool}, DaAll z H xs (bs.map .bool) → xs = bs.map V.bl := by
        intro xs bs
        induction bs generalizing xs with
        | nil => intro h; cases h; rfl
        | cons b bs ih =>
          intro h
          cases h with
          | cons h r =>
            cases h
            rw [ih r]
            rfl
      rw [this r] at e
      exact ⟨_, bs, rfl, .inl (.inl e), q _ H (.refl H) at_ (.bl _)⟩
end
end DL


set_option Elab.async false
set_option linter.all false
set_option maxRecDepth 100000
namespace DL
open PySem PySem.Spec PyProof.Rows L2
variable [TabT]
/-! ### 9. lists of a def's own, written in place -/
theorem En.slot {z : Z} {H : Hp} : ∀ {σ : L2.St} {es : List Sl}, En z H σ es → ∀ {i : Nat} {e : Sl}, es[i]? = some e → ∃ x, σ[i]? = some x ∧ SlR z H x e
  | _, _, .nil, i, e, h => by simp at h
  | _, _, .cons h r, 0, e, q => by
    cases Option.some.inj q
    exact ⟨_, rfl, h⟩
  | _, _, .cons h r, i + 1, e, q => En.slot r (i := i) q
theorem En.by_slots {z : Z} {H : Hp} : ∀ {σ : List (Option V)} {es : List Sl}, σ.length = es.length → (∀ (i : Nat) (x : Option V) (e : Sl), σ[i]? = some x → es[i]? = some e → SlR z H x e) → En z H σ es
  | [], [], _, _ => .nil
  | [], _ :: _, h, _ => by simp at h
  | _ :: _, [], h, _ => by simp at h
  | x :: σ, e :: es, h, k => .cons (k 0 x e rfl rfl) (En.by_slots (by simpa using h) fun i x e h1 h2 => k (i + 1) x e h1 h2)
def Z.own (z : Z) (vol : List (Addr × HO)) : Z := ⟨z.dice, vol ++ z.vol⟩
/-- how a def's run stands: z: what its caller holds; Hc: the heap at its entry; vol: its own lists -/
structure OI (z : Z) (Hc H : Hp) (vol : List (Addr × HO)) (σ : L2.St) (es : List Sl) (s : S) : Prop where
  new : ∀ q ∈ vol, Hc q.1 = none
  nd : (vol.map (·.1)).Nodup
  base : ∀ q ∈ z.vol, Hc q.1 ≠ none
  at_ : At (z.own vol) H s
  en : En (z.own vol) H σ es
  ez : Ez z Hc H
  far : ∀ (i : Nat) (ds : List PyData) (p : Addr), es[i]? = some (Sl.own ds) → σ[i]? = some (some (V.ref p)) → Hc p = none
  two : ∀ (i j : Nat) (ds ds' : List PyData) (p : Addr), i ≠ j → es[i]? = some (Sl.own ds) → es[j]? = some (Sl.own ds') → σ[i]? = some (some (V.ref p)) → σ[j]? ≠ some (some (V.ref p))
theorem Fz.of_own {z : Z} {vol : List (Addr × HO)} {a : Addr} (h : Fz (z.own vol) a) : Fz z a ∧ ∀ o, (a, o) ∉ vol := ⟨⟨h.1, fun o m => h.2 o (List.mem_append_right _ m)⟩, fun o m => h.2 o (List.mem_append_left _ m)⟩
theorem Fz.to_own {z : Z} {vol : List (Addr × HO)} {a : Addr} (h : Fz z a) (n : ∀ o, (a, o) ∉ vol) : Fz (z.own vol) a := ⟨h.1, fun o m => by
  rcases List.mem_append.mp m with m | m
  · exact n o m
  · exact h.2 o m⟩
section
variable {z : Z} {Hc H H' : Hp} {vol : List (Addr × HO)} {σ : L2.St} {es : List Sl} {s s' : S}
/-- what was there at the entry is none of the def's own lists -/
theorem OI.old (I : OI z Hc H vol σ es s) {a : Addr} {o : HO} (h : Hc a = some o) : ∀ u, (a, u) ∉ vol := fun u m => by
  rw [I.new _ m] at h
  cases h
theorem OI.ezc (I : OI z Hc H vol σ es s) (e : Ez (z.own vol) H H') : Ez z Hc H' := fun a o f h => e a o (f.to_own (I.old h)) (I.ez a o f h)
theorem OI.atz (I : OI z Hc H vol σ es s) (a : At (z.own vol) H' s') : At z H' s' := ⟨a.d, fun p m => a.v p (List.mem_append_right _ m), fun p m => a.n p (List.mem_append_right _ m), a.t⟩
/-- an expression's run, that changes no list of its own -/
theorem OI.step (I : OI z Hc H vol σ es s) (e : Ez (z.own vol) H H') (a : At (z.own vol) H' s') : OI z Hc H' vol σ es s' := ⟨I.new, I.nd, I.base, a, I.en.mono e, I.ezc e, I.far, I.two⟩
end
/-- how a block ends -/
def MO (z : Z) (Hc : Hp) (D : Ends) : Out → Prop
  | .nx es s => ∀ vol σ' H', OI z Hc H' vol σ' es s → D.nx σ' H'
  | .rt d s => ∀ v H', Ez z Hc H' → At z H' s → Da z H' v d → D.rt v H'
  | .ex W _ x s => ∀ cls dx σ' H', Ez z Hc H' → At z H' s → XR z H' cls dx x → W cls dx σ' H'
/-- a block that may hold lists of its own -/
def SO (X : Cx) (st : List Stmt) (es : List Sl) (s : S) (o : Out) : Prop := ∀ (z : Z) (Hc H : Hp) vol σ, OI z Hc H vol σ es s → ∀ D : Ends, MO z Hc D o → wB X st D σ H
section
variable {X : Cx} {es es1 es2 fs : List Sl} {s s1 s2 s' : S} {a b c e : Expr} {xs : List Expr} {pos p p1 p2 p3 p4 apos : Pos} {d d1 d2 : PyData} {ds : List PyData} {o : Out} {st : Stmt} {rest body els : List Stmt}
theorem so_nil : SO X [] es s (.nx es s) := fun z Hc H vol σ I D q => ⟨_, pss_nil, q vol σ H I⟩
theorem so_ret (h : ∀ z, EV X z e es s d s1) : SO X (.Return (some e) pos :: rest) es s (.rt d s1) := fun z Hc H vol σ I D q =>
  ⟨_, pss_cons (ps_ret wE_ok) wB_never, h _ σ H I.en I.at_ _ fun v H1 e1 a1 v1 => q v H1 (I.ezc e1) (I.atz a1) (v1.re fun a o f h => ⟨f.of_own.1, h⟩)⟩
/-- a list of one's own is handed back -/
theorem so_retO (i : Nat) {x : Str} (h : es[i]? = some (.own ds) := by rfl) (hN : X.N[i]? = some x := by rfl) (hv : Vis X.env.scope x := by first | exact Or.inl rfl | exact Or.inr (Or.inl rfl) | exact Or.inr (Or.inr rfl)) (hd : (x == ("__debug__" : Str)) = false := by decide) (hcd : (x == ("__classdict__" : Str)) = false := by decide) :
    SO X (.Return (some (.Name x p)) pos :: rest) es s (.rt (.list ds) s) := fun z Hc H vol σ I D q => by
  obtain ⟨y, hy, r⟩ := I.en.slot h
  cases r with
  | @own a vs _ m k =>
    have hc := I.far i ds a h hy
    have ha : H a = some (.lst vs) := I.at_.v _ m
    have f : Fz z a := ⟨⟨fun e => (I.at_.n _ m).1 e, I.at_.tab_far (I.at_.v _ m)⟩, fun o mo => I.base _ mo hc⟩
    exact ⟨_, pss_cons (ps_ret (pe_var hN hv hd hcd)) wB_never, _, hy, q _ H I.ez (I.atz I.at_) (.lst f ha (k.re fun b u fb hb => ⟨fb.of_own.1, hb⟩))⟩
theorem OI.set {z : Z} {Hc H H' : Hp} {vol : List (Addr × HO)} {σ : L2.St} (I : OI z Hc H vol σ es s) (e : Ez (z.own vol) H H') (a : At (z.own vol) H' s1) (i : Nat) {v : V} (hv : Da (z.own vol) H' v d) : OI z Hc H' vol (σ.set i (some v)) (es.set i (.val d)) s1 := by
  refine ⟨I.new, I.nd, I.base, a, (I.en.mono e).set i (.val hv), I.ezc e, fun j ds p h1 h2 => ?_, fun j k ds ds' p n h1 h2 h3 => ?_⟩
  · by_cases hj : i = j
    · subst hj
      have : (es.set i (Sl.val d))[i]? = some (.val d) ∨ (es.set i (Sl.val d))[i]? = none := by
        by_cases hl : i < es.length
        · left; rw [List.getElem?_set_self hl]
        · right; rw [List.getElem?_eq_none (by rw [List.length_set]; omega)]
      rcases this with e | e <;> rw [e] at h1 <;> cases h1
    · rw [List.getElem?_set_ne hj] at h1 h2
      exact I.far j ds p h1 h2
  · have ne : ∀ {m : Nat} {ds : List PyData}, (es.set i (Sl.val d))[m]? = some (.own ds) → i ≠ m := fun {m ds} h e => by
      subst e
      by_cases hl : i < es.length
      · rw [List.getElem?_set_self hl] at h
        cases h
      · rw [List.getElem?_eq_none (by rw [List.length_set]; omega)] at h
        cases h
    have nj := ne h1
    have nk := ne h2
    rw [List.getElem?_set_ne nj] at h1 h3
    rw [List.getElem?_set_ne nk] at h2 ⊢
    exact I.two j k ds ds' p n h1 h2 h3
theorem so_asg (i : Nat) {x : Str} (hN : X.N.Nodup) (h : ∀ z, EV X z e es s d s1) (k : SO X rest (es.set i (.val d)) s1 o) (hi : X.N[i]? = some x := by rfl) (hx : Loc X.env.scope x := by first | exact Or.inl rfl | exact Or.inr rfl)
    (hs : swapsWith e (some (.Name x p)) pos.line X.env = pure false := by rfl) (hf : X.fn x = true ∨ X.env.scope.names.lookup x = some .local := by first | exact .inl rfl | exact .inr rfl) : SO X (.Assign [.Name x p] e pos :: rest) es s o := fun z Hc H vol σ I D q =>
  ⟨_, pss_cons (ps_set hN hi hx wE_ok hs hf) wB_ok, h _ σ H I.en I.at_ _ fun v H1 e1 a1 v1 => k z Hc H1 vol _ (I.set e1 a1 i v1) D q⟩
/-- a block that leaves the own lists alone, by the rules of part 4 -/
theorem so_of (h : ∀ z, SR X z body es s (.rt d s1)) : SO X body es s (.rt d s1) := fun z Hc H vol σ I D q =>
  h _ σ H I.en I.at_ D fun v H1 e1 a1 v1 => q v H1 (I.ezc e1) (I.atz a1) (v1.re fun a o f h => ⟨f.of_own.1, h⟩)
theorem so_ifT (hc : ∀ z, ET X z c es s true s1) (h : SO X body es s1 (.rt d s2)) : SO X (.If c body els pos :: rest) es s (.rt d s2) := fun z Hc H vol σ I D q =>
  ⟨_, pss_cons (ps_if wT_ok wB_ok wB_never) wB_never, hc _ σ H I.en I.at_ _ fun H1 e1 a1 => iteT (h z Hc H1 vol σ (I.step e1 a1) _ q)⟩
theorem so_ifTn (hc : ∀ z, ET X z c es s true s1) (h : SO X body es s1 (.nx es2 s2)) (k : SO X rest es2 s2 o) : SO X (.If c body els pos :: rest) es s o := fun z Hc H vol σ I D q =>
  ⟨_, pss_cons (ps_if wT_ok wB_ok wB_never) wB_ok, hc _ σ H I.en I.at_ _ fun H1 e1 a1 => iteT (h z Hc H1 vol σ (I.step e1 a1) _ fun vol' σ' H' I' => k z Hc H' vol' σ' I' D q)⟩
theorem so_ifF (hc : ∀ z, ET X z c es s false s1) (k : SO X rest es s1 o) : SO X (.If c body [] pos :: rest) es s o := fun z Hc H vol σ I D q =>
  ⟨_, pss_cons (ps_if wT_ok wB_never pss_nil) wB_ok, hc _ σ H I.en I.at_ _ fun H1 e1 a1 => iteF (k z Hc H1 vol σ (I.step e1 a1) D q)⟩
theorem so_elFn (hc : ∀ z, ET X z c es s false s1) (h : SO X els es s1 (.nx es2 s2)) (k : SO X rest es2 s2 o) : SO X (.If c body els pos :: rest) es s o := fun z Hc H vol σ I D q =>
  ⟨_, pss_cons (ps_if wT_ok wB_never wB_ok) wB_ok, hc _ σ H I.en I.at_ _ fun H1 e1 a1 => iteF (h z Hc H1 vol σ (I.step e1 a1) _ fun vol' σ' H' I' => k z Hc H' vol' σ' I' D q)⟩
theorem so_expr (h : ∀ z, EV X z e es s d s1) (k : SO X rest es s1 o) (hs : swapsWith e none pos.line X.env = pure false := by rfl) : SO X (.Expr e pos :: rest) es s o := fun z Hc H vol σ I D q =>
  ⟨_, pss_cons (ps_expr wE_ok hs) wB_ok, h _ σ H I.en I.at_ _ fun v H1 e1 a1 v1 => k z Hc H1 vol σ (I.step e1 a1) D q⟩
/-! a new list, not yet known to anybody -/
def EN (X : Cx) (z : Z) (e : Expr) (es : List Sl) (s : S) (ds : List PyData) (s' : S) : Prop := ∀ σ H, En z H σ es → At z H s → ∀ Q : VK, (∀ p vs H1, Ez z H H1 → At z H1 s' → H1 p = none → DaAll z H1 vs ds → Q (.ref p) (upd H1 p (.lst vs))) → wE X e σ H Q
theorem en_lst {z : Z} (h : ED X z xs es s ds s') (hl : ds.length ≤ 100000 := by exact Nat.le_of_ble_eq_true rfl) : EN X z (.List xs pos) es s ds s' := fun σ H en at_ Q q => ⟨_, pe_lst wA_ok,
  h σ H en at_ _ fun vs H1 e1 a1 v1 => ⟨by rw [v1.length]; exact Nat.le_trans hl (by decide), fun p hp => q p vs H1 e1 a1 hp v1⟩⟩
theorem so_new (i : Nat) {x : Str} (hN : X.N.Nodup) (h : ∀ z, EN X z e es s ds s1) (k : SO X rest (es.set i (.own ds)) s1 o) (hi : X.N[i]? = some x := by rfl) (hx : Loc X.env.scope x := by first | exact Or.inl rfl | exact Or.inr rfl)
    (hs : swapsWith e (some (.Name x p)) pos.line X.env = pure false := by rfl) (hf : X.fn x = true ∨ X.env.scope.names.lookup x = some .local := by first | exact .inl rfl | exact .inr rfl) : SO X (.Assign [.Name x p] e pos :: rest) es s o := fun z Hc H vol σ I D q =>
  ⟨_, pss_cons (ps_set hN hi hx wE_ok hs hf) wB_ok, h _ σ H I.en I.at_ _ fun a vs H1 e1 a1 ha r => k z Hc _ ((a, .lst vs) :: vol) _ (by
    have nc : Hc a = none := by
      cases hh : Hc a with
      | none => rfl
      | some u =>
        have f : Fz (z.own vol) a := a1.fresh ha
        rw [I.ezc e1 a u f.of_own.1 hh] at ha
        cases ha
    have fa := a1.fresh ha
    have e2 : Ez (z.own vol) H1 (upd H1 a (.lst vs)) := .new ha
    have re : ∀ (b : Addr) (u : HO), Fz (z.own vol) b → H1 b = some u → Fz (z.own ((a, .lst vs) :: vol)) b ∧ upd H1 a (.lst vs) b = some u := fun b u fb hb => by
      have nb := ne_of_none hb ha
      refine ⟨⟨fb.1, fun o m => ?_⟩, by rw [upd_ne nb]; exact hb⟩
      rcases List.mem_cons.mp m with e | m
      · exact nb (congrArg Prod.fst e)
      · exact fb.2 o m
    have notin : ∀ u, (a, u) ∉ vol := fun u m => fa.2 u (List.mem_append_left _ m)
    refine ⟨?_, ?_, I.base, ⟨?_, ?_, ?_, tabs_new a1.t ha⟩, ?_, (I.ezc e1).trans (.new ha), ?_, ?_⟩
    · intro q hq
      rcases List.mem_cons.mp hq with e | m
      · rw [e]
        exact nc
      · exact I.new q m
    · show ((a :: vol.map (·.1)) : List Addr).Nodup
      refine List.nodup_cons.mpr ⟨fun m => ?_, I.nd⟩
      obtain ⟨q, hq, e⟩ := List.mem_map.mp m
      exact notin q.2 (by rw [← e]; exact hq)
    · intro b hb
      have := a1.d b hb
      rw [upd_ne (ne_of_none this ha)]
      exact this
    · intro q hq
      rcases List.mem_cons.mp hq with e | m
      · rw [e]
        exact upd_same
      · have := a1.v q m
        rw [upd_ne (ne_of_none this ha)]
        exact this
    · intro q hq
      rcases List.mem_cons.mp hq with e | m
      · rw [e]
        exact ⟨fa.1.1, .lst _⟩
      · exact a1.n q m
    · exact (En.re (z := z.own vol) (z' := z.own ((a, .lst vs) :: vol)) rfl (fun q m => List.mem_cons_of_mem _ m) re (I.en.mono e1)).set i (.own (List.mem_cons_self ..) (r.re re))
    · intro j ds' b h1 h2
      by_cases hj : i = j
      · subst hj
        by_cases hl : i < σ.length
        · rw [List.getElem?_set_self hl] at h2
          cases h2
          exact nc
        · rw [List.getElem?_eq_none (by rw [List.length_set]; omega)] at h2
          cases h2
      · rw [List.getElem?_set_ne hj] at h1 h2
        exact I.far j ds' b h1 h2
    · intro j l ds1 ds2 b n h1 h2 h3 h4
      have own_ne : ∀ {m : Nat} {ds' : List PyData}, i ≠ m → (es.set i (Sl.own ds))[m]? = some (.own ds') → (σ.set i (some (.ref a)))[m]? = some (some (.ref b)) → b ≠ a := fun {m ds'} hm g1 g2 e => by
        rw [List.getElem?_set_ne hm] at g1 g2
        subst e
        obtain ⟨y, hy, r⟩ := I.en.slot g1
        rw [g2] at hy
        cases hy
        cases r with
        | own mm _ =>
          have := a1.v _ mm
          rw [show H1 b = _ from this] at ha
          cases ha
      have self : ∀ {m : Nat}, i = m → (σ.set i (some (.ref a)))[m]? = some (some (.ref b)) → b = a := fun {m} hm g => by
        subst hm
        by_cases hl : i < σ.length
        · rw [List.getElem?_set_self hl] at g
          cases g
          rfl
        · rw [List.getElem?_eq_none (by rw [List.length_set]; omega)] at g
          cases g
      by_cases hj : i = j
      · exact own_ne (fun e => n (hj.symm.trans e)) h2 h4 (self hj h3)
      · by_cases hl : i = l
        · exact own_ne hj h1 h3 (self hl h4)
        · rw [List.getElem?_set_ne hj] at h1 h3
          rw [List.getElem?_set_ne hl] at h2 h4
          exact I.two j l ds1 ds2 b n h1 h2 h3 h4) D q⟩
/-- the list in slot i changed in place -/
theorem OI.write {z : Z} {Hc H H' : Hp} {vol : List (Addr × HO)} {σ : L2.St} {a : Addr} {vs vs' : List V} {ds' : List PyData} {i : Nat} (I : OI z Hc H vol σ es s) (h : es[i]? = some (.own ds)) (hy : σ[i]? = some (some (.ref a))) (m : (a, HO.lst vs) ∈ (z.own vol).vol)
    (e1 : Ez (z.own vol) H H') (a1 : At (z.own vol) H' s1) (r : DaAll (z.own vol) H' vs' ds') : ∃ vol', OI z Hc (upd H' a (.lst vs')) vol' σ (es.set i (.own ds')) s1 := by
  have hc := I.far i ds a h hy
  have mv : (a, HO.lst vs) ∈ vol := by
    rcases List.mem_append.mp m with m | m
    · exact m
    · exact absurd hc (I.base _ m)
  have nz : ∀ q ∈ z.vol, q.1 ≠ a := fun q hq e => I.base q hq (by rw [e]; exact hc)
  let g : Addr × HO → Addr × HO := fun q => if q.1 = a then (a, .lst vs') else q
  have g1 : ∀ q, (g q).1 = q.1 := fun q => by
    show (if q.1 = a then (a, HO.lst vs') else q).1 = q.1
    by_cases e : q.1 = a
    · rw [if_pos e, e]
    · rw [if_neg e]
  have gm : vol.map (fun q => (g q).1) = vol.map (·.1) := by
    congr 1
    funext q
    exact g1 q
  have keep : ∀ {q : Addr × HO}, q.1 ≠ a → g q = q := fun {q} hn => if_neg hn
  have re : ∀ (b : Addr) (u : HO), Fz (z.own vol) b → H' b = some u → Fz (z.own (vol.map g)) b ∧ upd H' a (.lst vs') b = some u := fun b u fb hb => by
    have nb : b ≠ a := fun e => fb.2 (.lst vs) (by rw [e]; exact List.mem_append_left _ mv)
    refine ⟨⟨fb.1, fun o mo => ?_⟩, by rw [upd_ne nb]; exact hb⟩
    rcases List.mem_append.mp mo with mo | mo
    · obtain ⟨q, hq, e⟩ := List.mem_map.mp mo
      have q1 : q.1 = b := by rw [← g1 q, e]
      have : g q = q := keep (by rw [q1]; exact nb)
      rw [this] at e
      exact fb.2 o (List.mem_append_left _ (by rw [← e]; exact hq))
    · exact fb.2 o (List.mem_append_right _ mo)
  refine ⟨vol.map g, ⟨?_, ?_, I.base, ⟨?_, ?_, ?_, tabs_upd a1.t (a1.v _ m)⟩, ?_, ?_, ?_, ?_⟩⟩
  · intro q hq
    obtain ⟨q0, h0, e⟩ := List.mem_map.mp hq
    rw [← e, g1]
    exact I.new q0 h0
  · rw [List.map_map]
    show (vol.map fun q => (g q).1).Nodup
    rw [gm]
    exact I.nd
  · intro b hb
    rw [upd_ne (fun e => (a1.n _ m).1 (by rw [← e]; exact hb))]
    exact a1.d b hb
  · intro q hq
    rcases List.mem_append.mp hq with mo | mo
    · obtain ⟨q0, h0, e⟩ := List.mem_map.mp mo
      by_cases hn : q0.1 = a
      · have : g q0 = (a, .lst vs') := if_pos hn
        rw [← e, this]
        exact upd_same
      · rw [← e, keep hn, upd_ne hn]
        exact a1.v q0 (List.mem_append_left _ h0)
    · rw [upd_ne (nz q mo)]
      exact a1.v q (List.mem_append_right _ mo)
  · intro q hq
    rcases List.mem_append.mp hq with mo | mo
    · obtain ⟨q0, h0, e⟩ := List.mem_map.mp mo
      rw [← e, g1]
      refine ⟨(a1.n q0 (List.mem_append_left _ h0)).1, ?_⟩
      by_cases hn : q0.1 = a
      · rw [show g q0 = (a, .lst vs') from if_pos hn]
        exact .lst _
      · rw [keep hn]
        exact (a1.n q0 (List.mem_append_left _ h0)).2
    · exact a1.n q (List.mem_append_right _ mo)
  · have en1 := I.en.mono e1
    have ma : (a, HO.lst vs') ∈ vol.map g := List.mem_map.mpr ⟨_, mv, if_pos rfl⟩
    refine En.by_slots (by rw [List.length_set, en1.length]) fun j x e hx he => ?_
    by_cases hj : i = j
    · subst hj
      have hl : i < es.length := (List.getElem?_eq_some_iff.mp h).1
      rw [List.getElem?_set_self hl] at he
      cases he
      rw [hy] at hx
      cases hx
      exact .own (List.mem_append_left _ ma) (r.re re)
    · rw [List.getElem?_set_ne hj] at he
      obtain ⟨y, hy2, rr⟩ := en1.slot he
      rw [hx] at hy2
      cases hy2
      cases rr with
      | fk r => exact .fk (r.re re)
      | fns n h r => exact .fns (re _ _ n h).1 (re _ _ n h).2 (fun q hq => (r q hq).re re)
      | un => exact .un
      | val d => exact .val (d.re re)
      | dice e => exact .dice e
      | raw => exact .raw
      | @dct b kvs2 ks2 ds2 mm e2 k =>
        have nb : b ≠ a := fun e => by
          have h1 := I.at_.v _ mm
          have h2 := I.at_.v _ m
          rw [e, h2] at h1
          cases h1
        refine .dct ?_ e2 (k.re re)
        rcases List.mem_append.mp mm with mm | mm
        · exact List.mem_append_left _ (List.mem_map.mpr ⟨_, mm, keep nb⟩)
        · exact List.mem_append_right _ mm
      | exc q => exact .exc (q.re re)
      | @own b ws es' mm k =>
        have nb : b ≠ a := fun e => I.two i j _ _ a hj h he hy (by rw [← e]; exact hx)
        refine .own ?_ (k.re re)
        rcases List.mem_append.mp mm with mm | mm
        · exact List.mem_append_left _ (List.mem_map.mpr ⟨_, mm, keep nb⟩)
        · exact List.mem_append_right _ mm
  · intro b u fb hb
    have nb : b ≠ a := fun e => by
      rw [e, hc] at hb
      cases hb
    rw [upd_ne nb]
    exact I.ezc e1 b u fb hb
  · intro j ds2 b h1 h2
    by_cases hj : i = j
    · subst hj
      rw [hy] at h2
      cases h2
      exact hc
    · rw [List.getElem?_set_ne hj] at h1
      exact I.far j ds2 b h1 h2
  · intro j l ds1 ds2 b n h1 h2 h3
    have back : ∀ {m : Nat} {ds2 : List PyData}, (es.set i (Sl.own ds'))[m]? = some (.own ds2) → ∃ ds3, es[m]? = some (.own ds3) := fun {m ds2} hm => by
      by_cases e : i = m
      · subst e
        exact ⟨ds, h⟩
      · rw [List.getElem?_set_ne e] at hm
        exact ⟨_, hm⟩
    obtain ⟨d3, h1'⟩ := back h1
    obtain ⟨d4, h2'⟩ := back h2
    exact I.two j l d3 d4 b n h1' h2' h3
end
end DL


set_option Elab.async false
set_option linter.all false
set_option maxRecDepth 100000
namespace DL
open PySem PySem.Spec PyProof.Rows L2
variable [TabT]
/-! ### 10. comprehensions without a test -/
section
variable {X : Cx} {z : Z} {es es1 es2 : List Sl} {s s1 s2 : S} {iter elt cond a b e : Expr} {ds fs : List PyData} {d d1 d2 : PyData} {o : Out} {rest body els : List Stmt} {pos p p1 p2 p3 p4 : Pos}
abbrev PgIn (X : Cx) (scope : Scope) (t : Expr) (g : TG) : Prop := ∀ (s : Shared) (H : Hp) (C : Addr) (cl : List (Str × Addr)) (fp : List Addr), PG (X.blk s H scope (compEnvC scope cl C X.env) fp) t g
theorem take_succ {ds : List PyData} {f : PyData → PyData} {i : Nat} {d : PyData} (h : ds[i]? = some d) : (ds.take (i + 1)).map f = (ds.take i).map f ++ [f d] := by
  rw [List.take_add_one, h, List.map_append]
  rfl
/-- [e for x in a list] -/
theorem ev_lcF {j : Nat} {x : Str} {scope : Scope} (hc : X.calm = true) (hN : X.N.Nodup) (f : PyData → PyData) (hit : EV X z iter es s (.list ds) s) (hl : ds.length ≤ 100000) (hB : BlkOk X.N X.env.scope scope [(x, j)]) (hg : PgIn X scope (.Name x p) (gName j))
    (He : ∀ d ∈ ds, ∀ z' : Z, Blk X scope fun Y => EV Y z' elt (es.set j (.val d)) s (f d) s) (hs : ∀ x, foldedSetIterable iter X.env x = pure x := by intro _; rfl) :
    EV X z (.ListComp elt [{ target := .Name x p, iter := iter, ifs := [], is_async := 0 }] scope pos) es s (.list (ds.map f)) s :=
  .mk (pe_lc (own := [(x, j)]) hc hN (pi_list wE_ok) hB hg (fun _ _ _ _ _ => pts_nil) tEl_ok hs) (by
    have g := lc_read (X := X) (te := tEl X scope elt) (tt := tYes) (j := j) hit hl (fun _ => true) (fun i => (ds.take i).map f) (fun _ => s) (fun _ => s) rfl rfl (fun z' i d hd σ H en at_ Q q => q H (.refl H) at_)
      (fun z' i d hd _ => ⟨f d, take_succ hd, fun σ H en at_ Q q s0 H0 C cl fp => He d (List.mem_of_getElem? hd) z' s0 H0 C cl fp σ H en at_ Q q⟩) (fun i d _ h => by cases h)
    rw [List.take_length] at g
    exact g)
/-- [e for x in a tuple] -/
theorem ev_lcFT {j : Nat} {x : Str} {scope : Scope} (hc : X.calm = true) (hN : X.N.Nodup) (f : PyData → PyData) (hit : EV X z iter es s (.tuple ds) s) (hl : ds.length ≤ 100000) (hB : BlkOk X.N X.env.scope scope [(x, j)]) (hg : PgIn X scope (.Name x p) (gName j))
    (He : ∀ d ∈ ds, ∀ z' : Z, Blk X scope fun Y => EV Y z' elt (es.set j (.val d)) s (f d) s) (hs : ∀ x, foldedSetIterable iter X.env x = pure x := by intro _; rfl) :
    EV X z (.ListComp elt [{ target := .Name x p, iter := iter, ifs := [], is_async := 0 }] scope pos) es s (.list (ds.map f)) s :=
  .mk (pe_lc (own := [(x, j)]) hc hN (pi_tup wE_ok) hB hg (fun _ _ _ _ _ => pts_nil) tEl_ok hs) fun σ H en at_ Q q => by
    refine hit σ H en at_ _ fun v H1 e1 a1 v1 => ?_
    cases v1 with
    | @tup a xs _ fa ha r =>
      have hx : xs.length = ds.length := r.length
      have g : ∀ i, i < xs.length → ds[i]? = some (ds.getD i .none) := fun i hi => by
        rw [List.getD_eq_getElem?_getD, List.getElem?_eq_getElem (by omega)]
        rfl
      refine ⟨a, rfl, ⟨xs, .inl (.inl ha)⟩, fun D hD => ?_⟩
      refine lc_gen (walk_tup (K := X.K) (a := a) (xs := xs)) (fun _ => s) (fun _ => s) (en.mono e1) a1 hD (fun i => ds.getD i .none) (fun H' e => .inl (.inl (e a _ fa ha))) (fun i x H' H2 hi hy => ⟨hy.1, ?_⟩) (by omega) (fun _ => true) (fun i => (ds.take i).map f) rfl (fun z' i hi σ H en at_ Q q => q H (.refl H) at_)
        (fun z' i hi _ => ⟨f (ds.getD i .none), take_succ (g i hi), fun σ H en at_ Q q s0 H0 C cl fp => He _ (List.mem_of_getElem? (g i hi)) z' s0 H0 C cl fp σ H en at_ Q q⟩) (fun i _ h => by cases h) (fun H' e a2 d2 => ?_)
      · obtain ⟨d, hd, hv⟩ := r.getV i x hy.2
        have := g i hi
        rw [hd] at this
        rw [← Option.some.inj this]
        exact hv
      · rw [hx, List.take_length] at d2
        exact q _ H' (e1.trans e) a2 d2
/-- [e for x in range(n)], the state going along -/
theorem ev_lcFR {j : Nat} {x : Str} {scope : Scope} {n : Nat} (hc : X.calm = true) (hN : X.N.Nodup) (hm : X.mg "range" = none) (f : Nat → PyData) (T : Nat → S) (hit : ED X z [a] es s [.int (n : Int)] s1) (t0 : T 0 = s1) (hl : n ≤ 100000) (hB : BlkOk X.N X.env.scope scope [(x, j)]) (hg : PgIn X scope (.Name x p) (gName j))
    (He : ∀ i : Nat, i < n → ∀ z' : Z, Blk X scope fun Y => EV Y z' elt (es.set j (.val (.int (i : Int)))) (T i) (f i) (T (i + 1))) (hgl : Gl X "range" := by rfl) (hst : starEach [a] X.env = [(false, eval a X.env)] := by rfl) (hs : ∀ x, foldedSetIterable (.Call (.Name "range" p1) [a] [] p2) X.env x = pure x := by intro _; rfl) :
    EV X z (.ListComp elt [{ target := .Name x p, iter := .Call (.Name "range" p1) [a] [] p2, ifs := [], is_async := 0 }] scope pos) es s (.list ((List.range n).map f)) (T n) :=
  .mk (pe_lc (own := [(x, j)]) hc hN (pi_range1 hgl hm wA_ok hst) hB hg (fun _ _ _ _ _ => pts_nil) tEl_ok hs) fun σ H en at_ Q q => by
    refine hit σ H en at_ _ fun vs H1 e1 a1 v1 => ?_
    cases v1 with
    | cons h r =>
      cases r
      cases h
      refine ⟨(n : Int), rfl, by omega, by omega, fun D hD => ?_⟩
      rw [Int.toNat_natCast]
      refine lc_gen (walk_range (lo := 0) (n := n)) T T (en.mono e1) (t0 ▸ a1) hD (fun i => .int (i : Int)) (fun H' e => trivial) (fun i x H' H2 hi hy => ⟨hy.1, ?_⟩) hl (fun _ => true) (fun i => (List.range i).map f) rfl (fun z' i hi σ H en at_ Q q => q H (.refl H) at_)
        (fun z' i hi _ => ⟨f i, by rw [List.range_succ, List.map_append]; rfl, fun σ H en at_ Q q s0 H0 C cl fp => He i hi z' s0 H0 C cl fp σ H en at_ Q q⟩) (fun i _ h => by cases h) (fun H' e a2 d2 => q _ H' (e1.trans e) a2 d2)
      rw [hy.2]
      show Da z H1 (.int (0 + (i : Int))) _
      rw [Int.zero_add]
      exact .int _
/-- [e for x, y in a list of pairs] -/
theorem ev_lcP {j k : Nat} {x y : Str} {scope : Scope} {kt : Nat} (hc : X.calm = true) (hN : X.N.Nodup) (hjk : j ≠ k) (ps : List (PyData × PyData)) (f : PyData × PyData → PyData) (hit : EV X z iter es s (.list (ps.map fun q => .tuple [q.1, q.2])) s) (hl : ps.length ≤ 100000) (hB : BlkOk X.N X.env.scope scope [(x, j), (y, k)])
    (hg : PgIn X scope (.Tuple [.Name x p, .Name y p1] kt p2) (gTup X.K 2 (gCons (gName j) (gCons (gName k) gNil))))
    (He : ∀ q ∈ ps, ∀ z' : Z, Blk X scope fun Y => EV Y z' elt ((es.set j (.val q.1)).set k (.val q.2)) s (f q) s) (hs : ∀ x, foldedSetIterable iter X.env x = pure x := by intro _; rfl) :
    EV X z (.ListComp elt [{ target := .Tuple [.Name x p, .Name y p1] kt p2, iter := iter, ifs := [], is_async := 0 }] scope pos) es s (.list (ps.map f)) s :=
  .mk (pe_lc (own := [(x, j), (y, k)]) hc hN (pi_list wE_ok) hB hg (fun _ _ _ _ _ => pts_nil) tEl_ok hs) fun σ H en at_ Q q => by
    refine hit σ H en at_ _ fun v H1 e1 a1 v1 => ?_
    cases v1 with
    | @lst a xs _ fa ha r =>
      have hx : xs.length = ps.length := by rw [r.length, List.length_map]
      have g : ∀ i, i < xs.length → ps[i]? = some (ps.getD i (.none, .none)) := fun i hi => by
        rw [List.getD_eq_getElem?_getD, List.getElem?_eq_getElem (by omega)]
        rfl
      refine ⟨a, rfl, ⟨xs, .inl (.inl ha)⟩, fun D hD => ?_⟩
      refine lc_two (K := X.K) (walk_list (K := X.K) (a := a) (xs := xs)) (fun _ => s) (fun _ => s) (en.mono e1) a1 hD hjk (fun i => (ps.getD i (.none, .none)).1) (fun i => (ps.getD i (.none, .none)).2) (fun H' e => .inl (.inl (e a _ fa ha))) (fun i x H' H2 hi eH hy => ?_) (by omega) (fun _ => true) (fun i => (ps.take i).map f) rfl
        (fun z' i hi σ H en at_ Q q => q H (.refl H) at_) (fun z' i hi _ => ⟨f (ps.getD i (.none, .none)), by rw [List.take_add_one, g i hi, List.map_append]; rfl, fun σ H en at_ Q q s0 H0 C cl fp => He _ (List.mem_of_getElem? (g i hi)) z' s0 H0 C cl fp σ H en at_ Q q⟩) (fun i _ h => by cases h) (fun H' e a2 d2 => ?_)
      · obtain ⟨d, hd, hv⟩ := r.getV i x hy.2
        rw [List.getElem?_map, g i hi] at hd
        have e0 : PyData.tuple [(ps.getD i (.none, .none)).1, (ps.getD i (.none, .none)).2] = d := Option.some.inj hd
        subst e0
        cases hv with
        | @tup t us _ ft ht rt =>
          cases rt with
          | cons h1 rt =>
            cases rt with
            | cons h2 rt =>
              cases rt
              exact ⟨t, _, _, rfl, .inl (.inl (by rw [hy.1]; exact eH t _ ft ht)), .inl hy.1, h1, h2⟩
      · rw [hx, List.take_length] at d2
        exact q _ H' (e1.trans e) a2 d2
/-- [e for x, y in zip(a, b)], two lists of one length -/
theorem ev_lcZ {j k : Nat} {x y : Str} {scope : Scope} {kt : Nat} (hc : X.calm = true) (hN : X.N.Nodup) (hm : X.mg "zip" = none) (hjk : j ≠ k) (f : PyData → PyData → PyData) (hit : ED X z [a, b] es s [.list ds, .list fs] s) (hlen : ds.length = fs.length) (hl : ds.length ≤ 100000) (hB : BlkOk X.N X.env.scope scope [(x, j), (y, k)])
    (hg : PgIn X scope (.Tuple [.Name x p, .Name y p1] kt p2) (gTup X.K 2 (gCons (gName j) (gCons (gName k) gNil))))
    (He : ∀ (i : Nat) (d1 d2 : PyData), ds[i]? = some d1 → fs[i]? = some d2 → ∀ z' : Z, Blk X scope fun Y => EV Y z' elt ((es.set j (.val d1)).set k (.val d2)) s (f d1 d2) s) (hgl : Gl X "zip" := by rfl) (hst : starEach [a, b] X.env = (false, eval a X.env) :: starEach [b] X.env := by rfl) (hpl : (backTo p4 (starEach [b] X.env)).any (·.1) = false := by rfl)
    (hs : ∀ x, foldedSetIterable (.Call (.Name "zip" p3) [a, b] [] p4) X.env x = pure x := by intro _; rfl) :
    EV X z (.ListComp elt [{ target := .Tuple [.Name x p, .Name y p1] kt p2, iter := .Call (.Name "zip" p3) [a, b] [] p4, ifs := [], is_async := 0 }] scope pos) es s (.list (List.zipWith f ds fs)) s :=
  .mk (pe_lc (own := [(x, j), (y, k)]) hc hN (pi_zip hgl hm wA_ok hst hpl) hB hg (fun _ _ _ _ _ => pts_nil) tEl_ok hs) fun σ H en at_ Q q => by
    refine hit σ H en at_ _ fun vs H1 e1 a1 v1 => ?_
    cases v1 with
    | cons h1 r =>
      cases r with
      | cons h2 r =>
        cases r
        cases h1 with
        | @lst a1' xs _ fa ha r1 =>
          cases h2 with
          | @lst b1' ys _ fb hb r2 =>
            have hx : xs.length = ds.length := r1.length
            have hy : ys.length = fs.length := r2.length
            have g1 : ∀ i, i < ds.length → ds[i]? = some (ds.getD i .none) := fun i hi => by
              rw [List.getD_eq_getElem?_getD, List.getElem?_eq_getElem hi]
              rfl
            have g2 : ∀ i, i < ds.length → fs[i]? = some (fs.getD i .none) := fun i hi => by
              rw [List.getD_eq_getElem?_getD, List.getElem?_eq_getElem (by omega)]
              rfl
            have zl : (List.zipWith f ds fs).length = ds.length := by rw [List.length_zipWith]; omega
            refine ⟨a1', b1', xs, ys, rfl, .inl (.inl ha), .inl (.inl hb), fun D hD => ?_⟩
            refine lc_two (K := X.K) (walk_zip (K := X.K) (a := a1') (b := b1') (xs := xs) (ys := ys) (n := ds.length) (by omega)) (fun _ => s) (fun _ => s) (en.mono e1) a1 hD hjk (fun i => ds.getD i .none) (fun i => fs.getD i .none) (fun H' e => ⟨.inl (.inl (e _ _ fa ha)), .inl (.inl (e _ _ fb hb))⟩) (fun i x H' H2 hi eH hY => ?_) hl (fun _ => true) (fun i => (List.zipWith f ds fs).take i) rfl
              (fun z' i hi σ H en at_ Q q => q H (.refl H) at_) (fun z' i hi _ => ⟨f (ds.getD i .none) (fs.getD i .none), by
                rw [List.take_add_one, List.getElem?_zipWith, g1 i hi, g2 i hi]
                rfl, fun σ H en at_ Q q s0 H0 C cl fp => He i _ _ (g1 i hi) (g2 i hi) z' s0 H0 C cl fp σ H en at_ Q q⟩) (fun i _ h => by cases h) (fun H' e a2 d2 => ?_)
            · obtain ⟨T, u, v, rfl, nT, rfl, hu, hv⟩ := hY
              obtain ⟨d, hd, hdu⟩ := r1.getV i u hu
              obtain ⟨d', hd', hdv⟩ := r2.getV i v hv
              rw [g1 i hi] at hd
              rw [g2 i hi] at hd'
              exact ⟨T, u, v, rfl, .inl (.inl upd_same), .inr ⟨nT, rfl⟩, by rw [Option.some.inj hd]; exact hdu, by rw [Option.some.inj hd']; exact hdv⟩
            · have : (List.zipWith f ds fs).take ds.length = List.zipWith f ds fs := List.take_of_length_le (by omega)
              rw [this] at d2
              exact q _ H' (e1.trans e) a2 d2
/-- [e for i, x in enumerate(a list)] -/
theorem ev_lcE {j k : Nat} {x y : Str} {scope : Scope} {kt : Nat} (hc : X.calm = true) (hN : X.N.Nodup) (hm : X.mg "enumerate" = none) (hjk : j ≠ k) (f : Nat → PyData → PyData) (hit : ED X z [a] es s [.list ds] s) (hl : ds.length ≤ 100000) (hB : BlkOk X.N X.env.scope scope [(x, j), (y, k)])
    (hg : PgIn X scope (.Tuple [.Name x p, .Name y p1] kt p2) (gTup X.K 2 (gCons (gName j) (gCons (gName k) gNil))))
    (He : ∀ (i : Nat) d, ds[i]? = some d → ∀ z' : Z, Blk X scope fun Y => EV Y z' elt ((es.set j (.val (.int (i : Int)))).set k (.val d)) s (f i d) s) (hgl : Gl X "enumerate" := by rfl) (hst : starEach [a] X.env = [(false, eval a X.env)] := by rfl)
    (hs : ∀ x, foldedSetIterable (.Call (.Name "enumerate" p3) [a] [] p4) X.env x = pure x := by intro _; rfl) :
    EV X z (.ListComp elt [{ target := .Tuple [.Name x p, .Name y p1] kt p2, iter := .Call (.Name "enumerate" p3) [a] [] p4, ifs := [], is_async := 0 }] scope pos) es s (.list (ds.mapIdx f)) s :=
  .mk (pe_lc (own := [(x, j), (y, k)]) hc hN (pi_enum hgl hm wA_ok hst) hB hg (fun _ _ _ _ _ => pts_nil) tEl_ok hs) fun σ H en at_ Q q => by
    refine hit σ H en at_ _ fun vs H1 e1 a1 v1 => ?_
    cases v1 with
    | cons h1 r =>
      cases r
      cases h1 with
      | @lst a1' xs _ fa ha r1 =>
        have hx : xs.length = ds.length := r1.length
        have g1 : ∀ i, i < xs.length → ds[i]? = some (ds.getD i .none) := fun i hi => by
          rw [List.getD_eq_getElem?_getD, List.getElem?_eq_getElem (by omega)]
          rfl
        refine ⟨a1', xs, rfl, .inl (.inl ha), fun D hD => ?_⟩
        refine lc_two (K := X.K) (walk_enum (K := X.K) (a := a1') (xs := xs)) (fun _ => s) (fun _ => s) (en.mono e1) a1 hD hjk (fun i => .int (i : Int)) (fun i => ds.getD i .none) (fun H' e => .inl (.inl (e _ _ fa ha))) (fun i x H' H2 hi eH hY => ?_) (by omega) (fun _ => true) (fun i => (ds.mapIdx f).take i) rfl
          (fun z' i hi σ H en at_ Q q => q H (.refl H) at_) (fun z' i hi _ => ⟨f i (ds.getD i .none), by
            rw [List.take_add_one, List.getElem?_mapIdx, g1 i hi]
            rfl, fun σ H en at_ Q q s0 H0 C cl fp => He i _ (g1 i hi) z' s0 H0 C cl fp σ H en at_ Q q⟩) (fun i _ h => by cases h) (fun H' e a2 d2 => ?_)
        · obtain ⟨T, u, v, rfl, nT, rfl, hu, hv⟩ := hY
          cases hu
          obtain ⟨d, hd, hdv⟩ := r1.getV i v hv
          rw [g1 i hi] at hd
          exact ⟨T, _, v, rfl, .inl (.inl upd_same), .inr ⟨nT, rfl⟩, .int _, by rw [Option.some.inj hd]; exact hdv⟩
        · have : (ds.mapIdx f).take xs.length = ds.mapIdx f := List.take_of_length_le (by rw [List.length_mapIdx]; omega)
          rw [this] at d2
          exact q _ H' (e1.trans e) a2 d2
end
end DL


set_option Elab.async false
set_option linter.all false
set_option maxRecDepth 100000
namespace DL
open PySem PySem.Spec PyProof.Rows L2
variable [TabT]
/-! ### 11. slices, repeats, tuples of lists; loops over lists -/
section
variable {X : Cx} {z : Z} {es es1 es2 : List Sl} {s s1 s2 s3 : S} {iter elt cond a b e : Expr} {ds fs : List PyData} {d d1 d2 : PyData} {o : Out} {rest body els : List Stmt} {pos p p1 p2 p3 p4 : Pos}
theorem DaAll.take {H : Hp} : ∀ {vs : List V} {ds : List PyData}, DaAll z H vs ds → ∀ n : Nat, DaAll z H (vs.take n) (ds.take n)
  | _, _, .nil, n => by simp only [List.take_nil]; exact .nil
  | _, _, .cons h r, 0 => .nil
  | _, _, .cons h r, n + 1 => .cons h (DaAll.take r n)
theorem DaAll.drop {H : Hp} : ∀ {vs : List V} {ds : List PyData}, DaAll z H vs ds → ∀ n : Nat, DaAll z H (vs.drop n) (ds.drop n)
  | _, _, .nil, n => by simp only [List.drop_nil]; exact .nil
  | _, _, .cons h r, 0 => .cons h r
  | _, _, .cons h r, n + 1 => DaAll.drop r n
theorem DaAll.rev {H : Hp} : ∀ {vs : List V} {ds : List PyData}, DaAll z H vs ds → DaAll z H vs.reverse ds.reverse
  | _, _, .nil => .nil
  | _, _, .cons h r => by
    rw [List.reverse_cons, List.reverse_cons]
    exact (DaAll.rev r).app (.cons h .nil)
theorem DaAll.rep {H : Hp} {vs : List V} {ds : List PyData} (h : DaAll z H vs ds) : ∀ n : Nat, DaAll z H (List.replicate n vs).flatten (List.replicate n ds).flatten
  | 0 => .nil
  | n + 1 => by
    rw [List.replicate_succ, List.replicate_succ, List.flatten_cons, List.flatten_cons]
    exact h.app (DaAll.rep h n)
/-- what a slice picks -/
def cutD (ds : List PyData) (lo hi : Option Int) : List PyData := (ds.drop (HT.sIx ds.length 0 lo)).take (HT.sIx ds.length ds.length hi - HT.sIx ds.length 0 lo)
theorem DaAll.cut {H : Hp} {vs : List V} {ds : List PyData} (h : DaAll z H vs ds) (lo hi : Option Int) : DaAll z H (cutV vs lo hi) (cutD ds lo hi) := by
  unfold cutV cutD
  rw [h.length]
  exact (h.drop _).take _
/-- xs[:n], xs[n:] of a list -/
theorem ev_slTo {i : Int} (ha : EV X z a es s (.list ds) s1) (hb : EV X z b es s1 (.int i) s2) : EV X z (.Subscript a (.Slice none (some b) none p) pos) es s (.list (cutD ds none (some i))) s2 :=
  .mk (pe_slice sl_list wE_ok po_none (po_some wE_ok)) fun σ H en at_ Q q => ha σ H en at_ _ fun v H1 e1 a1 v1 => hb σ H1 (en.mono e1) a1 _ fun u H2 e2 a2 v2 => by
    cases v2
    cases v1 with
    | lst n e r => exact ⟨i, rfl, _, _, rfl, .inl (.inl (e2 _ _ n e)), fun p hp => q _ _ ((e1.trans e2).trans (.new hp)) (a2.new hp) (.lst (a2.fresh hp) upd_same (((r.cut none (some i)).mono e2).mono (.new hp)))⟩
theorem ev_slFrom {i : Int} (ha : EV X z a es s (.list ds) s1) (hb : EV X z b es s1 (.int i) s2) : EV X z (.Subscript a (.Slice (some b) none none p) pos) es s (.list (cutD ds (some i) none)) s2 :=
  .mk (pe_slice sl_list wE_ok (po_some wE_ok) po_none) fun σ H en at_ Q q => ha σ H en at_ _ fun v H1 e1 a1 v1 => hb σ H1 (en.mono e1) a1 _ fun u H2 e2 a2 v2 => by
    cases v2
    cases v1 with
    | lst n e r => exact ⟨i, rfl, _, _, rfl, .inl (.inl (e2 _ _ n e)), fun p hp => q _ _ ((e1.trans e2).trans (.new hp)) (a2.new hp) (.lst (a2.fresh hp) upd_same (((r.cut (some i) none).mono e2).mono (.new hp)))⟩
theorem ev_rev {k : Nat} (ha : EV X z a es s (.list ds) s1) : EV X z (.Subscript a (.Slice none none (some (.UnaryOp .USub (.Constant (.int 1) k p1) p2)) p3) pos) es s (.list ds.reverse) s1 :=
  .mk (pe_revL wE_ok) fun σ H en at_ Q q => ha σ H en at_ _ fun v H1 e1 a1 v1 => by
    cases v1 with
    | lst n e r => exact ⟨_, _, rfl, .inl (.inl e), fun p hp => q _ _ (e1.trans (.new hp)) (a1.new hp) (.lst (a1.fresh hp) upd_same (r.rev.mono (.new hp)))⟩
/-- [..] * n -/
theorem ev_rep {n : Int} (hn : n < 100000) (hn0 : -100000 < n) (hl : ds.length * n.toNat ≤ 100000) (ha : EV X z a es s (.list ds) s1) (hb : EV X z b es s1 (.int n) s2) : EV X z (.BinOp a .Mult b pos) es s (.list (List.replicate n.toNat ds).flatten) s2 :=
  ev_opR (f := binaryOp .Mult) op_rep (fun u v H at_ hu hv Q q => by
    cases hv
    cases hu with
    | lst n1 e1 r1 =>
      exact ⟨_, n, _, rfl, rfl, e1, by omega, by omega, by rw [r1.length]; exact Nat.le_trans hl (by decide), fun p hp => q _ _ (.new hp) (at_.new hp) (.lst (at_.fresh hp) upd_same ((r1.rep n.toNat).mono (.new hp)))⟩) ha hb
/-- tuple(a list), list(a tuple), list(a list) -/
theorem rb_tuple {K : PySem.W.Frag} : RB z s (fun xs H Q => ∃ p ys, xs = [.ref p] ∧ ((SqL K H p ys ∧ ∀ l, H l = none → Q (.ref l) (upd H l (.tup ys))) ∨ (SqT K H p ys ∧ Q (.ref p) H))) [.list ds] (.tuple ds) := fun vs H at_ h Q q => by
  cases h with
  | cons h r =>
    cases r
    cases h with
    | lst n e r => exact ⟨_, _, rfl, .inl ⟨.inl (.inl e), fun l hl => q _ _ (.new hl) (at_.new hl) (.tup (at_.fresh hl) upd_same (r.mono (.new hl)))⟩⟩
theorem rb_listT {K : PySem.W.Frag} : RB z s (fun xs H Q => ∃ p ys, xs = [.ref p] ∧ (SqL K H p ys ∨ SqT K H p ys) ∧ ∀ l, H l = none → Q (.ref l) (upd H l (.lst ys))) [.tuple ds] (.list ds) := fun vs H at_ h Q q => by
  cases h with
  | cons h r =>
    cases r
    cases h with
    | tup n e r => exact ⟨_, _, rfl, .inr (.inl (.inl e)), fun l hl => q _ _ (.new hl) (at_.new hl) (.lst (at_.fresh hl) upd_same (r.mono (.new hl)))⟩
theorem rb_listL {K : PySem.W.Frag} : RB z s (fun xs H Q => ∃ p ys, xs = [.ref p] ∧ (SqL K H p ys ∨ SqT K H p ys) ∧ ∀ l, H l = none → Q (.ref l) (upd H l (.lst ys))) [.list ds] (.list ds) := fun vs H at_ h Q q => by
  cases h with
  | cons h r =>
    cases r
    cases h with
    | lst n e r => exact ⟨_, _, rfl, .inl (.inl (.inl e)), fun l hl => q _ _ (.new hl) (at_.new hl) (.lst (at_.fresh hl) upd_same (r.mono (.new hl)))⟩
/-- for x in a list -/
theorem sr_forL (l : Nat) {x : Str} (hp : PassesOwn (model X.prog X.w) X.A X.env X.xe) (hc : X.calm = true) (hN : X.N.Nodup) (h : EV X z iter es s (.list ds) s1) (E : Nat → List Sl) (T : Nat → S) (h0 : Le es (E 0)) (t0 : T 0 = s1)
    (hb : ∀ (i : Nat) d, ds[i]? = some d → SR X z body ((E i).set l (.val d)) (T i) (.nx (E (i + 1)) (T (i + 1)))) (k : SR X z rest (E ds.length) (T ds.length) o)
    (hi : X.N[l]? = some x := by rfl) (hx : Loc X.env.scope x := by first | exact Or.inl rfl | exact Or.inr rfl) (hf : X.fn x = true ∨ X.env.scope.names.lookup x = some .local := by first | exact .inl rfl | exact .inr rfl) (hfo : ∀ x, foldedSetIterable iter X.env x = pure x := by intro _; rfl) :
    SR X z (.For (.Name x p) iter body [] pos :: rest) es s o := fun σ H en at_ D q =>
  ⟨_, pss_cons (ps_for hp hc (pi_list wE_ok) (pg_name hN hi hx hf) wB_ok hfo) wB_ok, h σ H en at_ _ fun v H1 e1 a1 v1 => by
    cases v1 with
    | @lst a xs _ fa ha r =>
      have hx : xs.length = ds.length := r.length
      refine ⟨a, rfl, ⟨xs, .inl (.inl ha)⟩, for_list (xs := xs) (fun i σ' H' => Ez z H1 H' ∧ At z H' (T i) ∧ En z H' σ' (E i)) ⟨.refl _, t0 ▸ a1, (en.mono e1).le h0⟩ (fun i σ' H' _ w => .inl (.inl (w.1 a _ fa ha))) (fun i x σ' H' hi w => ?_) fun σ' H' w => ?_⟩
      · obtain ⟨d, hd, hv⟩ := r.getV i x hi
        exact hb i d hd _ H' (w.2.2.set l (.val (hv.mono w.1))) w.2.1 _ fun σ2 H2 e2 a2 n2 => ⟨w.1.trans e2, a2, n2⟩
      · rw [hx] at w
        exact k σ' H' w.2.2 w.2.1 D (q.mono (e1.trans w.1))⟩
/-- for x, y in a list of pairs -/
theorem sr_forP (l m : Nat) {x y : Str} {kt : Nat} (hp : PassesOwn (model X.prog X.w) X.A X.env X.xe) (hc : X.calm = true) (hN : X.N.Nodup) (ps : List (PyData × PyData)) (h : EV X z iter es s (.list (ps.map fun q => .tuple [q.1, q.2])) s1) (E : Nat → List Sl) (T : Nat → S) (h0 : Le es (E 0)) (t0 : T 0 = s1)
    (hb : ∀ (i : Nat) q, ps[i]? = some q → SR X z body (((E i).set l (.val q.1)).set m (.val q.2)) (T i) (.nx (E (i + 1)) (T (i + 1)))) (k : SR X z rest (E ps.length) (T ps.length) o)
    (hg : PG X (.Tuple [.Name x p1, .Name y p2] kt p3) (gTup X.K 2 (gCons (gName l) (gCons (gName m) gNil)))) (hfo : ∀ x, foldedSetIterable iter X.env x = pure x := by intro _; rfl) :
    SR X z (.For (.Tuple [.Name x p1, .Name y p2] kt p3) iter body [] pos :: rest) es s o := fun σ H en at_ D q =>
  ⟨_, pss_cons (ps_for hp hc (pi_list wE_ok) hg wB_ok hfo) wB_ok, h σ H en at_ _ fun v H1 e1 a1 v1 => by
    cases v1 with
    | @lst a xs _ fa ha r =>
      have hx : xs.length = ps.length := by rw [r.length, List.length_map]
      refine ⟨a, rfl, ⟨xs, .inl (.inl ha)⟩, for_list (xs := xs) (fun i σ' H' => Ez z H1 H' ∧ At z H' (T i) ∧ En z H' σ' (E i)) ⟨.refl _, t0 ▸ a1, (en.mono e1).le h0⟩ (fun i σ' H' _ w => .inl (.inl (w.1 a _ fa ha))) (fun i x σ' H' hi w => ?_) fun σ' H' w => ?_⟩
      · obtain ⟨d, hd, hv⟩ := r.getV i x hi
        rw [List.getElem?_map] at hd
        cases hq : ps[i]? with
        | none =>
          rw [hq] at hd
          cases hd
        | some pq =>
          rw [hq] at hd
          cases Option.some.inj hd
          cases hv with
          | @tup t us _ ft ht rt =>
            cases rt with
            | cons h1 rt =>
              cases rt with
              | cons h2 rt =>
                cases rt
                refine ⟨t, _, rfl, .inl (.inl (w.1 t _ ft ht)), rfl, _, _, rfl, _, _, rfl, rfl, ?_⟩
                exact hb i pq hq _ H' ((w.2.2.set l (.val (h1.mono w.1))).set m (.val (h2.mono w.1))) w.2.1 _ fun σ2 H2 e2 a2 n2 => ⟨w.1.trans e2, a2, n2⟩
      · rw [hx] at w
        exact k σ' H' w.2.2 w.2.1 D (q.mono (e1.trans w.1))⟩
/-! ### lists of one's own: read -/
theorem ev_lenO (i : Nat) {x y : Str} (hm : X.mg y = none) (h : es[i]? = some (.own ds) := by rfl) (hN : X.N[i]? = some x := by rfl) (hvi : Vis X.env.scope x := by first | exact Or.inl rfl | exact Or.inr (Or.inl rfl) | exact Or.inr (Or.inr rfl)) (hd : (x == ("__debug__" : Str)) = false := by decide) (hcd : (x == ("__classdict__" : Str)) = false := by decide)
    (hv : bootBuiltins y = some (.builtin "len") := by decide +kernel) (hg : Gl X y := by rfl) (hn : y ≠ "__name__" := by decide) (hdb : (y == ("__debug__" : Str)) = false := by decide) (hs : starEach [.Name x p] X.env = (false, eval (.Name x p) X.env) :: starEach [] X.env := by rfl) (hpl : (backTo pos (starEach [] X.env)).any (·.1) = false := by rfl) :
    EV X z (.Call (.Name y p1) [.Name x p] [] pos) es s (.int ds.length) s :=
  .mk (pe_callB call_len hg hm hv (pa_cons (pe_var hN hvi hd hcd) pa_nil hs) hn hdb hs hpl) fun σ H en at_ Q q => by
    obtain ⟨y, hy, r⟩ := en.slot h
    cases r with
    | @own a vs _ m k => exact ⟨_, hy, _, ds.length, rfl, .inl ⟨vs, .inl (.inl (at_.v _ m)), k.length.symm⟩, q _ H (.refl H) at_ (.int _)⟩
theorem ev_ixO (i : Nat) {x : Str} {j : Int} (hb : EV X z b es s (.int j) s1) (ha : atI ds j = some d) (h : es[i]? = some (.own ds) := by rfl) (hN : X.N[i]? = some x := by rfl) (hvi : Vis X.env.scope x := by first | exact Or.inl rfl | exact Or.inr (Or.inl rfl) | exact Or.inr (Or.inr rfl)) (hd : (x == ("__debug__" : Str)) = false := by decide) (hcd : (x == ("__classdict__" : Str)) = false := by decide)
    (hs : PlainIx b := by intro _ _; rfl) : EV X z (.Subscript (.Name x p) b pos) es s d s1 :=
  .mk (pe_ix ix_list (pe_var hN hvi hd hcd) wE_ok hs) fun σ H en at_ Q q => by
    obtain ⟨y, hy, r⟩ := en.slot h
    cases r with
    | @own a vs _ m k =>
      refine ⟨_, hy, hb σ H en at_ _ fun u H2 e2 a2 v2 => ?_⟩
      cases v2
      obtain ⟨v, k1, k2⟩ := atI_rel (k.mono e2) ha
      exact ⟨a, vs, j, v, rfl, rfl, .inl (.inl (a2.v _ m)), k1, q _ H2 e2 a2 k2⟩
/-- own != e, own == e -/
theorem et_neO (i : Nat) {x : Str} (hu : X.A.units + 64 < cLine) (p1' : Pl (.list ds)) (p2' : Pl d) (hb : EV X z b es s d s1) (h : es[i]? = some (.own ds) := by rfl) (hN : X.N[i]? = some x := by rfl) (hvi : Vis X.env.scope x := by first | exact Or.inl rfl | exact Or.inr (Or.inl rfl) | exact Or.inr (Or.inr rfl)) (hd : (x == ("__debug__" : Str)) = false := by decide) (hcd : (x == ("__classdict__" : Str)) = false := by decide) :
    ET X z (.Compare (.Name x p) [.NotEq] [b] pos) es s (!PyData.eqv (.list ds) d) s1 := fun σ H en at_ Q q => ⟨_, pt_cmpR (op_neD hu) (pe_var hN hvi hd hcd) wE_ok (nomark _), by
    obtain ⟨y, hy, r⟩ := en.slot h
    cases r with
    | @own a vs _ m k =>
      refine ⟨_, hy, hb σ H en at_ _ fun u H2 e2 a2 v2 => ?_⟩
      exact ⟨_, d, .lst (.inl (.inl (a2.v _ m))) ((k.mono e2).dp p1'.1), v2.dp p2'.1, p1'.2, p2'.2, _, rfl, q H2 e2 a2⟩⟩
/-- tuple(own) -/
theorem ev_tupO (i : Nat) {x y : Str} (hm : X.mg y = none) (h : es[i]? = some (.own ds) := by rfl) (hN : X.N[i]? = some x := by rfl) (hvi : Vis X.env.scope x := by first | exact Or.inl rfl | exact Or.inr (Or.inl rfl) | exact Or.inr (Or.inr rfl)) (hd : (x == ("__debug__" : Str)) = false := by decide) (hcd : (x == ("__classdict__" : Str)) = false := by decide)
    (hv : bootBuiltins y = some (.type "tuple") := by decide +kernel) (hg : Gl X y := by rfl) (hn : y ≠ "__name__" := by decide) (hdb : (y == ("__debug__" : Str)) = false := by decide) (hs : starEach [.Name x p] X.env = (false, eval (.Name x p) X.env) :: starEach [] X.env := by rfl) (hpl : (backTo pos (starEach [] X.env)).any (·.1) = false := by rfl) :
    EV X z (.Call (.Name y p1) [.Name x p] [] pos) es s (.tuple ds) s :=
  .mk (pe_callTy call_tuple_of hg hm hv (pa_cons (pe_var hN hvi hd hcd) pa_nil hs) hn hdb hs hpl) fun σ H en at_ Q q => by
    obtain ⟨y, hy, r⟩ := en.slot h
    cases r with
    | @own a vs _ m k => exact ⟨_, hy, a, vs, rfl, .inl ⟨.inl (.inl (at_.v _ m)), fun l hl => q _ _ (.new hl) (at_.new hl) (.tup (at_.fresh hl) upd_same (k.mono (.new hl)))⟩⟩
end
/-! ### lists of one's own: written -/
section
variable {X : Cx} {es es1 es2 : List Sl} {s s1 s2 s3 : S} {cond a b e : Expr} {ds fs : List PyData} {d d1 d2 : PyData} {o : Out} {rest body els : List Stmt} {pos p p1 p2 p3 p4 apos cpos : Pos}
/-- xs[j] = e -/
theorem so_set (i : Nat) {x : Str} {j : Nat} (h : ∀ z, EV X z e es s d s1) (hb : ∀ z, EV X z b es s1 (.int (j : Int)) s2) (hj : j < ds.length) (hg : PG X (.Subscript (.Name x p) b p3) (gSub (tVar i) (wE X b) rSetL)) (kk : SO X rest (es.set i (.own (ds.set j d))) s2 o) (ho : es[i]? = some (.own ds) := by rfl)
    (hs : swapsWithSole [.Subscript (.Name x p) b p3] e pos.line X.env = pure false := by rfl) (hw : swappedStores [.Subscript (.Name x p) b p3] e X.env = pure none := by rfl) :
    SO X (.Assign [.Subscript (.Name x p) b p3] e pos :: rest) es s o := fun z Hc H vol σ I D q =>
  ⟨_, pss_cons (ps_asg wE_ok hg hs hw) wB_ok, h _ σ H I.en I.at_ _ fun v H1 e1 a1 v1 => by
    obtain ⟨y, hy, r⟩ := I.en.slot ho
    cases r with
    | @own a vs _ m k =>
      refine ⟨_, hy, hb _ σ H1 (I.en.mono e1) a1 _ fun u H2 e2 a2 v2 => ?_⟩
      cases v2
      have kl : vs.length = ds.length := k.length
      have r2 : DaAll (z.own vol) H2 (vs.set j v) (ds.set j d) := by
        have k2 := k.mono (e1.trans e2)
        have w2 := v1.mono e2
        clear I kk
        revert j
        intro j hb hj
        have gen : ∀ (vs : List V) (ds : List PyData) (j : Nat), DaAll (z.own vol) H2 vs ds → DaAll (z.own vol) H2 (vs.set j v) (ds.set j d) := by
          intro vs
          induction vs with
          | nil => intro ds j h; cases h; exact .nil
          | cons x vs ih =>
            intro ds j h
            cases h with
            | cons h1 h2 =>
              cases j with
              | zero => exact .cons w2 h2
              | succ j => exact .cons h1 (ih _ j h2)
        exact gen vs ds j k2
      obtain ⟨vol', I'⟩ := I.write ho hy m (e1.trans e2) a2 r2
      exact ⟨a, vs, (j : Int), j, rfl, rfl, a2.v _ m, (by unfold ixN; rw [if_pos (by omega), if_pos (by omega)]; simp), kk z Hc _ vol' σ I' D q⟩⟩
/-- xs.append(e) -/
theorem so_app (i : Nat) {x : Str} (h : ∀ z, EV X z e es s d s1) (hl : ds.length < 100000) (kk : SO X rest (es.set i (.own (ds ++ [d]))) s1 o) (ho : es[i]? = some (.own ds) := by rfl) (hN : X.N[i]? = some x := by rfl) (hv : Vis X.env.scope x := by first | exact Or.inl rfl | exact Or.inr (Or.inl rfl) | exact Or.inr (Or.inr rfl))
    (hd : (x == ("__debug__" : Str)) = false := by decide) (hcd : (x == ("__classdict__" : Str)) = false := by decide) (hbase : attributeBase (.Name x p) "append" X.env (eval (.Name x p) X.env) = eval (.Name x p) X.env := by rfl)
    (hfew : ((backTo cpos (starEach (e :: []) X.env)).all (fun x => !x.1) && (backToKw cpos (keywordEach [] X.env)).all (fun x => x.1.isSome) && decide ((e :: []).length + ([] : List Keyword).length + (if ([] : List Keyword).isEmpty then 0 else 1) < 30)) = true := by rfl)
    (hline : (apos.endLine == cpos.line) = true := by rfl) (hse : starEach (e :: []) X.env = (false, eval e X.env) :: starEach [] X.env := by rfl) (hpl : (backTo cpos (starEach [] X.env)).any (·.1) = false := by rfl) (hs : swapsWith (.Call (.Attribute (.Name x p) "append" apos) [e] [] cpos) none pos.line X.env = pure false := by rfl) :
    SO X (.Expr (.Call (.Attribute (.Name x p) "append" apos) [e] [] cpos) pos :: rest) es s o := fun z Hc H vol σ I D q =>
  ⟨_, pss_cons (ps_expr (pe_bm PySem.F.plainAttrs_list PySem.F.slot_list_append PySem.F.type_list_append mt_append (pe_var hN hv hd hcd) (pa_cons wE_ok pa_nil hse) hbase hfew hline hse hpl) hs) wB_ok, by
    obtain ⟨y, hy, r⟩ := I.en.slot ho
    cases r with
    | @own a vs _ m k =>
      refine ⟨_, hy, .inl ⟨rfl, vs, .inl (.inl (I.at_.v _ m))⟩, h _ σ H I.en I.at_ _ fun v H1 e1 a1 v1 => ?_⟩
      obtain ⟨vol', I'⟩ := I.write ho hy m e1 a1 ((k.mono e1).app (.cons v1 .nil))
      exact ⟨a, vs, v, rfl, rfl, a1.v _ m, by rw [k.length]; exact Nat.lt_of_lt_of_le hl (by decide), kk z Hc _ vol' σ I' D q⟩⟩
/-- xs.pop() -/
theorem so_pop (i : Nat) {x : Str} (hl : ds ≠ []) (kk : SO X rest (es.set i (.own ds.dropLast)) s o) (ho : es[i]? = some (.own ds) := by rfl) (hN : X.N[i]? = some x := by rfl) (hv : Vis X.env.scope x := by first | exact Or.inl rfl | exact Or.inr (Or.inl rfl) | exact Or.inr (Or.inr rfl))
    (hd : (x == ("__debug__" : Str)) = false := by decide) (hcd : (x == ("__classdict__" : Str)) = false := by decide) (hbase : attributeBase (.Name x p) "pop" X.env (eval (.Name x p) X.env) = eval (.Name x p) X.env := by rfl) (hline : (apos.endLine == cpos.line) = true := by rfl) (hs : swapsWith (.Call (.Attribute (.Name x p) "pop" apos) [] [] cpos) none pos.line X.env = pure false := by rfl) :
    SO X (.Expr (.Call (.Attribute (.Name x p) "pop" apos) [] [] cpos) pos :: rest) es s o := fun z Hc H vol σ I D q =>
  ⟨_, pss_cons (ps_expr (pe_bm0 PySem.F.plainAttrs_list PySem.F.slot_list_pop PySem.F.type_list_pop mt_pop (pe_var hN hv hd hcd) hbase hline) hs) wB_ok, by
    obtain ⟨y, hy, r⟩ := I.en.slot ho
    cases r with
    | @own a vs _ m k =>
      have kl : vs.length = ds.length := k.length
      have hp : 0 < vs.length := by
        rw [kl]
        exact List.length_pos_iff.mpr hl
      have r2 : DaAll (z.own vol) H vs.dropLast ds.dropLast := by
        rw [List.dropLast_eq_take, List.dropLast_eq_take, kl]
        exact k.take _
      obtain ⟨vol', I'⟩ := I.write ho hy m (.refl H) I.at_ r2
      exact ⟨_, hy, .inl ⟨rfl, vs, .inl (.inl (I.at_.v _ m))⟩, a, vs, vs[vs.length - 1], rfl, rfl, I.at_.v _ m, List.getElem?_eq_getElem (by omega), kk z Hc _ vol' σ I' D q⟩⟩
/-- while, by a word of what the slots hold -/
theorem so_whileW (hp : PassesOwn (model X.prog X.w) X.A X.env X.xe) (W : Nat → List Sl → S → Prop) {m0 : Nat} (h0 : W m0 es s)
    (hs : ∀ m es s, W m es s → ((∀ z, ET X z cond es s false s) ∧ SO X rest es s o) ∨ ((∀ z, ET X z cond es s true s) ∧ ∃ es' s' m', m' < m ∧ W m' es' s' ∧ SO X body es s (.nx es' s'))) : SO X (.While cond body [] pos :: rest) es s o := fun z Hc H vol σ I D q =>
  ⟨_, pss_cons (ps_while hp wT_ok wB_ok) wB_ok, fun m σ' H' => ∃ es' s' vol', W m es' s' ∧ OI z Hc H' vol' σ' es' s', ⟨m0, es, s, vol, h0, I⟩, fun m σ' H' w => by
    obtain ⟨es', s', vol', w1, I1⟩ := w
    rcases hs m es' s' w1 with ⟨h1, h2⟩ | ⟨h1, es2, s2, m', hl, w2, h2⟩
    · exact h1 _ σ' H' I1.en I1.at_ _ fun H1 e2 a2 => iteF (h2 z Hc H1 vol' σ' (I1.step e2 a2) D q)
    · refine h1 _ σ' H' I1.en I1.at_ _ fun H1 e2 a2 => iteT ⟨fun σ2 H2 => ∃ vol2, OI z Hc H2 vol2 σ2 es2 s2, fun σ2 H2 ⟨vol2, I2⟩ => ⟨m', hl, es2, s2, vol2, w2, I2⟩, ?_⟩
      exact h2 z Hc H1 vol' σ' (I1.step e2 a2) _ fun vol2 σ2 H2 I2 => ⟨vol2, I2⟩⟩
end
section
variable {P : Program} {w : World} {K : PySem.W.Frag} {mg : Str → Option Value} {base : Heap}
/-- a def that may hold lists of its own -/
theorem okO {x qual : Str} {st : Stmt} {f : Addr} {fd : FuncData} {N ps : List Str} {k : Nat} {R : Rel} (F : Fun K x qual st f fd) (Sc : FnScope N ps (defScope st)) (hl : ∀ as s d s', R as s d s' → as.length = ps.length) (hno : ∀ as s d s', R as s d s' → ∀ ds, Sl.own ds ∉ as)
    (hb : ∀ cdv A outer s0 H0 E, Ctx (cxOf CX0 P w K mg base N qual (defScope st) f cdv A outer s0 H0 E).nox k N → ∀ as s d s', R as s d s' → SO (cxOf CX0 P w K mg base N qual (defScope st) f cdv A outer s0 H0 E).nox (defBody st) (as ++ List.replicate (N.length - as.length) .un) s (.rt d s')) :
    FnOk P w K mg base CX0 (k + 1) f fd ps (spD R) := by
  refine F.ok Sc (fun vs H Q E h => ?_) (fun cdv A outer s0 H0 vs Q E hr h => ?_)
  · obtain ⟨z, as, s, d, s', hR, en, _⟩ := h
    have := en.length
    rw [List.length_map] at this
    rw [this]
    exact hl _ _ _ _ hR
  · obtain ⟨z, as, s, d, s', hR, en, at_, q⟩ := h
    have e1 : vs.length = as.length := by
      have := en.length
      rwa [List.length_map] at this
    have C : Ctx (cxOf CX0 P w K mg base N qual (defScope st) f cdv A outer s0 H0 E).nox k N := ⟨Sc.nd, rfl, PassesOwn.never, hr, hr.units⟩
    have none_own : ∀ (i : Nat) (ds : List PyData), (as ++ List.replicate (N.length - as.length) Sl.un)[i]? ≠ some (.own ds) := fun i ds h => by
      have m := List.mem_of_getElem? h
      rcases List.mem_append.mp m with m | m
      · exact hno _ _ _ _ hR ds m
      · have := List.eq_of_mem_replicate m
        cases this
    have zo : z.own [] = z := rfl
    have g := hb cdv A outer s0 H0 E C as s d s' hR z H0 H0 [] (L2.start N vs) ⟨fun q h => (by cases h), List.nodup_nil, fun p hp => (by rw [at_.v p hp]; exact fun h => by cases h), at_, by
      unfold L2.start
      rw [e1]
      exact en.app (.uns _), .refl H0, fun i ds p h => absurd h (none_own i ds), fun i j ds ds' p _ h => absurd h (none_own i ds)⟩ { nx := fun _ H' => Q .non H', rt := Q } (fun v H' e a n => q v H' e a n)
    exact ⟨_, wB_ok, g⟩
end
end DL


set_option Elab.async false
set_option linter.all false
set_option maxRecDepth 100000
namespace DL
open PySem PySem.Spec PyProof.Rows L2
variable [TabT]
/-! ### 12. math.lcm; enumerate over a tuple -/
def rLcm : List V → Hp → VK → Prop := fun vs H Q => ∃ a b : Int, vs = [.int a, .int b] ∧ a.natAbs < 2 ^ 3000 ∧ b.natAbs < 2 ^ 3000 ∧ Q (.int ((Nat.lcm a.natAbs b.natAbs : Nat) : Int)) H
section
variable {X : Cx}
theorem cr_lcm : CallR X (.builtin "math.lcm") rLcm := by
  intro pins s σ H vs us Q I r h
  obtain ⟨a, b, rfl, ha, hb, q⟩ := h
  obtain ⟨t, u, rfl⟩ := Vals.int2 r
  have h1 : (max 1 a.natAbs).log2 ≤ 2999 := PySem.W.mg_log (by rcases Nat.le_total 1 a.natAbs with h | h <;> simp only [Nat.max_eq_right h, Nat.max_eq_left h] <;> first | exact ha | exact Nat.lt_of_lt_of_le (by decide) (Nat.pow_le_pow_right (by decide : 0 < 2) (by decide : 1 ≤ 3000)))
  have h2 : (max a.natAbs b.natAbs).log2 ≤ 2999 := PySem.W.mg_log (by rcases Nat.le_total a.natAbs b.natAbs with h | h <;> simp only [Nat.max_eq_right h, Nat.max_eq_left h] <;> assumption)
  have e : (Nat.lcm 1 a.natAbs) = a.natAbs := PySem.W.mc_lcm_one _
  have hs : ((((Nat.lcm 1 a.natAbs).lcm b.natAbs : Nat) : Int)).natAbs.log2 < bitsLine := by
    have hl : (((Nat.lcm 1 a.natAbs).lcm b.natAbs : Nat) : Int).natAbs < 2 ^ (5999 + 1) := by
      rw [e, Int.natAbs_natCast]
      have h3 : a.natAbs.lcm b.natAbs ≤ a.natAbs * b.natAbs := PySem.W.mc_lcm_le _ _
      have h4 : a.natAbs * b.natAbs < 2 ^ 3000 * 2 ^ 3000 := Nat.lt_of_le_of_lt (Nat.mul_le_mul_right _ (Nat.le_of_lt ha)) (Nat.mul_lt_mul_of_pos_left hb (Nat.pow_pos (by decide)))
      rw [← Nat.pow_add] at h4
      exact Nat.lt_of_le_of_lt h3 h4
    exact Nat.lt_of_le_of_lt (PySem.W.mg_log hl) (by decide)
  have g := (PySem.W.mg_run_lcm a t b u (by omega) (by omega) hs).meets
  rw [e] at g
  exact call_function_meets PySem.W.MGF.kind_lcm PySem.W.MGF.plain_lcm PySem.W.MGF.entry_lcm (PySem.W.MGF.args_lcm _ _) g ⟨.int _, H, I.tok _, ⟨_, rfl⟩, q⟩
theorem rb_lcm {z : Z} {s : S} {i j : Int} (hi : i.natAbs < 2 ^ 3000) (hj : j.natAbs < 2 ^ 3000) : RB z s rLcm [.int i, .int j] (.int (Nat.lcm i.natAbs j.natAbs : Nat)) := fun vs H at_ h Q q => by
  cases h with
  | cons h r =>
    cases h
    cases r with
    | cons h r =>
      cases h
      cases r
      exact ⟨i, j, rfl, hi, hj, q _ H (.refl H) at_ (.int _)⟩
end
/-- the two objects that enumerate(t) makes -/
abbrev itO (t : Addr) : Obj := { cls := .type "tuple_iterator", data := .fields #[.ref t, .int 0 0] }
abbrev enO (i : Addr) : Obj := { cls := .type "enumerate", data := .fields #[.none, .bool false, .ref i, rawInt 0, .none, .none] }
section
variable {prog : Program} {w : World} {A : Around} {E : Value → Shared → Prop} {s : Shared}
theorem enum_newT (t : Addr) (o : Obj) (items : Array Value) (n : Nat) (ho : o.cls = .type "tuple") (hd : o.data = .seq items n) :
    PySem.Meets (Builtin.«enumerate.__new__» ⟨[.type "enumerate", .ref t], []⟩) fun _ R s => s.heap.get? t = some o ∧ R (.ok (.ret (.ref (s.heap.push (itO t)).objs.size))) { s with heap := (s.heap.push (itO t)).push (enO s.heap.objs.size) } :=
  .of_wp fun prog w A R s h => by
    obtain ⟨hp, g, dr, tk, os⟩ := s
    obtain ⟨cls, dct, data, sl⟩ := o
    replace ho : cls = .type "tuple" := ho
    replace hd : data = .seq items n := hd
    subst ho hd
    have isT : Heap.IsTuple (Shared.heap ⟨hp, g, dr, tk, os⟩) t items := ⟨_, h.1, rfl, n, rfl⟩
    have hsub := sub_enumerate
    wp_walk using AutoSeq1.wpAny_loadPart' h.1
    refine wpAny_stack_any fun st => wpAny_pure ?_
    split
    case' h_1 c _ _ _ _ _ => cases (c == Value.type "enumerate")
    all_goals
      wp_walk using AutoSeq1.wpAny_loadPart' h.1, wpAny_pyIter_tuple isT
      exact ⟨_, rfl, h.2⟩
theorem call_enumT {t : Addr} {items : Array Value} {Q : Value → Shared → Prop} (hT : s.heap.IsTuple t items)
    (k : ∀ h', h' = (s.heap.push (itO t)).push (enO s.heap.objs.size) → Q (.ref (s.heap.objs.size + 1)) { s with heap := h' }) : wpAny (model prog w) A (call (.type "enumerate") [.ref t]) Q E s := by
  obtain ⟨o, ho, hc, n, hd⟩ := hT
  have sz : (s.heap.push (itO t)).objs.size = s.heap.objs.size + 1 := Heap.size_push ..
  refine callType_new F.called_enumerate (by decide) (F.typeCall_enumerate_1 _) (F.newCall_enumerate_1 _) (fun obj => F.args_object_init_2 obj _) F.entry_enumerate_new (enum_newT t o items n hc hd) ⟨ho, ?_⟩
  refine ⟨⟨_, Heap.get?_push_size (s.heap.push (itO t)) rfl, rfl⟩, ?_⟩
  have := k _ rfl
  rw [← sz] at this
  exact this
theorem enum_endT {e it t : Addr} {i : Nat} {items : Array Value} {old : Value} {Q : Option Value → Shared → Prop} (hh : A.handled = none)
    (he : IsEnum s.heap e it ((i : Nat) : Int) old) (hit : s.heap.IsTupleIter it t i) (ht : s.heap.IsTuple t items) (hx : items[i]? = none)
    (hQ : ∀ h', Heap.ExtBut it s.heap h' → Q none { s with heap := h' }) (hne : t ≠ it) (hl : i = items.size) : wpAny (model prog w) A (pyNext (.ref e)) Q E s := by
  subst hl
  exact wpAny_pyNext_enum_endD (Draws.tuple (A := A.in1) hh it t hne items) he ⟨hit, ht⟩ hQ
end
def IteT (K : PySem.W.Frag) (a : Addr) : It where
  go i H := ∃ (xs : List V) (x : V), SqT K H a xs ∧ xs[i]? = some x
  yld i H v H' := ∃ T x, v = .ref T ∧ H T = none ∧ H' = upd H T (.tup [.int (i : Nat), x]) ∧ ∀ xs, SqT K H a xs → xs[i]? = some x
  stop i H := ∃ xs : List V, SqT K H a xs ∧ xs.length = i
/-- where the enumerate object e, over the iterator at it, over the tuple at a, stands after i turns -/
structure EnT (a e it : Addr) (i : Nat) (h : Heap) : Prop where
  en : ∃ old, IsEnum h e it ((i : Nat) : Int) old
  tu : h.IsTupleIter it a i
  ne : e ≠ it
theorem EnT.far {a e it : Addr} {i : Nat} {h : Heap} {items : Array Value} (S : EnT a e it i h) (T : h.IsTuple a items) : a ≠ e ∧ a ≠ it := by
  obtain ⟨o, ho, hc, _⟩ := T
  obtain ⟨⟨old, he⟩, ⟨o2, h2, c2, _⟩, _⟩ := S
  constructor
  · rintro rfl
    rw [show h.get? a = _ from he] at ho
    cases ho
    injection hc with hc
    exact absurd hc (by decide)
  · rintro rfl
    rw [h2] at ho
    cases ho
    rw [c2] at hc
    injection hc with hc
    exact absurd hc (by decide)
theorem turn_enumT {P : Program} {w : World} {K : PySem.W.Frag} {elts : List Expr} {kk : Nat} {tpos : Pos} (a e it : Addr) : Turn P w K (.Tuple elts kk tpos) (IteT K a) [e, it] e (EnT a e it) := by
  have two : ∀ {b : Addr} {p : Addr → Prop}, p e → p it → b ∈ [e, it] → p b := fun h1 h2 hb => by
    rcases List.mem_cons.mp hb with rfl | hb
    · exact h1
    · rw [List.mem_singleton.mp hb]
      exact h2
  refine ⟨List.mem_cons_self .., fun i h S b => ?_, fun i h h' S k => ⟨S.en.imp fun _ q => k e (List.mem_cons_self ..) _ q, S.tu.at fun o q => k it (List.mem_cons_of_mem _ (List.mem_singleton.mpr rfl)) o q, S.ne⟩, ?_, ?_, fun A i s Q E S q => ?_⟩
  · refine two (p := fun b => ∃ o, h.get? b = some o ∧ ∀ v : Option Value, o.data ≠ Data.cell v) ?_ ?_
    · obtain ⟨old, q⟩ := S.en
      exact ⟨_, q, fun v x => nomatch x⟩
    · obtain ⟨o, q, _, d⟩ := S.tu
      exact ⟨o, q, fun v x => by rw [d] at x; cases x⟩
  · rintro X rfl rfl rfl calm i pins s σ H E I free S ⟨xs, x, hxs, hx⟩
    obtain ⟨its, rv, p, _⟩ := I.tuple hxs
    obtain ⟨u, hu, ru⟩ := rv.get hx
    obtain ⟨old, he⟩ := S.en
    obtain ⟨n1, n2⟩ := S.far p
    have gu : its.toArray[i]? = some u := by simpa using hu
    have lt : i < its.toArray.size := (Array.getElem?_eq_some_iff.mp gu).1
    have old_lt : ∀ b ∈ [e, it], b < s.heap.objs.size := fun b => two (p := fun b => b < s.heap.objs.size) (Heap.lt_size he) (by
      obtain ⟨o, q, _⟩ := S.tu
      exact Heap.lt_size q)
    refine wpAny_pyNext_enum_itemD (Draws.tuple (A := X.A.in1) (I.ok.hd calm) it a n2 its.toArray) he ⟨S.tu, p⟩ lt S.ne (fun m => ?_) fun v h1 tk hv out st made _ kept => ?_
    · rcases List.mem_cons.mp m with q | m
      · exact S.ne q
      · exact n1 (List.mem_singleton.mp m).symm
    rw [gu] at hv
    obtain rfl : u = v := Option.some.inj hv
    refine ⟨_, rfl, wpAny_letOwnedTupleGo_enum (s := { s with heap := h1, toks := tk + 1 }) out fun h2 en2 but => ?_⟩
    have made2 : h2.get? s.heap.objs.size = some { cls := .type "tuple", data := .seq #[.int i tk, u] } := by
      rw [but.2 _ (Nat.ne_of_gt (old_lt e (List.mem_cons_self ..)))]
      exact made
    refine ⟨.ref s.heap.objs.size, upd H s.heap.objs.size (.tup [.int (i : Nat), x]), ?_, rfl, ⟨_, x, rfl, I.hok.fresh (Nat.le_refl _), rfl, fun ys hy => by rw [I.tuple_inj hy hxs]; exact hx⟩, ⟨⟨u, ?_⟩, st.1.at fun o q => (but.2 it S.ne.symm).trans q, S.ne⟩, fun b hb => ?_⟩
    · refine I.turnedNew (ch := [e, it]) (fun b ob hb q => ?_) free (Nat.le_refl _) ⟨by show 2 ≤ sizeLine; decide, [.int i tk, u], .cons ⟨_, rfl⟩ (.cons ru .nil), ⟨_, made2, rfl, _, rfl⟩⟩
      have b1 : b ≠ e := fun z => hb (by simp [z])
      have b2 : b ≠ it := fun z => hb (by simp [z])
      rw [but.2 b b1]
      exact kept b ob b1 b2 q
    · rw [show ((i + 1 : Nat) : Int) = (i : Int) + 1 by omega]
      exact en2
    · rw [upd_ne (Nat.ne_of_lt (old_lt b hb))]
      exact (free b hb).1
  · rintro X rfl rfl rfl calm i pins s σ H E I free S ⟨xs, hxs, hl⟩
    obtain ⟨its, rv, p, _⟩ := I.tuple hxs
    obtain ⟨old, he⟩ := S.en
    have hl2 := rv.length
    obtain ⟨f0, f1, f2, f3, f4, f5⟩ := free it (List.mem_cons_of_mem _ (List.mem_singleton.mpr rfl))
    refine enum_endT (I.ok.hd calm) he S.tu p (by simp; omega) (fun h' eb => ⟨rfl, I.turned (t' := s.toks) (fun b o hb q => eb b o hb q) f0 f1 f3 f4 f5⟩) (S.far p).2 (by simp; omega)
  · obtain ⟨old, he⟩ := S.en
    exact wpAny_pyIter_enum he q
def iEnumT (K : PySem.W.Frag) (ta : TA) : TI := fun σ H R => ta σ H fun vs H1 => ∃ a xs, vs = [.ref a] ∧ SqT K H1 a xs ∧ R (IteT K a) H1
theorem pi_enumT {X : Cx} {e : Expr} {ta : TA} {p pos tpos : Pos} {elts : List Expr} {kk : Nat} (hg : Gl X "enumerate") (hm : X.mg "enumerate" = none) (ha : PA X [e] ta) (hs : starEach [e] X.env = [(false, eval e X.env)] := by rfl) : PI X (.Tuple elts kk tpos) (.Call (.Name "enumerate" p) [e] [] pos) (iEnumT X.K ta) :=
  ⟨fun pins s σ H R I h => by
    refine Call_ (ld_blt I hg hm boot_enumerate (PyProof.Rows.callWith_type1 (thn (ha.run pos pins s σ H _ I h) fun us s1 ⟨vs, H1, I1, rel, a, xs, hvs, hxs, q⟩ => ?_) hs rfl))
    subst hvs
    cases rel with
    | cons r0 r1 =>
      cases r1
      cases r0
      obtain ⟨its, _, p', _⟩ := I1.tuple hxs
      have z1 : (s1.heap.push (itO a)).objs.size = s1.heap.objs.size + 1 := Heap.size_push ..
      refine call_enumT p' fun h' eq => ?_
      subst eq
      have he : IsEnum ((s1.heap.push (itO a)).push (enO s1.heap.objs.size)) (s1.heap.objs.size + 1) s1.heap.objs.size 0 .none := by
        rw [← z1]
        exact Heap.get?_push_size (s1.heap.push (itO a)) rfl
      refine wpAny_pyIter_enum he ⟨s1.heap.objs.size + 1, [s1.heap.objs.size + 1, s1.heap.objs.size], _, _, H1, rfl, I1.kept (t' := s1.toks) fun b o x => Heap.get?_push_of_some _ (Heap.get?_push_of_some _ x), turn_enumT a _ _, ⟨⟨.none, he⟩, ⟨_, Heap.get?_push_of_some _ (Heap.get?_push_size _ rfl), rfl, rfl⟩, Nat.succ_ne_self _⟩, fun b hb => ?_, q⟩
      have ge : s1.heap.objs.size ≤ b := by
        rcases List.mem_cons.mp hb with rfl | hb
        · exact Nat.le_succ _
        · rw [List.mem_singleton.mp hb]
          exact Nat.le_refl _
      exact I1.fpOk ge (I1.hok.fresh ge)⟩
theorem walk_enumT {K : PySem.W.Frag} {a : Addr} {xs : List V} : Walk (IteT K a) xs.length (fun H => SqT K H a xs) (YPair (fun i => some (.int (i : Nat))) (fun i => xs[i]?)) where
  goes i _ hi q := ⟨xs, xs[i], q, by simp [hi]⟩
  stops _ q := ⟨xs, q, rfl⟩
  yields i H v H' _ q y := by
    obtain ⟨T, x, h1, h2, h3, h4⟩ := y
    exact ⟨T, .int (i : Nat), x, h1, h2, h3, rfl, h4 xs q⟩
end DL


set_option Elab.async false
set_option linter.all false
set_option maxRecDepth 100000
namespace DL
open PySem PySem.Spec PyProof.Rows L2
variable [TabT]
section
variable {X : Cx} {z : Z} {es es1 es2 fs : List Sl} {s s1 s2 s3 : S} {iter elt cond a b e : Expr} {ds fs' : List PyData} {d d1 d2 : PyData} {o : Out} {rest body els : List Stmt} {pos p p1 p2 p3 p4 : Pos} {xs : List Expr}
/-! ### in a tuple; cuts, sums, repeats of tuples; sums of lists; backwards -/
def rInT (K : PySem.W.Frag) : R2 := fun x y H Q => ∃ d ds, Dp K H x d ∧ Dp K H y (.tuple ds) ∧ SeqAt.shaped d = true ∧ SeqAt.shaped (.tuple ds) = true ∧ Q (.bl (ds.any fun z => PyData.eqv z d)) H
theorem op_inT (hu : X.A.units + 65 < cLine) : OpR X (compareOp .In) (rInT X.K) := by
  intro pins s σ H x y v u Q I rx ry h
  obtain ⟨d, ds, hd, he, sd, se, q⟩ := h
  obtain ⟨as, r1⟩ := Dp.reads I d x v hd rx
  obtain ⟨bs, r2⟩ := Dp.reads I (.tuple ds) y u he ry
  exact SeqAt.in_tuple_reads r2 r1 (SeqAt.canLay_of_shaped se) (SeqAt.canLay_of_shaped sd) (room_in_shaped sd hu) ⟨.bl _, H, I, rfl, q⟩
theorem rd_inT {K : PySem.W.Frag} (h1 : Pl d) (h2 : Pl (.tuple ds)) : RD z s (rInT K) d (.tuple ds) (.bool (ds.any fun z => PyData.eqv z d)) := fun x y H at_ hx hy Q q =>
  ⟨d, ds, hx.dp h1.1, hy.dp h2.1, h1.2, h2.2, q _ H (.refl H) at_ (.bl _)⟩
theorem et_inT (hu : X.A.units + 65 < cLine) (h1 : Pl d) (h2 : Pl (.tuple ds)) (ha : EV X z a es s d s1) (hb : EV X z b es s1 (.tuple ds) s2) (hm : behindInMarks .In b = false := by rfl) : ET X z (.Compare a [.In] [b] pos) es s (ds.any fun z => PyData.eqv z d) s2 :=
  et_cmpR (op_inT hu) (rd_inT h1 h2) ha hb hm
/-- own[j] in (..) -/
theorem cutD_length {lo hi : Option Int} : (cutD ds lo hi).length ≤ ds.length := by
  unfold cutD
  rw [List.length_take, List.length_drop]
  omega
theorem whole_cut {lo hi : Option Int} (h : HT.sIx ds.length 0 lo = 0 ∧ HT.sIx ds.length ds.length hi = ds.length) : cutD ds lo hi = ds := by
  unfold cutD
  rw [h.1, h.2, List.drop_zero, Nat.sub_zero, List.take_length]
theorem rs_tup {K : PySem.W.Frag} {H : Hp} {v : V} {lo hi : Option Int} (hv : Da z H v (.tuple ds)) (at_ : At z H s) {Q : VK} (q : ∀ v H2, Ez z H H2 → At z H2 s → Da z H2 v (.tuple (cutD ds lo hi)) → Q v H2) : rSlA K v lo hi H Q := by
  cases hv with
  | @tup a xs _ fa ha r =>
    refine ⟨a, xs, rfl, .inl (.inl ha), fun w => ?_, fun w p hp => ?_⟩
    · rw [r.length] at w
      exact q _ H (.refl H) at_ (by rw [whole_cut w]; exact .tup fa ha r)
    · exact q _ _ (.new hp) (at_.new hp) (.tup (at_.fresh hp) upd_same ((r.cut lo hi).mono (.new hp)))
/-- t[:n], t[n:] -/
theorem ev_slToT {i : Int} (ha : EV X z a es s (.tuple ds) s1) (hb : EV X z b es s1 (.int i) s2) : EV X z (.Subscript a (.Slice none (some b) none p) pos) es s (.tuple (cutD ds none (some i))) s2 :=
  .mk (pe_slice sl_tupA wE_ok po_none (po_some wE_ok)) fun σ H en at_ Q q => ha σ H en at_ _ fun v H1 e1 a1 v1 => hb σ H1 (en.mono e1) a1 _ fun u H2 e2 a2 v2 => by
    cases v2
    exact ⟨i, rfl, rs_tup (v1.mono e2) a2 fun v H3 e3 a3 v3 => q v H3 ((e1.trans e2).trans e3) a3 v3⟩
theorem ev_slFromT {i : Int} (ha : EV X z a es s (.tuple ds) s1) (hb : EV X z b es s1 (.int i) s2) : EV X z (.Subscript a (.Slice (some b) none none p) pos) es s (.tuple (cutD ds (some i) none)) s2 :=
  .mk (pe_slice sl_tupA wE_ok (po_some wE_ok) po_none) fun σ H en at_ Q q => ha σ H en at_ _ fun v H1 e1 a1 v1 => hb σ H1 (en.mono e1) a1 _ fun u H2 e2 a2 v2 => by
    cases v2
    exact ⟨i, rfl, rs_tup (v1.mono e2) a2 fun v H3 e3 a3 v3 => q v H3 ((e1.trans e2).trans e3) a3 v3⟩
/-- t + u -/
theorem ev_catA (hl : ds.length + fs'.length ≤ 100000) (ha : EV X z a es s (.tuple ds) s1) (hb : EV X z b es s1 (.tuple fs') s2) : EV X z (.BinOp a .Add b pos) es s (.tuple (ds ++ fs')) s2 :=
  ev_opR (f := binaryOp .Add) op_catA (fun u v H at_ hu hv Q q => by
    cases hu with
    | tup n1 e1 r1 =>
      cases hv with
      | tup n2 e2 r2 =>
        have l1 := r1.length
        have l2 := r2.length
        refine ⟨_, _, _, _, rfl, rfl, .inl (.inl e1), .inl (.inl e2), ?_, fun w => ?_, fun _ w => ?_, fun _ _ p hp => ?_⟩
        · rw [l1, l2]
          exact Nat.le_trans hl (by decide)
        · subst w
          cases r1
          exact q _ H (.refl H) at_ (.tup n2 e2 r2)
        · subst w
          cases r2
          exact q _ H (.refl H) at_ (by rw [List.append_nil]; exact .tup n1 e1 r1)
        · exact q _ _ (.new hp) (at_.new hp) (.tup (at_.fresh hp) upd_same ((r1.app r2).mono (.new hp)))) ha hb
/-- (..) * n -/
theorem ev_repT {n : Int} (h0 : ds ≠ []) (h2 : 2 ≤ n) (hn : n ≤ 1000) (hl : ds.length ≤ 1000) (ha : EV X z a es s (.tuple ds) s1) (hb : EV X z b es s1 (.int n) s2) : EV X z (.BinOp a .Mult b pos) es s (.tuple (List.replicate n.toNat ds).flatten) s2 :=
  ev_opR (f := binaryOp .Mult) op_repT (fun u v H at_ hu hv Q q => by
    cases hv
    cases hu with
    | tup n1 e1 r1 =>
      exact ⟨_, n, _, rfl, rfl, .inl (.inl e1), fun w => h0 (by subst w; cases r1; rfl), h2, hn, by rw [r1.length]; exact hl, fun p hp => q _ _ (.new hp) (at_.new hp) (.tup (at_.fresh hp) upd_same ((r1.rep n.toNat).mono (.new hp)))⟩) ha hb
/-- l + m, lists -/
theorem ev_catL (hl : ds.length + fs'.length ≤ 100000) (ha : EV X z a es s (.list ds) s1) (hb : EV X z b es s1 (.list fs') s2) : EV X z (.BinOp a .Add b pos) es s (.list (ds ++ fs')) s2 :=
  ev_opR (f := binaryOp .Add) op_cat (fun u v H at_ hu hv Q q => by
    cases hu with
    | lst n1 e1 r1 =>
      cases hv with
      | lst n2 e2 r2 =>
        exact ⟨_, _, _, _, rfl, rfl, e1, e2, by rw [r1.length, r2.length]; exact Nat.le_trans hl (by decide), fun p hp => q _ _ (.new hp) (at_.new hp) (.lst (at_.fresh hp) upd_same ((r1.app r2).mono (.new hp)))⟩) ha hb
end
/-- t[::-1] -/
theorem fm_congr {α β : Type} {f g : α → Option β} : ∀ {l : List α}, (∀ x ∈ l, f x = g x) → l.filterMap f = l.filterMap g
  | [], _ => rfl
  | x :: l, h => by
    rw [List.filterMap_cons, List.filterMap_cons, h x (List.mem_cons_self ..), fm_congr fun y hy => h y (List.mem_cons_of_mem _ hy)]
theorem places_rev (n : Nat) : Builtin.Slice.slicePlaces ((n : Int) - 1) (-1) (-1) = n := by
  unfold Builtin.Slice.slicePlaces
  simp only [show ¬ ((-1 : Int) > 0) by decide, if_false, Int.neg_neg, Int.ediv_one]
  split <;> omega
theorem adjust_rev (n : Nat) : Builtin.Slice.sliceAdjust none none (-1) (n : Int) = ((n : Int) - 1, -1) := by
  unfold Builtin.Slice.sliceAdjust
  first
    | rfl
    | simp
theorem pick_rev (xs : Array Value) : ((List.range xs.size).filterMap fun (m : Nat) => xs[((xs.size : Int) - 1 + (m : Int) * (-1)).toNat]?).toArray = xs.toList.reverse.toArray := by
  have h := PySem.W.krv_pick xs
  unfold slicePick at h
  rw [PySem.W.krv_bounds] at h
  have h : ((sliceRange ((xs.size : Int) - 1) (-1) (-1)).filterMap (xs[·]?)).toArray = xs.toList.reverse.toArray := h
  rw [PySem.W.krv_sliceRange, List.filterMap_map] at h
  rw [← h]
  congr 1
  refine fm_congr fun m hm => ?_
  have hm := List.mem_range.mp hm
  show xs[((xs.size : Int) - 1 + (m : Int) * (-1)).toNat]? = xs[xs.size - 1 - m]?
  rw [show ((xs.size : Int) - 1 + (m : Int) * (-1)).toNat = xs.size - 1 - m by omega]
section
variable {prog : Program} {w : World} {A : Around} {E : Value → Shared → Prop} {s : Shared}
/-- a tuple cut by any slice that is applied as (lo, step, n), step not 1: the picked items, in a new tuple -/
theorem tup_slice {t sl : Addr} {items : Array Value} {lo step : Int} {n : Nat} {Q : Value → Shared → Prop} (ht : IsTup s.heap t items) (isl : s.TypeIs (.ref sl) "slice") (st : (step == 1) = false) (few : n ≤ sizeLine)
    (app : ∀ {B : Around} {Q : Int × Int × Nat → Shared → Prop} {E : Value → Shared → Prop}, Q (lo, step, n) s → wpAny (model prog w) B (Builtin.Slice.sliceApplied (.ref sl) (pure (items.size : Int))) Q E s)
    (h : Q (.ref s.heap.objs.size) { s with heap := s.heap.push { cls := .type "tuple", data := .seq ((List.range n).filterMap fun m : Nat => items[(lo + (m : Int) * step).toNat]?).toArray } }) : wpAny (model prog w) A (getItem (.ref t) (.ref sl)) Q E s := by
  have fit : sizeOk (.seq ((List.range n).filterMap fun m : Nat => items[(lo + (m : Int) * step).toNat]?).toArray) := by
    have l1 := List.length_filterMap_le (fun m : Nat => items[(lo + (m : Int) * step).toNat]?) (List.range n)
    rw [List.length_range] at l1
    exact Nat.le_trans (by rw [List.size_toArray]; exact l1) few
  unfold getItem
  try with_reducible refine wpAny_holding ?_
  first | refine wpAny_bind (wpAny_pure ?_) | skip
  refine wpAny_bind (wpAny_sequenceKey ht.typeIs (by decide) (wpAny_bind (wpAny_callSpecial?_slot (name := Str.ofString "__getitem__") ht.typeIs PyProof.Rows.slot_tuple_getitem (wpAny_call_entry PyProof.Rows.slot_tuple_getitem ht.typeIs entry_tuple_getitem ?_ (args_tuple_getitem _ _)))))
  refine (wpAny_bind (m := Builtin.Tuple.tupleItemsOf (.ref t)) (tupleItemsOf_ ht (wpAny_bind (wpAny_typeOf isl ?_))))
  rw [if_pos (by decide)]
  refine wpAny_bind (app ?_)
  show wpAny _ _ (if (lo == 0 && step == 1 && n == items.size) = true then _ else _) _ _ s
  rw [st, Bool.and_false, Bool.false_and, if_neg Bool.false_ne_true]
  first
    | exact wpAny_bind (m := Builtin.Tuple.tupleExact _) (wpAny_newObj_type (wpAny_pure ⟨_, rfl, wpAny_pure h⟩) fit)
    | exact wpAny_bind (m := Builtin.Tuple.tupleExact _) (wpAny_newObj_type (wpAny_bind (wpAny_pure (wpAny_pure ⟨_, rfl, wpAny_pure h⟩))) fit)
    | exact wpAny_bind (wpAny_bind (m := Builtin.Tuple.tupleExact _) (wpAny_newObj_type (wpAny_pure (wpAny_pure ⟨_, rfl, wpAny_pure h⟩)) fit))
/-- [::-1] as it is applied -/
theorem app_rev {sl : Addr} {vl vu vs : Value} {n : Nat} {Q : Int × Int × Nat → Shared → Prop} (hs : s.heap.IsSliceOf sl vl vu vs) (pl : IsPart vl none) (pu : IsPart vu none) (ps : IsPart vs (some (-1))) (h : Q ((n : Int) - 1, -1, n) s) : wpAny (model prog w) A (Builtin.Slice.sliceApplied (.ref sl) (pure (n : Int))) Q E s := by
  obtain ⟨o, ho, _, hd⟩ := hs
  unfold Builtin.Slice.sliceApplied Builtin.Slice.sliceFields
  refine wpAny_bind (wpAny_bind (wpAny_field ho hd (x := vl) rfl (wpAny_bind (wpAny_field ho hd (x := vu) rfl (wpAny_bind (wpAny_field ho hd (x := vs) rfl (wpAny_pure (wpAny_bind (HT.slicePart_ ps ?_)))))))))
  show wpAny _ _ (if ((-1 : Int) == 0) = true then _ else _) _ _ s
  rw [if_neg (by decide)]
  refine wpAny_bind (HT.slicePart_ pl (wpAny_bind (HT.slicePart_ pu (wpAny_bind (wpAny_pure ?_)))))
  show wpAny _ _ (match Builtin.Slice.sliceAdjust none none (-1) (n : Int) with | (lo, hi) => pure (lo, (-1 : Int), Builtin.Slice.slicePlaces lo hi (-1))) _ _ s
  rw [adjust_rev]
  show wpAny _ _ (pure ((n : Int) - 1, (-1 : Int), Builtin.Slice.slicePlaces ((n : Int) - 1) (-1) (-1))) _ _ s
  rw [places_rev]
  exact wpAny_pure h
end
section
variable {X : Cx}
def tRevT (K : PySem.W.Frag) (te : TE) : TE := fun σ H Q => te σ H fun x H1 => ∃ a xs, x = .ref a ∧ SqT K H1 a xs ∧ ∀ p, H1 p = none → Q (.ref p) (upd H1 p (.tup xs.reverse))
/-- a part of a slice that leaves the heap alone -/
theorem part_keep {pins : List (Addr × Obj)} {s : Shared} {σ : L2.St} {H : Hp} {o : Option Expr} {t : TO} {c : Option Int} {Q : Value → Shared → Prop} (p : PO X o t) (I : Inv X pins σ H s) (h : t σ H fun d H' => d = c ∧ H' = H) (k : ∀ v s', Inv X pins σ H s' → IsPart v c → Q v s') : wpAny (model X.prog X.w) X.A (evalPart o X.env) Q X.xe s :=
  thn (p.run pins s σ H _ I h) fun v s' ⟨d, H', I', ip, e1, e2⟩ => by
    subst e1 e2
    exact k v s' I' ip
theorem pe_revT {e : Expr} {te : TE} {k : Nat} {p1 p2 p3 pos : Pos} (he : PE X e te) : PE X (.Subscript e (.Slice none none (some (.UnaryOp .USub (.Constant (.int 1) k p1) p2)) p3) pos) (tRevT X.K te) := by
  constructor
  intro pins s σ H Q I h
  refine Subscript_ (thn (he.run pins s σ H _ I h) fun v s1 got => ?_)
  obtain ⟨x, H1, I1, rel, a, xs, rfl, hxs, q⟩ := got
  cases rel
  refine wpAny_Slice (part_keep po_none I1 ⟨rfl, rfl⟩ fun vl s2 I2 pl => part_keep po_none I2 ⟨rfl, rfl⟩ fun vu s3 I3 pu => part_keep (c := some (-1)) (po_some (pe_un un_neg pe_int)) I3 ⟨1, rfl, -1, rfl, rfl, rfl⟩ fun vs s4 I4 ps => ?_)
  have J : Inv X pins σ H1 { s4 with heap := s4.heap.push { cls := .type "slice", data := .fields #[vl, vu, vs] } } := I4.kept (t' := s4.toks) fun b o z => Heap.get?_push_of_some _ z
  obtain ⟨its, rv, isT, few⟩ := J.tuple hxs
  have ln := rv.length
  show wpAny (model X.prog X.w) X.A (subscriptTail e (.Slice none none (some (.UnaryOp .USub (.Constant (.int 1) k p1) p2)) p3) (.ref a) (.ref s4.heap.objs.size)) (EP X pins σ Q) X.xe _
  refine tail_any (ops := [.ref a, .ref s4.heap.objs.size]) isT.typeIs PyProof.Rows.slot_tuple_getitem.lookup ?_ (by with_unfolding_all rfl)
  refine tup_slice isT ⟨_, Heap.get?_push_size _ rfl, rfl⟩ (by decide) (n := its.toArray.size) (by rw [List.size_toArray]; omega) (fun {B Q E} z => app_rev (Heap.IsSliceOf.new _ vl vu vs) pl pu ps z) ?_
  rw [pick_rev]
  refine ⟨.ref _, _, J.laid (t' := s4.toks) (o := .tup xs.reverse) (fun b o z => Heap.get?_push_of_some _ z) (Nat.le_refl _) ⟨by rw [List.length_reverse]; exact few, _, rv.reverse, IsTup.new _ _⟩, rfl, q _ (J.hok.fresh (Nat.le_refl _))⟩
theorem ev_revT {z : Z} {es : List Sl} {s s1 : S} {a : Expr} {ds : List PyData} {k : Nat} {p1 p2 p3 pos : Pos} (ha : EV X z a es s (.tuple ds) s1) : EV X z (.Subscript a (.Slice none none (some (.UnaryOp .USub (.Constant (.int 1) k p1) p2)) p3) pos) es s (.tuple ds.reverse) s1 :=
  .mk (pe_revT wE_ok) fun σ H en at_ Q q => ha σ H en at_ _ fun v H1 e1 a1 v1 => by
    cases v1 with
    | tup n e r => exact ⟨_, _, rfl, .inl (.inl e), fun p hp => q _ _ (e1.trans (.new hp)) (a1.new hp) (.tup (a1.fresh hp) upd_same (r.rev.mono (.new hp)))⟩
end

/-! ### loops and new lists where own lists are written -/
def cutH (H : Hp) (vol : List (Addr × HO)) : Hp := fun b => if b ∈ vol.map (·.1) then none else H b
theorem cutH_in {H : Hp} {vol : List (Addr × HO)} {b : Addr} (h : b ∈ vol.map (·.1)) : cutH H vol b = none := if_pos h
theorem cutH_out {H : Hp} {vol : List (Addr × HO)} {b : Addr} (h : b ∉ vol.map (·.1)) : cutH H vol b = H b := if_neg h
theorem not_in {vol : List (Addr × HO)} {b : Addr} (h : ∀ o, (b, o) ∉ vol) : b ∉ vol.map (·.1) := fun m => by
  obtain ⟨q, hq, e⟩ := List.mem_map.mp m
  exact h q.2 (by rw [← e]; exact hq)
section
variable {z : Z} {Hc H H' : Hp} {vol : List (Addr × HO)} {σ : L2.St} {es : List Sl} {s s' : S}
/-- from the middle of a run on, as if it began here -/
theorem OI.reb (I : OI z Hc H vol σ es s) : OI z (cutH H vol) H vol σ es s ∧ ∀ H' vol' σ' es' s', OI z (cutH H vol) H' vol' σ' es' s' → OI z Hc H' vol' σ' es' s' := by
  have zin : ∀ q ∈ z.vol, q.1 ∉ vol.map (·.1) := fun q hq m => by
    obtain ⟨r, hr, e⟩ := List.mem_map.mp m
    exact I.base q hq (by rw [← e]; exact I.new r hr)
  have up : Ez z Hc (cutH H vol) := fun a o f h => by
    rw [cutH_out (not_in (I.old h))]
    exact I.ez a o f h
  have back : ∀ b, cutH H vol b = none → Hc b = none := fun b hb => by
    cases hc : Hc b with
    | none => rfl
    | some o =>
      by_cases hf : Fz z b
      · rw [up b o hf hc] at hb
        cases hb
      · exfalso
        have nin : b ∉ vol.map (·.1) := not_in (I.old hc)
        rw [cutH_out nin] at hb
        by_cases hd : z.dice = some b
        · rw [I.at_.d b hd] at hb
          cases hb
        · apply hf
          refine ⟨⟨hd, fun q hq => ?_⟩, fun u hu => ?_⟩
          · obtain ⟨ps, e, _⟩ := I.at_.t _ hq
            have e : H b = some (.tbl ps) := e
            rw [e] at hb
            cases hb
          rw [show H b = some u from I.at_.v (b, u) (List.mem_append_right _ hu)] at hb
          cases hb
  refine ⟨⟨fun q hq => cutH_in (List.mem_map.mpr ⟨q, hq, rfl⟩), I.nd, fun q hq e => ?_, I.at_, I.en, fun a o f h => ?_, fun i ds p h1 h2 => ?_, I.two⟩, fun H' vol' σ' es' s' J => ⟨fun q hq => back _ (J.new q hq), J.nd, I.base, J.at_, J.en, up.trans J.ez, fun i ds p h1 h2 => back _ (J.far i ds p h1 h2), J.two⟩⟩
  · rw [cutH_out (zin q hq)] at e
    rw [show H q.1 = some q.2 from I.at_.v q (List.mem_append_right _ hq)] at e
    cases e
  · by_cases m : a ∈ vol.map (·.1)
    · rw [cutH_in m] at h
      cases h
    · rwa [cutH_out m] at h
  · obtain ⟨y, hy, r⟩ := I.en.slot h1
    rw [h2] at hy
    cases hy
    cases r with
    | own m _ =>
      rcases List.mem_append.mp m with m | m
      · exact cutH_in (List.mem_map.mpr ⟨_, m, rfl⟩)
      · exact absurd (I.far i ds p h1 h2) (I.base _ m)
theorem OI.le {fs : List Sl} (I : OI z Hc H vol σ es s) (l : Le es fs) : OI z Hc H vol σ fs s := by
  have own : ∀ {es fs : List Sl}, Le es fs → ∀ {i : Nat} {ds : List PyData}, fs[i]? = some (.own ds) → es[i]? = some (.own ds) := by
    intro es fs l
    induction l with
    | nil => intro i ds h; simp at h
    | same l ih =>
      intro i ds h
      cases i with
      | zero => exact h
      | succ i => exact ih h
    | un l ih =>
      intro i ds h
      cases i with
      | zero => cases (Option.some.inj h)
      | succ i => exact ih h
  exact ⟨I.new, I.nd, I.base, I.at_, I.en.le l, I.ez, fun i ds p h1 h2 => I.far i ds p (own l h1) h2, fun i j ds ds' p n h1 h2 h3 => I.two i j ds ds' p n (own l h1) (own l h2) h3⟩
/-- data that stood when the loop began -/
theorem OI.still {vol' : List (Addr × HO)} {σ' : L2.St} {es' : List Sl} (J : OI z (cutH H vol) H' vol' σ' es' s') {v : V} {d : PyData} (h : Da (z.own vol) H v d) : Da (z.own vol') H' v d := h.re fun a o f hb => by
  have ha : cutH H vol a = some o := by
    rw [cutH_out (not_in f.of_own.2)]
    exact hb
  exact ⟨f.of_own.1.to_own (J.old ha), J.ez a o f.of_own.1 ha⟩
theorem OI.stillH {vol' : List (Addr × HO)} {σ' : L2.St} {es' : List Sl} (J : OI z (cutH H vol) H' vol' σ' es' s') {a : Addr} {o : HO} (f : Fz (z.own vol) a) (hb : H a = some o) : H' a = some o := by
  have ha : cutH H vol a = some o := by
    rw [cutH_out (not_in f.of_own.2)]
    exact hb
  exact J.ez a o f.of_own.1 ha
end
section
variable {X : Cx} {es es1 es2 : List Sl} {s s1 s2 : S} {iter cond a b e : Expr} {ds : List PyData} {d : PyData} {o : Out} {rest body els : List Stmt} {pos p p1 p2 p3 p4 p5 : Pos}
theorem so_pre {fs : List Sl} (l : Le es fs) (h : SO X body fs s o) : SO X body es s o := fun z Hc H vol σ I D q => h z Hc H vol σ (I.le l) D q
theorem so_le (h : SO X body es s (.nx es1 s1)) (l : Le es1 es2) : SO X body es s (.nx es2 s1) := fun z Hc H vol σ I D q => h z Hc H vol σ I D fun vol' σ' H' J => q vol' σ' H' (J.le l)
/-- for i, x in enumerate(..) -/
theorem so_forE (l m : Nat) {x y : Str} {kt : Nat} (hp : PassesOwn (model X.prog X.w) X.A X.env X.xe) (hc : X.calm = true) (hm : X.mg "enumerate" = none) (h : ∀ z, ED X z [a] es s [.list ds] s1) (E : Nat → List Sl) (T : Nat → S) (h0 : Le es (E 0)) (t0 : T 0 = s1)
    (hb : ∀ (i : Nat) d, ds[i]? = some d → SO X body (((E i).set l (.val (.int (i : Int)))).set m (.val d)) (T i) (.nx (E (i + 1)) (T (i + 1)))) (k : SO X rest (E ds.length) (T ds.length) o)
    (hg : PG X (.Tuple [.Name x p1, .Name y p2] kt p3) (gTup X.K 2 (gCons (gName l) (gCons (gName m) gNil)))) (hgl : Gl X "enumerate" := by rfl) (hst : starEach [a] X.env = [(false, eval a X.env)] := by rfl) (hfo : ∀ x, foldedSetIterable (.Call (.Name "enumerate" p4) [a] [] p5) X.env x = pure x := by intro _; rfl) :
    SO X (.For (.Tuple [.Name x p1, .Name y p2] kt p3) (.Call (.Name "enumerate" p4) [a] [] p5) body [] pos :: rest) es s o := fun z Hc H vol σ I D q =>
  ⟨_, pss_cons (ps_for hp hc (pi_enum hgl hm wA_ok hst) hg wB_ok hfo) wB_ok, h _ σ H I.en I.at_ _ fun vs H1 e1 a1 v1 => by
    cases v1 with
    | cons h1 r =>
      cases r
      cases h1 with
      | @lst a0 xs _ fa ha r1 =>
        have hx : xs.length = ds.length := r1.length
        obtain ⟨I2, back⟩ := (I.step e1 a1).reb
        subst t0
        refine ⟨a0, xs, rfl, .inl (.inl ha), for_it (walk_enum (K := X.K) (a := a0) (xs := xs)) (fun i σ' H' => ∃ vol', OI z (cutH H1 vol) H' vol' σ' (E i) (T i)) ⟨vol, I2.le h0⟩ (fun i σ' H' _ w => ?_) (fun i v σ' H' H2 hi w hY => ?_) fun σ' H' w => ?_⟩
        · obtain ⟨vol', w⟩ := w
          exact .inl (.inl (w.stillH fa ha))
        · obtain ⟨vol', w⟩ := w
          obtain ⟨t, u, v', rfl, nt, rfl, hu, hv⟩ := hY
          cases hu
          obtain ⟨d, hd, hv'⟩ := r1.getV i v' hv
          have w1 := w.step (Ez.new (o := .tup [.int (i : Int), v']) nt) (w.at_.new nt)
          have w2 := (w1.set (.refl _) w1.at_ l (.int (i : Int))).set (.refl _) w1.at_ m ((w.still hv').mono (.new nt))
          exact ⟨t, _, rfl, .inl (.inl upd_same), rfl, _, _, rfl, _, _, rfl, rfl, hb i d hd z _ _ vol' _ w2 _ fun vol3 σ3 H3 I3 => ⟨vol3, I3⟩⟩
        · obtain ⟨vol', w⟩ := w
          rw [hx] at w
          exact k z Hc H' vol' σ' (back _ _ _ _ _ w) D q⟩
/-- for i, x in enumerate(..) -/
theorem so_forET (l m : Nat) {x y : Str} {kt : Nat} (hp : PassesOwn (model X.prog X.w) X.A X.env X.xe) (hc : X.calm = true) (hm : X.mg "enumerate" = none) (h : ∀ z, ED X z [a] es s [.tuple ds] s1) (E : Nat → List Sl) (T : Nat → S) (h0 : Le es (E 0)) (t0 : T 0 = s1)
    (hb : ∀ (i : Nat) d, ds[i]? = some d → SO X body (((E i).set l (.val (.int (i : Int)))).set m (.val d)) (T i) (.nx (E (i + 1)) (T (i + 1)))) (k : SO X rest (E ds.length) (T ds.length) o)
    (hg : PG X (.Tuple [.Name x p1, .Name y p2] kt p3) (gTup X.K 2 (gCons (gName l) (gCons (gName m) gNil)))) (hgl : Gl X "enumerate" := by rfl) (hst : starEach [a] X.env = [(false, eval a X.env)] := by rfl) (hfo : ∀ x, foldedSetIterable (.Call (.Name "enumerate" p4) [a] [] p5) X.env x = pure x := by intro _; rfl) :
    SO X (.For (.Tuple [.Name x p1, .Name y p2] kt p3) (.Call (.Name "enumerate" p4) [a] [] p5) body [] pos :: rest) es s o := fun z Hc H vol σ I D q =>
  ⟨_, pss_cons (ps_for hp hc (pi_enumT hgl hm wA_ok hst) hg wB_ok hfo) wB_ok, h _ σ H I.en I.at_ _ fun vs H1 e1 a1 v1 => by
    cases v1 with
    | cons h1 r =>
      cases r
      cases h1 with
      | @tup a0 xs _ fa ha r1 =>
        have hx : xs.length = ds.length := r1.length
        obtain ⟨I2, back⟩ := (I.step e1 a1).reb
        subst t0
        refine ⟨a0, xs, rfl, .inl (.inl ha), for_it (walk_enumT (K := X.K) (a := a0) (xs := xs)) (fun i σ' H' => ∃ vol', OI z (cutH H1 vol) H' vol' σ' (E i) (T i)) ⟨vol, I2.le h0⟩ (fun i σ' H' _ w => ?_) (fun i v σ' H' H2 hi w hY => ?_) fun σ' H' w => ?_⟩
        · obtain ⟨vol', w⟩ := w
          exact .inl (.inl (w.stillH fa ha))
        · obtain ⟨vol', w⟩ := w
          obtain ⟨t, u, v', rfl, nt, rfl, hu, hv⟩ := hY
          cases hu
          obtain ⟨d, hd, hv'⟩ := r1.getV i v' hv
          have w1 := w.step (Ez.new (o := .tup [.int (i : Int), v']) nt) (w.at_.new nt)
          have w2 := (w1.set (.refl _) w1.at_ l (.int (i : Int))).set (.refl _) w1.at_ m ((w.still hv').mono (.new nt))
          exact ⟨t, _, rfl, .inl (.inl upd_same), rfl, _, _, rfl, _, _, rfl, rfl, hb i d hd z _ _ vol' _ w2 _ fun vol3 σ3 H3 I3 => ⟨vol3, I3⟩⟩
        · obtain ⟨vol', w⟩ := w
          rw [hx] at w
          exact k z Hc H' vol' σ' (back _ _ _ _ _ w) D q⟩
/-! new lists -/
theorem en_rep {z : Z} {n : Int} (hn : n < 100000) (hn0 : -100000 < n) (hl : ds.length * n.toNat ≤ 100000) (ha : EV X z a es s (.list ds) s1) (hb : EV X z b es s1 (.int n) s2) : EN X z (.BinOp a .Mult b pos) es s (List.replicate n.toNat ds).flatten s2 := fun σ H en at_ Q q =>
  ⟨_, pe_op op_rep wE_ok wE_ok, ha σ H en at_ _ fun u H1 e1 a1 v1 => hb σ H1 (en.mono e1) a1 _ fun w H2 e2 a2 v2 => by
    cases v2
    have v1 := v1.mono e2
    cases v1 with
    | lst n1 h1 r1 => exact ⟨_, n, _, rfl, rfl, h1, by omega, by omega, by rw [r1.length]; exact Nat.le_trans hl (by decide), fun p hp => q p _ H2 (e1.trans e2) a2 hp (r1.rep n.toNat)⟩⟩
theorem en_list {z : Z} {x : Str} (hm : X.mg x = none) (h : ED X z [a] es s [d] s1) (hd : d = .list ds ∨ d = .tuple ds) (hv : bootBuiltins x = some (.type "list") := by decide +kernel) (hg : Gl X x := by rfl) (hn : x ≠ "__name__" := by decide) (hdb : (x == ("__debug__" : Str)) = false := by decide) (hs : starEach [a] X.env = (false, eval a X.env) :: starEach [] X.env := by rfl) (hpl : (backTo pos (starEach [] X.env)).any (·.1) = false := by rfl) :
    EN X z (.Call (.Name x p1) [a] [] pos) es s ds s1 := fun σ H en at_ Q q =>
  ⟨_, pe_callTy call_list_of hg hm hv wA_ok hn hdb hs hpl, h σ H en at_ _ fun vs H1 e1 a1 v1 => by
    cases v1 with
    | cons h1 r =>
      cases r
      rcases hd with rfl | rfl
      · cases h1 with
        | lst n e r => exact ⟨_, _, rfl, .inl (.inl (.inl e)), fun l hl => q l _ H1 e1 a1 hl r⟩
      · cases h1 with
        | tup n e r => exact ⟨_, _, rfl, .inr (.inl (.inl e)), fun l hl => q l _ H1 e1 a1 hl r⟩⟩
/-- the new list p in slot i -/
theorem OI.fresh {z : Z} {Hc H H1 : Hp} {vol : List (Addr × HO)} {σ : L2.St} (I : OI z Hc H vol σ es s) (i : Nat) {a : Addr} {vs : List V} (e1 : Ez (z.own vol) H H1) (a1 : At (z.own vol) H1 s1) (ha : H1 a = none) {H2 : Hp} (e2 : Ez (z.own vol) H1 H2) (a2 : At ((z.own vol).add a (.lst vs)) H2 s2) (r : DaAll ((z.own vol).add a (.lst vs)) H2 vs ds) :
    OI z Hc H2 ((a, .lst vs) :: vol) (σ.set i (some (.ref a))) (es.set i (.own ds)) s2 := by
  have nc : Hc a = none := by
    cases hh : Hc a with
    | none => rfl
    | some u =>
      have f : Fz (z.own vol) a := a1.fresh ha
      rw [I.ezc e1 a u f.of_own.1 hh] at ha
      cases ha
  have fa := a1.fresh ha
  have re : ∀ (b : Addr) (u : HO), Fz (z.own vol) b → H1 b = some u → Fz (z.own ((a, .lst vs) :: vol)) b ∧ H2 b = some u := fun b u fb hb => by
    have nb := ne_of_none hb ha
    refine ⟨⟨fb.1, fun o m => ?_⟩, e2 b u fb hb⟩
    rcases List.mem_cons.mp m with e | m
    · exact nb (congrArg Prod.fst e)
    · exact fb.2 o m
  have notin : ∀ u, (a, u) ∉ vol := fun u m => fa.2 u (List.mem_append_left _ m)
  refine ⟨?_, ?_, I.base, a2, ?_, (fun b u f h => e2 b u (f.to_own (I.old h)) (I.ezc e1 b u f h)), ?_, ?_⟩
  · intro q hq
    rcases List.mem_cons.mp hq with e | m
    · rw [e]
      exact nc
    · exact I.new q m
  · show ((a :: vol.map (·.1)) : List Addr).Nodup
    refine List.nodup_cons.mpr ⟨fun m => ?_, I.nd⟩
    obtain ⟨q, hq, e⟩ := List.mem_map.mp m
    exact notin q.2 (by rw [← e]; exact hq)
  · exact (En.re (z := z.own vol) (z' := z.own ((a, .lst vs) :: vol)) rfl (fun q m => List.mem_cons_of_mem _ m) re (I.en.mono e1)).set i (.own (List.mem_cons_self ..) r)
  · intro j ds' b h1 h2
    by_cases hj : i = j
    · subst hj
      by_cases hl : i < σ.length
      · rw [List.getElem?_set_self hl] at h2
        cases h2
        exact nc
      · rw [List.getElem?_eq_none (by rw [List.length_set]; omega)] at h2
        cases h2
    · rw [List.getElem?_set_ne hj] at h1 h2
      exact I.far j ds' b h1 h2
  · intro j l ds1 ds2 b n h1 h2 h3 h4
    have own_ne : ∀ {m : Nat} {ds' : List PyData}, i ≠ m → (es.set i (Sl.own ds))[m]? = some (.own ds') → (σ.set i (some (.ref a)))[m]? = some (some (.ref b)) → b ≠ a := fun {m ds'} hm g1 g2 e => by
      rw [List.getElem?_set_ne hm] at g1 g2
      subst e
      obtain ⟨y, hy, r⟩ := I.en.slot g1
      rw [g2] at hy
      cases hy
      cases r with
      | own mm _ =>
        have := a1.v _ mm
        rw [show H1 b = _ from this] at ha
        cases ha
    have self : ∀ {m : Nat}, i = m → (σ.set i (some (.ref a)))[m]? = some (some (.ref b)) → b = a := fun {m} hm g => by
      subst hm
      by_cases hl : i < σ.length
      · rw [List.getElem?_set_self hl] at g
        cases g
        rfl
      · rw [List.getElem?_eq_none (by rw [List.length_set]; omega)] at g
        cases g
    by_cases hj : i = j
    · exact own_ne (fun e => n (hj.symm.trans e)) h2 h4 (self hj h3)
    · by_cases hl : i = l
      · exact own_ne hj h1 h3 (self hl h4)
      · rw [List.getElem?_set_ne hj] at h1 h3
        rw [List.getElem?_set_ne hl] at h2 h4
        exact I.two j l ds1 ds2 b n h1 h2 h3 h4
end
section
variable {z : Z} {X : Cx} {es : List Sl} {s s1 : S} {iter elt cond a : Expr} {ds : List PyData} {o : Out} {rest : List Stmt} {pos p p1 p2 p3 p4 : Pos}
/-- the turns of a comprehension over anything that walks, with any target -/
theorem lc_allO {te : TE} {tt : TT} {g : TG} {ws : List Nat} {n : Nat} {J : It} {G : Hp → Prop} {Y : Nat → Hp → V → Hp → Prop} (wk : Walk J n G Y) {σ : L2.St} {H1 : Hp} {D : Addr} (T U : Nat → S) (a1 : At z H1 (T 0)) (hD : H1 D = none) (esT : Nat → List Sl)
    (hG : ∀ H', Ez z H1 H' → G H') (turn : ∀ (i : Nat) (x : V) (H' H2 : Hp) (o : HO), i < n → Ez z H1 H' → Y i H' x H2 → At (z.add D o) H' (T i) → ∀ Q : L2.St → Hp → Prop, (∀ σ2 H3, wipe σ2 ws = wipe σ ws → Ez (z.add D o) H' H3 → At (z.add D o) H3 (T i) → En (z.add D o) H3 σ2 (esT i) → Q σ2 H3) → g x (wipe σ ws) H2 Q) (hl : n ≤ 100000) (kb : Nat → Bool) (A : Nat → List PyData) (hA0 : A 0 = [])
    (Ht : ∀ (z' : Z) (i : Nat), i < n → ∀ σ H, En z' H σ (esT i) → At z' H (T i) → ∀ Q : Bool → Hp → Prop, (∀ H2, Ez z' H H2 → At z' H2 (U i) → Q (kb i) H2) → tt σ H Q)
    (He : ∀ (z' : Z) (i : Nat), i < n → kb i = true → ∃ y, A (i + 1) = A i ++ [y] ∧ ∀ σ H, En z' H σ (esT i) → At z' H (U i) → ∀ Q : VK, (∀ v H2, Ez z' H H2 → At z' H2 (T (i + 1)) → Da z' H2 v y → Q v H2) → te σ H Q)
    (hn : ∀ (i : Nat), i < n → kb i = false → A (i + 1) = A i ∧ T (i + 1) = U i) {Qd : Hp → Prop} (hQ : ∀ H' acc, Ez z H1 H' → H' D = some (.lst acc) → At (z.add D (.lst acc)) H' (T n) → DaAll (z.add D (.lst acc)) H' acc (A n) → Qd H') :
    ∃ W : Nat → Nat → Hp → Prop, (∃ m, W 0 m (upd H1 D (.lst []))) ∧ ∀ i m H, W i m H → (J.stop i H ∧ Qd H) ∨ (J.go i H ∧ ∃ Nx : Hp → Prop, (∀ H', Nx H' → ∃ m', m' < m ∧ W (i + 1) m' H') ∧ ∀ x H', J.yld i H x H' → g x (wipe σ ws) H' fun σ2 H2 => wipe σ2 ws = wipe σ ws ∧ tt σ2 H2 fun b H3 =>
        if b = true then te σ2 H3 fun y H4 => ∃ acc, H4 D = some (.lst acc) ∧ acc.length < sizeLine ∧ Nx (upd H4 D (.lst (acc ++ [y]))) else Nx H3) := by
  have lA : ∀ i, i ≤ n → (A i).length ≤ i := by
    intro i
    induction i with
    | zero => intro _; rw [hA0]; exact Nat.le_refl _
    | succ i ih =>
      intro hi
      cases hk : kb i with
      | true =>
        obtain ⟨y, hy, _⟩ := He z i (by omega) hk
        rw [hy, List.length_append]
        have := ih (by omega)
        simp
        omega
      | false =>
        rw [(hn i (by omega) hk).1]
        have := ih (by omega)
        omega
  have reach : ∀ {H' : Hp} {o : HO}, Ez z H1 H' → ∀ (b : Addr) (u : HO), Fz z b → H1 b = some u → Fz (z.add D o) b ∧ H' b = some u := fun e b u fb hb => ⟨fb.to_add (ne_of_none hb hD), e b u fb hb⟩
  have up : ∀ {H' H2 : Hp} {o : HO}, Ez z H1 H' → Ez (z.add D o) H' H2 → Ez z H1 H2 := fun e e2 b u fb hb => e2 b u (fb.to_add (ne_of_none hb hD)) (e b u fb hb)
  refine lc_it wk (fun i H' => Ez z H1 H' ∧ ∃ acc, H' D = some (.lst acc) ∧ At (z.add D (.lst acc)) H' (T i) ∧ DaAll (z.add D (.lst acc)) H' acc (A i)) ?_ (fun i H' _ w => hG H' w.1) ?_ ?_
  · refine ⟨.new hD, [], upd_same, ⟨?_, ?_, ?_, tabs_new a1.t hD⟩, ?_⟩
    · intro b hb
      rw [upd_ne (ne_of_none (a1.d b hb) hD)]
      exact a1.d b hb
    · intro p hp
      rcases List.mem_cons.mp hp with e | e
      · rw [e]
        exact upd_same
      · rw [upd_ne (ne_of_none (a1.v p e) hD)]
        exact a1.v p e
    · intro p hp
      rcases List.mem_cons.mp hp with e | e
      · refine ⟨fun e2 => ?_, by rw [e]; exact .lst _⟩
        rw [e] at e2
        have := a1.d D e2
        rw [this] at hD
        cases hD
      · exact a1.n p e
    · rw [hA0]
      exact .nil
  · intro i x H0 H' hi w hy
    obtain ⟨e2, acc, hDa, a2, rA⟩ := w
    refine turn i x H0 H' (.lst acc) hi e2 hy a2 _ fun σ2 H5 hw e5 a5 en2 => ⟨hw, ?_⟩
    refine Ht _ i hi _ H5 en2 a5 _ fun H3 e30 a3 => ?_
    have e3 := e5.trans e30
    have hD3 : H3 D = some (.lst acc) := a3.v (D, .lst acc) (List.mem_cons_self ..)
    cases hk : kb i with
    | false =>
      obtain ⟨n1, n2⟩ := hn i hi hk
      refine iteF ⟨up e2 e3, acc, hD3, by rw [n2]; exact a3, by rw [n1]; exact rA.mono e3⟩
    | true =>
      obtain ⟨y, hy, go⟩ := He (z.add D (.lst acc)) i hi hk
      refine iteT (go _ H3 (en2.mono e30) a3 _ fun v H4 e4 a4 v4 => ?_)
      have hD4 : H4 D = some (.lst acc) := a4.v (D, .lst acc) (List.mem_cons_self ..)
      have rA4 := (rA.mono e3).mono e4
      have la := rA4.length
      have := lA i (by omega)
      have far : ∀ (b : Addr) (u : HO), Fz (z.add D (.lst acc)) b → H4 b = some u → Fz (z.add D (.lst (acc ++ [v]))) b ∧ upd H4 D (.lst (acc ++ [v])) b = some u := fun b u fb hb => by
        obtain ⟨f1, f2⟩ := fb.of_add
        exact ⟨f1.to_add f2, by rw [upd_ne f2]; exact hb⟩
      refine ⟨acc, hD4, Nat.lt_of_lt_of_le (show acc.length < 100001 by omega) (by decide), ?_, acc ++ [v], upd_same, ⟨?_, ?_, ?_, tabs_upd a4.t hD4⟩, ?_⟩
      · intro b u fb hb
        rw [upd_ne (ne_of_none hb hD)]
        exact up (up e2 e3) e4 b u fb hb
      · intro b hb
        rw [upd_ne (fun e => (a4.n (D, .lst acc) (List.mem_cons_self ..)).1 (by rw [← e]; exact hb))]
        exact a4.d b hb
      · intro p hp
        rcases List.mem_cons.mp hp with e | e
        · rw [e]
          exact upd_same
        · have h1 := a1.v p e
          rw [upd_ne (ne_of_none h1 hD)]
          exact a4.v p (List.mem_cons_of_mem _ e)
      · intro p hp
        rcases List.mem_cons.mp hp with e | e
        · rw [e]
          exact ⟨(a4.n (D, .lst acc) (List.mem_cons_self ..)).1, .lst _⟩
        · exact a4.n p (List.mem_cons_of_mem _ e)
      · rw [hy]
        exact (rA4.re far).app (.cons (v4.re far) .nil)
  · intro H' w
    obtain ⟨e2, acc, hDa, a2, rA⟩ := w
    exact hQ H' acc e2 hDa a2 rA

/-- y = [e for x in range(n)], a list of one's own, the state going along -/
theorem so_lcR {j k : Nat} {x y : Str} {scope : Scope} {n : Nat} {py spos : Pos} (hc : X.calm = true) (hN : X.N.Nodup) (hm : X.mg "range" = none) (f : Nat → PyData) (T : Nat → S) (hit : ∀ z, ED X z [a] es s [.int (n : Int)] s1) (t0 : T 0 = s1) (hl : n ≤ 100000) (hB : BlkOk X.N X.env.scope scope [(x, j)]) (hg : PgIn X scope (.Name x p) (gName j))
    (He : ∀ i : Nat, i < n → ∀ z' : Z, Blk X scope fun Y => EV Y z' elt (es.set j (.val (.int (i : Int)))) (T i) (f i) (T (i + 1))) (kk : SO X rest (es.set k (.own ((List.range n).map f))) (T n) o) (hi : X.N[k]? = some y := by rfl) (hy : List.lookup y X.env.scope.names = some NameKind.local := by rfl)
    (hsw : swapsWith (.ListComp elt [{ target := .Name x p, iter := .Call (.Name "range" p1) [a] [] p2, ifs := [], is_async := 0 }] scope pos) (some (.Name y py)) spos.line X.env = pure true := by exact sw_true rfl rfl rfl (by decide +kernel))
    (hgl : Gl X "range" := by rfl) (hst : starEach [a] X.env = [(false, eval a X.env)] := by rfl) (hs : ∀ x, foldedSetIterable (.Call (.Name "range" p1) [a] [] p2) X.env x = pure x := by intro _; rfl) :
    SO X (.Assign [.Name y py] (.ListComp elt [{ target := .Name x p, iter := .Call (.Name "range" p1) [a] [] p2, ifs := [], is_async := 0 }] scope pos) spos :: rest) es s o := fun z Hc H vol σ I D q =>
  ⟨_, pss_cons (ps_setLc (i := k) (own := [(x, j)]) hc hN hi hy hsw (pi_range1 hgl hm wA_ok hst) hB hg (fun _ _ _ _ _ => pts_nil) tEl_ok hs) wB_ok, by
    refine hit _ σ H I.en I.at_ _ fun vs H1 e1 a1 v1 => ?_
    cases v1 with
    | cons h r =>
      cases r
      cases h
      refine ⟨(n : Int), rfl, by omega, by omega, fun D' hD => ?_⟩
      rw [Int.toNat_natCast]
      subst t0
      refine lc_allO (g := gName j) (ws := [j]) (walk_range (lo := 0) (n := n)) T T a1 hD (fun i => es.set j (.val (.int (i : Int)))) (fun H' e => trivial) (fun i x H' H2 o hi e2 hy a2 Q q => ?_) hl (fun _ => true) (fun i => (List.range i).map f) rfl (fun z' i hi σ H en at_ Q q => q H (.refl H) at_)
        (fun z' i hi _ => ⟨f i, by rw [List.range_succ, List.map_append]; rfl, fun σ H en at_ Q q s0 H0 C cl fp => He i hi z' s0 H0 C cl fp σ H en at_ Q q⟩) (fun i _ h => by cases h) (fun H' acc e hD2 a2 r2 => kk z Hc H' _ _ (I.fresh k e1 a1 hD e a2 r2) D q)
      obtain ⟨rfl, hx⟩ := hy
      have reach : ∀ (b : Addr) (u : HO), Fz (z.own vol) b → H1 b = some u → Fz ((z.own vol).add D' o) b ∧ H2 b = some u := fun b u fb hb => ⟨fb.to_add (ne_of_none hb hD), e2 b u fb hb⟩
      have es2 : (wipe σ [j]).set j (some x) = σ.set j (some x) := by
        show (σ.set j none).set j (some x) = _
        rw [List.set_set]
      show Q ((wipe σ [j]).set j (some x)) H2
      rw [es2]
      have en0 : En ((z.own vol).add D' o) H2 σ es := En.re (z := z.own vol) (z' := (z.own vol).add D' o) rfl (fun q h => List.mem_cons_of_mem _ h) reach (I.en.mono e1)
      refine q _ H2 (by
        show (σ.set j (some x)).set j none = σ.set j none
        rw [List.set_set]) (.refl _) a2 (en0.set j (.val ?_))
      rw [hx]
      show Da _ _ (.int (0 + (i : Int))) _
      rw [Int.zero_add]
      exact .int _⟩
end
/-! own lists handed on, cut -/
section
variable {X : Cx} {z : Z} {es : List Sl} {s s1 s2 : S} {a b : Expr} {xs : List Expr} {ds : List PyData} {as : List Sl} {pos p p1 p2 : Pos}
theorem ea_own (i : Nat) {x : Str} (hr : EA X z xs es s as s2) (h : es[i]? = some (.own ds) := by rfl) (hN : X.N[i]? = some x := by rfl) (hvi : Vis X.env.scope x := by first | exact Or.inl rfl | exact Or.inr (Or.inl rfl) | exact Or.inr (Or.inr rfl)) (hd : (x == ("__debug__" : Str)) = false := by decide) (hcd : (x == ("__classdict__" : Str)) = false := by decide)
    (hs : starEach (.Name x p :: xs) X.env = (false, eval (.Name x p) X.env) :: starEach xs X.env := by rfl) : EA X z (.Name x p :: xs) es s (.own ds :: as) s2 := fun σ H en at_ Q q => ⟨_, pa_cons (pe_var hN hvi hd hcd) wA_ok hs, by
    obtain ⟨y, hy, r⟩ := en.slot h
    cases r with
    | @own a0 vs _ m k =>
      exact ⟨_, hy, hr σ H en at_ _ fun us H1 e1 a1 n1 => q _ H1 e1 a1 (.cons (.own m (k.mono e1)) n1)⟩⟩
theorem ev_slToO (i : Nat) {x : Str} {j : Int} (hb : EV X z b es s (.int j) s1) (h : es[i]? = some (.own ds) := by rfl) (hN : X.N[i]? = some x := by rfl) (hvi : Vis X.env.scope x := by first | exact Or.inl rfl | exact Or.inr (Or.inl rfl) | exact Or.inr (Or.inr rfl)) (hd : (x == ("__debug__" : Str)) = false := by decide) (hcd : (x == ("__classdict__" : Str)) = false := by decide) :
    EV X z (.Subscript (.Name x p) (.Slice none (some b) none p1) pos) es s (.list (DL.cutD ds none (some j))) s1 :=
  .mk (pe_slice sl_list (pe_var hN hvi hd hcd) po_none (po_some wE_ok)) fun σ H en at_ Q q => by
    obtain ⟨y, hy, r⟩ := en.slot h
    cases r with
    | @own a0 vs _ m k =>
      refine ⟨_, hy, hb σ H en at_ _ fun u H2 e2 a2 v2 => ?_⟩
      cases v2
      exact ⟨j, rfl, _, _, rfl, .inl (.inl (a2.v _ m)), fun p hp => q _ _ (e2.trans (.new hp)) (a2.new hp) (.lst (a2.fresh hp) upd_same (((k.cut none (some j)).mono e2).mono (.new hp)))⟩
theorem en_listO (i : Nat) {x y : Str} (hm : X.mg y = none) (h : es[i]? = some (.own ds) := by rfl) (hN : X.N[i]? = some x := by rfl) (hvi : Vis X.env.scope x := by first | exact Or.inl rfl | exact Or.inr (Or.inl rfl) | exact Or.inr (Or.inr rfl)) (hd : (x == ("__debug__" : Str)) = false := by decide) (hcd : (x == ("__classdict__" : Str)) = false := by decide)
    (hv : bootBuiltins y = some (.type "list") := by decide +kernel) (hg : Gl X y := by rfl) (hn : y ≠ "__name__" := by decide) (hdb : (y == ("__debug__" : Str)) = false := by decide) (hs : starEach [.Name x p] X.env = (false, eval (.Name x p) X.env) :: starEach [] X.env := by rfl) (hpl : (backTo pos (starEach [] X.env)).any (·.1) = false := by rfl) :
    EN X z (.Call (.Name y p1) [.Name x p] [] pos) es s ds s := fun σ H en at_ Q q =>
  ⟨_, pe_callTy call_list_of hg hm hv (pa_cons (pe_var hN hvi hd hcd) pa_nil hs) hn hdb hs hpl, by
    obtain ⟨y, hy, r⟩ := en.slot h
    cases r with
    | @own a0 vs _ m k => exact ⟨_, hy, _, _, rfl, .inl (.inl (.inl (at_.v _ m))), fun l hl => q l _ H (.refl H) at_ hl k⟩⟩
end
/-! a def whose first row makes a new list out of its arguments, own ones among them -/
structure Fst (X : Cx) (i : Nat) (y : Str) (e : Expr) (py pos : Pos) : Prop where
  hN : X.N.Nodup
  hi : X.N[i]? = some y
  hx : Loc X.env.scope y
  hs : swapsWith e (some (.Name y py)) pos.line X.env = pure false
  hf : X.fn y = true ∨ X.env.scope.names.lookup y = some .local
section
variable {P : Program} {w : World} {K : PySem.W.Frag} {mg : Str → Option Value} {base : Heap}
theorem okOF {x qual : Str} {st : Stmt} {f : Addr} {fd : FuncData} {N ps : List Str} {k : Nat} {R : Rel} (F : Fun K x qual st f fd) (Sc : FnScope N ps (defScope st)) (hl : ∀ as s d s', R as s d s' → as.length = ps.length) (i : Nat) {y : Str} {e : Expr} {py pos : Pos} {rest : List Stmt} (hB : defBody st = .Assign [.Name y py] e pos :: rest)
    (hb : ∀ cdv A outer s0 H0 E, Ctx (cxOf CX0 P w K mg base N qual (defScope st) f cdv A outer s0 H0 E).nox k N → Fst (cxOf CX0 P w K mg base N qual (defScope st) f cdv A outer s0 H0 E).nox i y e py pos ∧ ∀ as s d s', R as s d s' → ∃ ds s1 es0, Le (as ++ List.replicate (N.length - as.length) .un) es0 ∧ (∀ fs, Sl.own fs ∉ es0) ∧ (∀ z, EN (cxOf CX0 P w K mg base N qual (defScope st) f cdv A outer s0 H0 E).nox z e (as ++ List.replicate (N.length - as.length) .un) s ds s1) ∧ SO (cxOf CX0 P w K mg base N qual (defScope st) f cdv A outer s0 H0 E).nox rest (es0.set i (.own ds)) s1 (.rt d s')) :
    FnOk P w K mg base CX0 (k + 1) f fd ps (spD R) := by
  refine F.ok Sc (fun vs H Q E h => ?_) (fun cdv A outer s0 H0 vs Q E hr h => ?_)
  · obtain ⟨z, as, s, d, s', hR, en, _⟩ := h
    have := en.length
    rw [List.length_map] at this
    rw [this]
    exact hl _ _ _ _ hR
  · obtain ⟨z, as, s, d, s', hR, en, at_, q⟩ := h
    have e1 : vs.length = as.length := by
      have := en.length
      rwa [List.length_map] at this
    have C : Ctx (cxOf CX0 P w K mg base N qual (defScope st) f cdv A outer s0 H0 E).nox k N := ⟨Sc.nd, rfl, PassesOwn.never, hr, hr.units⟩
    obtain ⟨B, go⟩ := hb cdv A outer s0 H0 E C
    obtain ⟨ds, s1, es0, l0, hno, hen, hso⟩ := go as s d s' hR
    have none_own : ∀ (i : Nat) (ds : List PyData), es0[i]? ≠ some (.own ds) := fun i ds h => hno ds (List.mem_of_getElem? h)
    have enf : En z H0 (L2.start N vs) (as ++ List.replicate (N.length - as.length) .un) := by
      unfold L2.start
      rw [e1]
      exact en.app (.uns _)
    have I : OI z H0 H0 [] (L2.start N vs) es0 s := ⟨fun q h => (by cases h), List.nodup_nil, fun p hp => (by rw [at_.v p hp]; exact fun h => by cases h), at_, enf.le l0, .refl H0, fun i ds p h => absurd h (none_own i ds), fun i j ds ds' p _ h => absurd h (none_own i ds)⟩
    rw [hB]
    refine ⟨_, wB_ok, ?_⟩
    refine ⟨_, pss_cons (ps_set B.hN B.hi B.hx wE_ok B.hs B.hf) wB_ok, hen z (L2.start N vs) H0 enf at_ _ fun a vs' H1 e1' a1 ha r => ?_⟩
    have re : ∀ (b : Addr) (u : HO), Fz z b → H1 b = some u → Fz (z.add a (.lst vs')) b ∧ upd H1 a (.lst vs') b = some u := fun b u fb hb => by
      have nb := ne_of_none hb ha
      exact ⟨fb.to_add nb, by rw [upd_ne nb]; exact hb⟩
    have a2 : At (z.add a (.lst vs')) (upd H1 a (.lst vs')) s1 := by
      refine ⟨fun b hb => ?_, fun q hq => ?_, fun q hq => ?_, tabs_new a1.t ha⟩
      · rw [upd_ne (ne_of_none (a1.d b hb) ha)]
        exact a1.d b hb
      · rcases List.mem_cons.mp hq with e | m
        · rw [e]
          exact upd_same
        · rw [upd_ne (ne_of_none (a1.v q m) ha)]
          exact a1.v q m
      · rcases List.mem_cons.mp hq with e | m
        · rw [e]
          refine ⟨fun hd => ?_, .lst vs'⟩
          have := a1.d a hd
          rw [this] at ha
          cases ha
        · exact a1.n q m
    have J := I.fresh i (vs := vs') e1' a1 ha (.new ha) a2 (r.re re)
    exact hso z H0 _ _ _ J { nx := fun _ H' => Q .non H', rt := Q } fun v H' e a n => q v H' e a n
end
end DL


set_option Elab.async false
set_option linter.all false
set_option maxRecDepth 100000
namespace DL
open PySem PySem.Spec PyProof.Rows L2
variable [TabT]
/-! ### zip(*rows), each turn's tuple under one name -/
abbrev ZipO (h : Heap) (z TI TO : Addr) (v : Value) (g : Bool) : Prop := h.get? z = some { cls := .type "zip", dict := none, data := .fields #[v, .bool g, .bool false, .ref TI, .ref TO], slots := #[] }
abbrev TupO (h : Heap) (T : Addr) (xs : Array Value) : Prop := h.get? T = some { cls := .type "tuple", data := .seq xs }
/-- the tuples' iterators at one place, the items there -/
inductive RowZ (h : Heap) (i : Nat) : List (Addr × Addr) → List Value → Prop
  | nil : RowZ h i [] []
  | cons {it l : Addr} {ar : Array Value} {x : Value} {ps : List (Addr × Addr)} {xs : List Value} : h.IsTupleIter it l i → h.IsTuple l ar → ar[i]? = some x → RowZ h i ps xs → RowZ h i ((it, l) :: ps) (x :: xs)
theorem RowZ.length {h : Heap} {i : Nat} : ∀ {ps : List (Addr × Addr)} {xs : List Value}, RowZ h i ps xs → ps.length = xs.length
  | _, _, .nil => rfl
  | _, _, .cons _ _ _ r => by rw [List.length_cons, List.length_cons, RowZ.length r]
theorem RowZ.keep {h h' : Heap} {i : Nat} : ∀ {ps : List (Addr × Addr)} {xs : List Value}, RowZ h i ps xs → (∀ p ∈ ps, ∀ o, (h.get? p.1 = some o → h'.get? p.1 = some o) ∧ (h.get? p.2 = some o → h'.get? p.2 = some o)) → RowZ h' i ps xs
  | _, _, .nil, _ => .nil
  | _, _, .cons a b c r, k => .cons (a.at fun o e => (k _ (List.mem_cons_self ..) o).1 e) (b.at fun o e => (k _ (List.mem_cons_self ..) o).2 e) c (RowZ.keep r fun p hp => k p (List.mem_cons_of_mem _ hp))
structure ApartZ (z TI TO : Addr) (ps : List (Addr × Addr)) : Prop where
  tiz : TI ≠ z
  toz : TO ≠ z
  tito : TI ≠ TO
  nd : (ps.map Prod.fst).Nodup
  iz : ∀ p ∈ ps, p.1 ≠ z ∧ p.1 ≠ TI ∧ p.1 ≠ TO
  lz : ∀ p ∈ ps, p.2 ≠ z ∧ p.2 ≠ TO ∧ p.2 ∉ ps.map Prod.fst
section
variable {M : Model} {A : Around} {E : Value → Shared → Prop}
theorem loop_walk {α β : Type} {f : α → β → Sem (ForInStep β)} (I : List α → β → Shared → Prop) (step : ∀ x xs b s, I (x :: xs) b s → wpAny M A (f x b) (fun r s' => ∃ b', r = .yield b' ∧ I xs b' s') E s) {Q : β → Shared → Prop} (fin : ∀ b s, I [] b s → Q b s) :
    ∀ (xs : List α) (b : β) (s : Shared), I xs b s → wpAny M A (forIn xs b f) Q E s
  | [], b, s, h => by
    rw [List.forIn_nil]
    exact wpAny_pure (fin b s h)
  | x :: xs, b, s, h => by
    rw [List.forIn_cons]
    refine wpAny_bind (wpAny_mono (step x xs b s h) (fun r s' ⟨b', e, h'⟩ => ?_) fun _ _ q => q)
    subst e
    exact loop_walk I step fin xs b' s' h'
end
section
variable {prog : Program} {w : World} {A : Around} {E : Value → Shared → Prop} {s : Shared}
theorem alive_any {a : Addr} {Q : Option Obj → Shared → Prop} (h : Q (s.heap.get? a) s) : wpAny (model prog w) A (loadIfAlive a) Q E s := fun _ _ _ => h
theorem upd_TupO {T : Addr} {xs : Array Value} {x : Value} {k : Nat} {Q : Unit → Shared → Prop} (hT : TupO s.heap T xs) (hz : xs.size ≤ sizeLine)
    (h : ∀ h', TupO h' T (xs.setIfInBounds k x) → Heap.SameBut T s.heap h' → Q () { s with heap := h' }) : wpAny (model prog w) A (updateSeq T (·.setIfInBounds k x)) Q E s := by
  refine wpAny_updateSeq hT rfl (h _ ?_ (Heap.SameBut.update ..)) hz (by rw [Array.size_setIfInBounds]; omega)
  show Heap.get? _ T = _
  rw [Heap.get?_update_self _ hT rfl]
  simp [Obj.mapSeq]
/-- whether the tuple that was handed out is free again, both ways -/
theorem free_any {z TI TO : Addr} {v : Value} {g : Bool} {Q : Bool → Shared → Prop} (hz : ZipO s.heap z TI TO v g) (hv : v = .none ∨ ∃ a : Nat, v = rawInt (a : Int))
    (h1 : Q true s) (h2 : ∀ h' g', ZipO h' z TI TO v g' → (∃ a : Nat, v = rawInt (a : Int)) → Heap.SameBut z s.heap h' → Q false { s with heap := h' }) : wpAny (model prog w) A (Builtin.SmallTypes.ownedTupleIsFree (.ref z)) Q E s := by
  unfold Builtin.SmallTypes.ownedTupleIsFree
  refine wpAny_bind (wpAny_field hz rfl (x := v) rfl ?_)
  rcases hv with rfl | ⟨a, rfl⟩
  · exact wpAny_pure h1
  · show wpAny _ _ (loadIfAlive _ >>= _) _ _ _
    refine wpAny_bind (alive_any ?_)
    cases hg : s.heap.get? ((a : Int).toNat) with
    | none =>
      simp only [Option.isNone_none, if_true]
      exact wpAny_pure h1
    | some o =>
      simp only [Option.isNone_some, Bool.false_eq_true, if_false]
      refine wpAny_bind (wpAny_field hz rfl (x := .bool g) rfl ?_)
      cases g with
      | true =>
        rw [if_neg (by decide)]
        exact wpAny_pure (h2 s.heap true hz ⟨a, rfl⟩ (Heap.SameBut.refl _ _))
      | false =>
        rw [if_pos (by rfl)]
        exact wpAny_bind (wpAny_setField_rec hz (by simp) fun h' q k => wpAny_pure (h2 h' true q ⟨a, rfl⟩ k))

/-- what the turns of the loop over the iterators keep -/
structure MidZ (s : Shared) (z TI TO : Addr) (i : Nat) (ps : List (Addr × Addr)) (h' : Heap) (done todo : List (Addr × Addr)) (v : Value) (g : Bool) : Prop where
  eq : ps = done ++ todo
  zo : ZipO h' z TI TO v g
  old : ∀ p ∈ done, h'.IsTupleIter p.1 p.2 (i + 1)
  sz : h'.objs.size = s.heap.objs.size
  fr : ∀ c o, c ≠ z → c ≠ TO → c ∉ ps.map Prod.fst → s.heap.get? c = some o → h'.get? c = some o

theorem MidZ.next {z TI TO : Addr} {i : Nat} {ps done todo : List (Addr × Addr)} {p : Addr × Addr} {h' h2 : Heap} {v : Value} {g : Bool} (D : ApartZ z TI TO ps) (m : MidZ s z TI TO i ps h' done (p :: todo) v g)
    (hi : h2.IsTupleIter p.1 p.2 (i + 1)) (b : Heap.SameBut p.1 h' h2) : MidZ s z TI TO i ps h2 (done ++ [p]) todo v g ∧ ∀ {xs : List Value}, RowZ h' i todo xs → RowZ h2 i todo xs := by
  have e := m.eq
  have hp : p ∈ ps := by rw [e]; simp
  have nd := D.nd
  rw [e, List.map_append, List.map_cons] at nd
  have nd1 := (List.nodup_append.mp nd)
  have nd2 := List.nodup_cons.mp nd1.2.1
  refine ⟨⟨by rw [e, List.append_assoc]; rfl, (b.2 _ (D.iz p hp).1.symm).trans m.zo, fun q hq => ?_, b.1.trans m.sz, fun c o c1 c2 c3 h => (b.2 c (fun w => c3 (by rw [w]; exact List.mem_map.mpr ⟨p, hp, rfl⟩))).trans (m.fr c o c1 c2 c3 h)⟩, fun r => r.keep fun q hq o => ?_⟩
  · rcases List.mem_append.mp hq with hq | hq
    · exact (m.old q hq).at fun o h => (b.2 q.1 (fun w => nd1.2.2 q.1 (List.mem_map.mpr ⟨q, hq, rfl⟩) p.1 (List.mem_cons_self ..) w)).trans h
    · rw [List.mem_singleton.mp hq]
      exact hi
  · have hq2 : q ∈ ps := by rw [e]; simp [hq]
    exact ⟨fun h => (b.2 q.1 (fun w => nd2.1 (by rw [← w]; exact List.mem_map.mpr ⟨q, hq, rfl⟩))).trans h, fun h => (b.2 q.2 (fun w => (D.lz q hq2).2.2 (by rw [w]; exact List.mem_map.mpr ⟨p, hp, rfl⟩))).trans h⟩
theorem MidZ.put {z TI TO : Addr} {i : Nat} {ps done todo : List (Addr × Addr)} {h' h2 : Heap} {v : Value} {g : Bool} (D : ApartZ z TI TO ps) (m : MidZ s z TI TO i ps h' done todo v g)
    (b : Heap.SameBut TO h' h2) : MidZ s z TI TO i ps h2 done todo v g ∧ ∀ {xs : List Value}, RowZ h' i todo xs → RowZ h2 i todo xs := by
  have e := m.eq
  refine ⟨⟨e, (b.2 _ D.toz.symm).trans m.zo, fun q hq => (m.old q hq).at fun o h => (b.2 q.1 (D.iz q (by rw [e]; simp [hq])).2.2).trans h, b.1.trans m.sz, fun c o c1 c2 c3 h => (b.2 c c2).trans (m.fr c o c1 c2 c3 h)⟩, fun r => r.keep fun q hq o => ?_⟩
  have hq2 : q ∈ ps := by rw [e]; simp [hq]
  exact ⟨fun h => (b.2 q.1 (D.iz q hq2).2.2).trans h, fun h => (b.2 q.2 (D.lz q hq2).2.1).trans h⟩
theorem MidZ.start {z TI TO : Addr} {i : Nat} {ps : List (Addr × Addr)} {h1 : Heap} {v : Value} {g : Bool} (D : ApartZ z TI TO ps) (hz : ZipO h1 z TI TO v g) (b : Heap.SameBut z s.heap h1) : MidZ s z TI TO i ps h1 [] ps v g ∧ ∀ {xs : List Value}, RowZ s.heap i ps xs → RowZ h1 i ps xs := by
  refine ⟨⟨rfl, hz, (by intro p h; cases h), b.1, fun c o c1 c2 c3 h => (b.2 c c1).trans h⟩, fun r => r.keep fun q hq o => ⟨fun h => (b.2 q.1 (D.iz q hq).1).trans h, fun h => (b.2 q.2 (D.lz q hq).1).trans h⟩⟩
theorem zipN_next {z TI TO : Addr} {i : Nat} {ps : List (Addr × Addr)} {xs : List Value} {ar : Array Value} {v : Value} {g : Bool} {Q : Value → Shared → Prop} (D : ApartZ z TI TO ps)
    (hz : ZipO s.heap z TI TO v g) (hv : v = .none ∨ ∃ a : Nat, v = rawInt (a : Int)) (hTI : TupO s.heap TI (ps.map fun p => Value.ref p.1).toArray) (hTO : TupO s.heap TO ar) (har : ar.size = ps.length) (hps : ps ≠ []) (hsz : ps.length ≤ 1000)
    (R : RowZ s.heap i ps xs)
    (hQ : ∀ h' v' g' ar', ZipO h' z TI TO v' g' → (∃ a : Nat, v' = rawInt (a : Int)) → TupO h' TO ar' → ar'.size = ps.length → (∀ p ∈ ps, h'.IsTupleIter p.1 p.2 (i + 1)) → TupO h' s.heap.objs.size xs.toArray → h'.objs.size = s.heap.objs.size + 1 →
      (∀ c o, c ≠ z → c ≠ TO → c ∉ ps.map Prod.fst → s.heap.get? c = some o → h'.get? c = some o) → Q (.ref s.heap.objs.size) { s with heap := h' }) :
    wpAny (model prog w) A (Builtin.«zip.__next__» ⟨[.ref z], []⟩) (fun fin s' => ∃ u, fin = .done (.ret u) ∧ Q u s') E s := by
  have xl := R.length
  have hsl : (1000 : Nat) ≤ sizeLine := by decide
  have far : ∀ {h' : Heap} {v g}, ZipO h' z TI TO v g → z < h'.objs.size := fun q => Heap.lt_size q
  show wpAny _ _ (field (.ref z) 2 >>= _) _ _ _
  refine wpAny_bind (wpAny_field hz rfl (x := .bool false) rfl ?_)
  show wpAny _ _ (field (.ref z) 3 >>= _) _ _ _
  refine wpAny_bind (wpAny_field hz rfl (x := .ref TI) rfl (wpAny_bind (wpAny_seqItems hTI rfl ?_)))
  dsimp only
  rw [if_neg (by simp [hps])]
  refine wpAny_bind (free_any hz hv ?_ fun h₁ g₁ hz₁ hv₁ hs₁ => ?_)
  · simp only [if_true]
    refine wpAny_bind (wpAny_rule (wpAny_bind (wpAny_field hz rfl (x := .ref TO) rfl (wpAny_bind (wpAny_setField_rec hz (by simp) fun h₁ hz₁ hs₁ => wpAny_bind ?_)))))
    replace hz₁ : ZipO h₁ z TI TO .ellipsis g := hz₁
    obtain ⟨m0, r0⟩ := MidZ.start (i := i) D hz₁ hs₁
    refine loop_walk (fun rest b s' => b = (none, ()) ∧ ∃ h' done todo ar', s' = { s with heap := h' } ∧ rest = (todo.map fun p => Value.ref p.1).zipIdx done.length ∧ MidZ s z TI TO i ps h' done todo .ellipsis g ∧ TupO h' TO ar' ∧ ar'.size = ps.length ∧ (∀ k, k < done.length → ar'[k]? = xs[k]?) ∧ RowZ h' i todo (xs.drop done.length))
      (fun x rest b s' h => ?_) (fun b s' h => ?_) _ _ _ ⟨rfl, h₁, [], ps, ar, rfl, rfl, m0, (hs₁.2 _ D.toz).trans hTO, har, fun k h => (by cases h), r0 R⟩
    · obtain ⟨rfl, h', done, todo, ar', rfl, hr, m, hT, hl, ha, r⟩ := h
      cases todo with
      | nil => cases hr
      | cons p todo =>
        rw [List.map_cons, List.zipIdx_cons] at hr
        injection hr with hx hr
        subst hx hr
        generalize hd : xs.drop done.length = dx at r
        cases r with
        | @cons it l arr x _ dx' hit hl2 hx r =>
          have hp : (it, l) ∈ ps := by rw [m.eq]; simp
          refine wpAny_bind (wpAny_onRaise ?_)
          show wpAny _ _ (Builtin.SmallTypes.nextOf (.ref it) >>= _) _ _ _
          refine wpAny_bind (RZ.nextOf_tuple_item hit hl2 hx fun h2 hit2 hs2 => wpAny_pure ?_)
          obtain ⟨m2, rr2⟩ := m.next D hit2 hs2
          have hT2 : TupO h2 TO ar' := (hs2.2 _ (D.iz _ hp).2.2.symm).trans hT
          refine wpAny_bind (wpAny_seqItems hT2 rfl ?_)
          refine wpAny_bind (upd_TupO hT2 (by omega) fun h3 hT3 hs3 => ?_)
          obtain ⟨m3, rr3⟩ := m2.put D hs3
          refine wpAny_bind (wpAny_letGo (wpAny_pure ⟨_, rfl, rfl, h3, done ++ [(it, l)], todo, _, rfl, by rw [List.length_append]; rfl, m3, hT3, by rw [Array.size_setIfInBounds, hl], fun k hk => ?_, ?_⟩))
          · have dl : done.length < ps.length := by
              have := congrArg List.length m.eq
              rw [List.length_append, List.length_cons] at this
              omega
            rw [List.length_append, List.length_singleton] at hk
            rw [Array.getElem?_setIfInBounds]
            by_cases e : done.length = k
            · subst e
              rw [if_pos rfl, if_pos (by omega)]
              have := congrArg List.head? hd
              rw [List.head?_drop] at this
              exact this.symm
            · rw [if_neg e]
              exact ha k (by omega)
          · have : xs.drop (done ++ [(it, l)]).length = dx' := by
              have := congrArg List.tail hd
              rw [List.tail_drop] at this
              rw [List.length_append, List.length_singleton]
              exact this
            rw [this]
            exact rr3 (rr2 r)
    · obtain ⟨rfl, h', done, todo, ar', rfl, hr, m, hT, hl, ha, r⟩ := h
      have ht : todo = [] := by
        cases todo with
        | nil => rfl
        | cons p t => cases hr
      subst ht
      have e := m.eq
      rw [List.append_nil] at e
      subst e
      have ex : ar' = xs.toArray := by
        apply Array.ext'
        apply List.ext_getElem?
        intro k
        by_cases hk : k < ps.length
        · have := ha k hk
          rw [Array.getElem?_toList]
          exact this
        · rw [List.getElem?_eq_none (by rw [Array.length_toList]; omega), List.getElem?_eq_none (by show xs.length ≤ k; omega)]
      subst ex
      dsimp only
      refine wpAny_bind (wpAny_seqItems hT rfl ?_)
      dsimp only
      refine wpAny_bind (wpAny_newTuple ?_)
      have hzl := far m.zo
      show wpAny _ _ (Builtin.SmallTypes.ownedTupleHandOut (.ref z) (.ref h'.objs.size) >>= _) _ _ _
      refine wpAny_bind ?_
      unfold Builtin.SmallTypes.ownedTupleHandOut
      have q1 : ZipO (h'.push { cls := .type "tuple", data := .seq xs.toArray }) z TI TO .ellipsis g := Heap.get?_push_of_some _ m.zo
      refine wpAny_bind (wpAny_setField_rec q1 (by simp) fun h4 q4 b4 => ?_)
      replace q4 : ZipO h4 z TI TO (rawInt h'.objs.size) g := q4
      refine wpAny_setField_rec q4 (by simp) fun h5 q5 b5 => ?_
      replace q5 : ZipO h5 z TI TO (rawInt h'.objs.size) false := q5
      have up : ∀ c o, c ≠ z → h'.get? c = some o → h5.get? c = some o := fun c o c1 e => (b5.2 c c1).trans ((b4.2 c c1).trans (Heap.get?_push_of_some _ e))
      have hT5 : TupO h5 h'.objs.size xs.toArray := (b5.2 _ (Nat.ne_of_gt hzl)).trans ((b4.2 _ (Nat.ne_of_gt hzl)).trans (Heap.get?_push_size _ rfl))
      have s5 : h5.objs.size = h'.objs.size + 1 := by rw [b5.1, b4.1, Heap.size_push]
      refine wpAny_pure ⟨_, rfl, ?_⟩
      show Q (.ref h'.objs.size) _
      rw [m.sz] at hT5 s5 q5 ⊢
      exact hQ h5 _ _ _ q5 ⟨_, rfl⟩ (up _ _ D.toz hT) hl (fun p hp => (m.old p hp).at fun o q => up _ _ (D.iz p hp).1 q) hT5 s5 fun c o c1 c2 c3 q => up c o c1 (m.fr c o c1 c2 c3 q)
  · simp only [Bool.false_eq_true, if_false]
    rw [← Array.forIn_toList]
    refine wpAny_bind ?_
    obtain ⟨m0, r0⟩ := MidZ.start (i := i) D hz₁ hs₁
    refine loop_walk (fun rest b s' => ∃ h' done todo, s' = { s with heap := h' } ∧ rest = todo.map (fun p => Value.ref p.1) ∧ b = (none, (xs.take done.length).toArray) ∧ MidZ s z TI TO i ps h' done todo v g₁ ∧ TupO h' TO ar ∧ RowZ h' i todo (xs.drop done.length))
      (fun x rest b s' h => ?_) (fun b s' h => ?_) _ _ _ ⟨h₁, [], ps, rfl, rfl, rfl, m0, (hs₁.2 _ D.toz).trans hTO, r0 R⟩
    · obtain ⟨h', done, todo, rfl, hr, rfl, m, hT, r⟩ := h
      cases todo with
      | nil => cases hr
      | cons p todo =>
        rw [List.map_cons] at hr
        injection hr with hx hr
        subst hx hr
        generalize hd : xs.drop done.length = dx at r
        cases r with
        | @cons it l arr x _ dx' hit hl2 hx r =>
          have hp : (it, l) ∈ ps := by rw [m.eq]; simp
          refine wpAny_bind (wpAny_holding ?_)
          show wpAny _ _ (Builtin.SmallTypes.nextOf (.ref it) >>= _) _ _ _
          refine wpAny_bind (RZ.nextOf_tuple_item hit hl2 hx fun h2 hit2 hs2 => wpAny_pure ?_)
          obtain ⟨m2, rr2⟩ := m.next D hit2 hs2
          have hx' : xs[done.length]? = some x := by
            have := congrArg List.head? hd
            rwa [List.head?_drop] at this
          refine wpAny_pure ⟨_, rfl, h2, done ++ [(it, l)], todo, rfl, rfl, ?_, m2, (hs2.2 _ (D.iz _ hp).2.2.symm).trans hT, ?_⟩
          · rw [List.length_append, List.length_singleton, List.take_add_one, hx']
            simp
          · have : xs.drop (done ++ [(it, l)]).length = dx' := by
              have := congrArg List.tail hd
              rw [List.tail_drop] at this
              rw [List.length_append, List.length_singleton]
              exact this
            rw [this]
            exact rr2 r
    · obtain ⟨h', done, todo, rfl, hr, rfl, m, hT, r⟩ := h
      have ht : todo = [] := by
        cases todo with
        | nil => rfl
        | cons p t => cases hr
      subst ht
      have e := m.eq
      rw [List.append_nil] at e
      subst e
      rw [List.take_of_length_le (by omega)]
      dsimp only
      refine wpAny_bind (wpAny_newTuple (wpAny_pure ⟨_, rfl, ?_⟩))
      have up : ∀ c o, h'.get? c = some o → (h'.push { cls := .type "tuple", data := .seq xs.toArray }).get? c = some o := fun c o e => Heap.get?_push_of_some _ e
      have hT5 : TupO (h'.push { cls := .type "tuple", data := .seq xs.toArray }) h'.objs.size xs.toArray := Heap.get?_push_size _ rfl
      have s5 : (h'.push { cls := .type "tuple", data := .seq xs.toArray }).objs.size = h'.objs.size + 1 := Heap.size_push ..
      show Q (.ref h'.objs.size) _
      rw [m.sz] at hT5 s5 ⊢
      exact hQ _ _ _ _ (up _ _ m.zo) hv₁ (up _ _ hT) har (fun p hp => (m.old p hp).at fun o q => up _ _ q) hT5 s5 fun c o c1 c2 c3 q => up c o (m.fr c o c1 c2 c3 q)
theorem zipN_stop {z TI TO it l : Addr} {i : Nat} {ps : List (Addr × Addr)} {arr ar : Array Value} {v : Value} {g : Bool} {Q : PySem.Fin → Shared → Prop} (hh : A.handled = none) (D : ApartZ z TI TO ((it, l) :: ps))
    (hz : ZipO s.heap z TI TO v g) (hv : v = .none ∨ ∃ a : Nat, v = rawInt (a : Int)) (hTI : TupO s.heap TI (((it, l) :: ps).map fun p => Value.ref p.1).toArray) (hTO : TupO s.heap TO ar)
    (hit : s.heap.IsTupleIter it l i) (hl : s.heap.IsTuple l arr) (hx : arr[i]? = none)
    (hE : ∀ h' e, (∀ c o, c ≠ z → c ≠ it → s.heap.get? c = some o → h'.get? c = some o) → (∃ o, h'.get? e = some o ∧ o.cls = .type "StopIteration") → E (.ref e) { s with heap := h' }) :
    wpAny (model prog w) A (Builtin.«zip.__next__» ⟨[.ref z], []⟩) Q E s := by
  have iz := (D.iz _ (List.mem_cons_self ..)).1
  have lz := (D.lz _ (List.mem_cons_self ..)).1
  show wpAny _ _ (field (.ref z) 2 >>= _) _ _ _
  refine wpAny_bind (wpAny_field hz rfl (x := .bool false) rfl ?_)
  show wpAny _ _ (field (.ref z) 3 >>= _) _ _ _
  refine wpAny_bind (wpAny_field hz rfl (x := .ref TI) rfl (wpAny_bind (wpAny_seqItems hTI rfl ?_)))
  dsimp only
  rw [if_neg (by simp)]
  refine wpAny_bind (free_any hz hv ?_ fun h₁ g₁ hz₁ hv₁ hs₁ => ?_)
  · simp only [if_true]
    refine wpAny_bind (wpAny_rule (wpAny_bind (wpAny_field hz rfl (x := .ref TO) rfl (wpAny_bind (wpAny_setField_rec hz (by simp) fun h₁ hz₁ hs₁ => wpAny_bind ?_)))))
    replace hz₁ : ZipO h₁ z TI TO .ellipsis g := hz₁
    rw [List.map_cons, List.zipIdx_cons, List.forIn_cons]
    refine wpAny_bind (wpAny_bind (wpAny_onRaise ?_))
    show wpAny _ _ (Builtin.SmallTypes.nextOf (.ref it) >>= _) _ _ _
    refine wpAny_bind (RZ.nextOf_tuple_end hh (hit.at fun o q => (hs₁.2 _ iz).trans q) (hl.at fun o q => (hs₁.2 _ lz).trans q) hx fun h2 e k2 he => ?_)
    obtain ⟨oe, hoe, hce⟩ := he
    have hz2 : ZipO h2 z TI TO .ellipsis g := k2 _ _ iz.symm hz₁
    have ez : e ≠ z := fun w => by
      subst w
      rw [hz2] at hoe
      cases hoe
      simp at hce
    exact wpAny_setField_rec hz2 (by simp) fun h3 _ k3 => hE h3 e (fun c o c1 c2 q => (k3.2 c c1).trans (k2 c o c2 ((hs₁.2 c c1).trans q))) ⟨oe, (k3.2 e ez).trans hoe, hce⟩
  · simp only [Bool.false_eq_true, if_false]
    rw [← Array.forIn_toList]
    refine wpAny_bind ?_
    show wpAny _ _ (forIn (Value.ref it :: ps.map fun p => Value.ref p.1) _ _) _ _ _
    rw [List.forIn_cons]
    refine wpAny_bind (wpAny_bind (wpAny_holding ?_))
    show wpAny _ _ (Builtin.SmallTypes.nextOf (.ref it) >>= _) _ _ _
    exact wpAny_bind (RZ.nextOf_tuple_end hh (hit.at fun o q => (hs₁.2 _ iz).trans q) (hl.at fun o q => (hs₁.2 _ lz).trans q) hx fun h2 e k2 he => hE h2 e (fun c o c1 c2 q => k2 c o c2 ((hs₁.2 c c1).trans q)) he)
end
end DL


set_option Elab.async false
set_option linter.all false
set_option maxRecDepth 100000
namespace DL
open PySem PySem.Spec PyProof.Rows L2
variable [TabT]
theorem newCallZ : ∀ us : List Value, us ≠ [] → us.length ≤ 5 → checkBuiltinCall "zip.__new__" ⟨.type "zip" :: us, []⟩ = pure ()
  | [], h, _ => absurd rfl h
  | [a], _, _ => by kernel_rfl
  | [a, b], _, _ => by kernel_rfl
  | [a, b, c], _, _ => by kernel_rfl
  | [a, b, c, d], _, _ => by kernel_rfl
  | [a, b, c, d, e], _, _ => by kernel_rfl
  | _ :: _ :: _ :: _ :: _ :: _ :: _, _, h => by simp at h
theorem typeCallZ (us : List Value) : checkTypeCall "zip" ⟨us, []⟩ = pure () := by kernel_rfl
theorem argsInitZ (us : List Value) (o : Value) : argsOk "object.__init__" ⟨o :: us, []⟩ := by
  unfold argsOk
  rw [signature?_of (id := "object.__init__") (n := ['_', '_', 't', 'i', 'n', 'i', '_', '_']) (o := ['t', 'c', 'e', 'j', 'b', 'o']) (by kernel_rfl) F.owner_object]
  kernel_rfl
section
variable {prog : Program} {w : World} {A : Around} {E : Value → Shared → Prop} {s : Shared}
structure ItsZ (s : Shared) (h' : Heap) (its as : List Addr) : Prop where
  len : its.length = as.length
  it : ∀ (k : Nat) (t a : Addr), its[k]? = some t → as[k]? = some a → h'.IsTupleIter t a 0
  nd : its.Nodup
  lo : ∀ t ∈ its, s.heap.objs.size ≤ t ∧ t < h'.objs.size
  le : s.heap.objs.size ≤ h'.objs.size
  kp : ∀ c o, s.heap.get? c = some o → h'.get? c = some o
theorem iterAll_any {as : List Addr} {Q : List Value → Shared → Prop} (ht : ∀ a ∈ as, ∃ ar, s.heap.IsTuple a ar) (k : ∀ h' its, ItsZ s h' its as → Q (its.map Value.ref) { s with heap := h' }) :
    wpAny (model prog w) A (Builtin.SmallTypes.iterAll (as.map Value.ref)) Q E s := by
  unfold Builtin.SmallTypes.iterAll
  refine wpAny_bind ?_
  refine loop_walk (fun rest b s' => ∃ h' its done todo, as = done ++ todo ∧ rest = todo.map Value.ref ∧ b = (its.map Value.ref).toArray ∧ s' = { s with heap := h' } ∧ ItsZ s h' its done) (fun x rest b s' h => ?_) (fun b s' h => ?_) _ _ _ ⟨s.heap, [], [], as, rfl, rfl, rfl, rfl, rfl, (by intro k t a h; simp at h), List.nodup_nil, (by intro t h; cases h), Nat.le_refl _, fun _ _ e => e⟩
  · obtain ⟨h', its, done, todo, ea, er, rfl, rfl, I⟩ := h
    cases todo with
    | nil => cases er
    | cons a todo =>
      rw [List.map_cons] at er
      injection er with ex er
      subst ex er
      obtain ⟨ar, har⟩ := ht a (by rw [ea]; simp)
      refine wpAny_bind (wpAny_holding (wpAny_pyIter_tuple (s := { s with heap := h' }) (har.at fun o e => I.kp a o e) ?_))
      have hn : (h'.push { cls := .type "tuple_iterator", data := .fields #[.ref a, .int 0 0] }).objs.size = h'.objs.size + 1 := Heap.size_push ..
      have il := I.len
      refine wpAny_pure ⟨_, rfl, _, its ++ [h'.objs.size], done ++ [a], todo, by rw [ea, List.append_assoc]; rfl, rfl, by simp, rfl, ⟨by simp [il], fun k t b h1 h2 => ?_, ?_, fun t ht => ?_, by rw [hn]; have := I.le; omega, fun c o e => Heap.get?_push_of_some _ (I.kp c o e)⟩⟩
      · by_cases hk : k < its.length
        · rw [List.getElem?_append_left hk] at h1
          rw [List.getElem?_append_left (by omega)] at h2
          exact (I.it k t b h1 h2).at fun o e => Heap.get?_push_of_some _ e
        · have hk2 : k = its.length := by
            have := (List.getElem?_eq_some_iff.mp h1).1
            simp at this
            omega
          subst hk2
          rw [List.getElem?_append_right (Nat.le_refl _), Nat.sub_self] at h1
          rw [List.getElem?_append_right (by omega), show its.length - done.length = 0 by omega] at h2
          cases h1
          cases h2
          exact ⟨_, Heap.get?_push_size _ rfl, rfl, rfl⟩
      · refine List.nodup_append.mpr ⟨I.nd, by simp, fun x hx y hy e => ?_⟩
        have := (I.lo x hx).2
        rw [List.mem_singleton.mp hy] at e
        rw [e] at this
        exact Nat.lt_irrefl _ this
      · rw [hn]
        rcases List.mem_append.mp ht with h | h
        · exact ⟨(I.lo t h).1, Nat.lt_succ_of_lt (I.lo t h).2⟩
        · rw [List.mem_singleton.mp h]
          exact ⟨I.le, Nat.lt_succ_self _⟩
  · obtain ⟨h', its, done, todo, ea, er, rfl, rfl, I⟩ := h
    have : todo = [] := by
      cases todo with
      | nil => rfl
      | cons a t => cases er
    subst this
    rw [List.append_nil] at ea
    subst ea
    exact wpAny_pure (k h' its I)
theorem newZ {as : List Addr} :
    PySem.Meets (Builtin.«zip.__new__» ⟨.type "zip" :: as.map Value.ref, []⟩) (fun _ R s => (∀ a ∈ as, ∃ ar, s.heap.IsTuple a ar) ∧ as.length ≤ 1000 ∧ ∀ h1 h' its z TI TO, ItsZ s h1 its as → (∀ c o, h1.get? c = some o → h'.get? c = some o) → z = h1.objs.size + 2 → TI = h1.objs.size → TO = h1.objs.size + 1 →
      ZipO h' z TI TO .none false → TupO h' TI (its.map Value.ref).toArray → TupO h' TO (its.map fun _ => Value.none).toArray → R (.ok (.ret (.ref z))) { s with heap := h' }) :=
  .of_wp fun prog w A R s h => by
    obtain ⟨hp, g, d, tk, os⟩ := s
    obtain ⟨ht, hl, hR⟩ := h
    have hsub := sub_zip
    have hsl : (1000 : Nat) ≤ sizeLine := by decide
    have main : ∀ {B : Around} {E : Value → Shared → Prop} {Q : List Value → Shared → Prop}, (∀ h1 its, ItsZ ⟨hp, g, d, tk, os⟩ h1 its as → Q (its.map Value.ref) ⟨h1, g, d, tk, os⟩) → wpAny (model prog w) B (Builtin.SmallTypes.iterAll (as.map Value.ref)) Q E ⟨hp, g, d, tk, os⟩ := fun k => iterAll_any ht k
    wp_walk using main
    intro h1 its I
    have il := I.len
    have nil : its.map (fun _ => Value.none) = (its.map Value.ref).map fun _ => Value.none := by rw [List.map_map]; rfl
    refine wpAny_bind (wpAny_newTuple ?_ (by rw [List.length_map]; omega))
    refine wpAny_bind (wpAny_newTuple ?_ (by rw [List.length_map, List.length_map]; omega))
    rw [← nil]
    have z1 : (h1.push { cls := .type "tuple", data := .seq (its.map Value.ref).toArray }).objs.size = h1.objs.size + 1 := Heap.size_push ..
    have z2 : ((h1.push { cls := .type "tuple", data := .seq (its.map Value.ref).toArray }).push { cls := .type "tuple", data := .seq (its.map fun _ => Value.none).toArray }).objs.size = h1.objs.size + 2 := by rw [Heap.size_push, z1]
    show wpAny _ _ (newObj (.type "zip") (.fields #[.none, .bool false, .bool false, .ref h1.objs.size, .ref (h1.push { cls := .type "tuple", data := .seq (its.map Value.ref).toArray }).objs.size]) >>= _) _ _ _
    refine wpAny_bind (wpAny_newObj_type (wpAny_pure ⟨_, rfl, ?_⟩))
    refine hR h1 _ its _ h1.objs.size (h1.objs.size + 1) I (fun c o e => Heap.get?_push_of_some _ (Heap.get?_push_of_some _ (Heap.get?_push_of_some _ e))) z2 rfl rfl ?_ (Heap.get?_push_of_some _ (Heap.get?_push_of_some _ (Heap.get?_push_size _ rfl))) ?_
    · rw [← z1]
      exact Heap.get?_push_size _ rfl
    · rw [← z1]
      exact Heap.get?_push_of_some _ (Heap.get?_push_size _ rfl)
theorem callZ {as : List Addr} {Q : Value → Shared → Prop} (ht : ∀ a ∈ as, ∃ ar, s.heap.IsTuple a ar) (h0 : as ≠ []) (hl : as.length ≤ 5)
    (h : ∀ h1 h' its (z TI TO : Addr), ItsZ s h1 its as → (∀ c o, h1.get? c = some o → h'.get? c = some o) → z = h1.objs.size + 2 → TI = h1.objs.size → TO = h1.objs.size + 1 →
      ZipO h' z TI TO .none false → TupO h' TI (its.map Value.ref).toArray → TupO h' TO (its.map fun _ => Value.none).toArray → Q (.ref z) { s with heap := h' }) :
    wpAny (model prog w) A (call (.type "zip") (as.map Value.ref)) Q E s := by
  refine callType_new F.called_zip (by decide) (typeCallZ _) (newCallZ _ (by simp [h0]) (by rw [List.length_map]; exact hl)) (fun obj => argsInitZ _ obj) F.entry_zip_new newZ ⟨ht, by omega, fun h1 h' its z TI TO I k ez e1 e2 qz q1 q2 => ?_⟩
  exact ⟨⟨_, qz, rfl⟩, h h1 h' its z TI TO I k ez e1 e2 qz q1 q2⟩
theorem callWith_typeS {M : Model} {A : Around} {E : Value → Shared → Prop} {s : Shared} {env : Env} {pos p : Pos} {T : String} {e : Expr} {Q : Value → Shared → Prop}
    (h : wpAny M A (eval e env) (fun v s₁ => PySem.W.StarOf M A E v (fun vs s₂ => wpAny M A (call (.type T) vs) Q E s₂) s₁) E s)
    (he : starEach [.Starred e p] env = [(true, eval e env)] := by rfl) : wpAny M A (callWith pos (.type T) [] (backTo pos (starEach [.Starred e p] env)) []) Q E s := by
  rw [he]
  unfold callWith
  refine wpAny_bind (wpAny_holding (wpAny_mono (PySem.W.ks_lone (Q := fun (a : Args) s₂ => wpAny M A (call (.type T) a.pos a.kw) Q E s₂) h) (fun a s₁ h₁ => wpAny_bind (wpAny_standAt ?_)) fun _ _ q => q))
  refine wpAny_bind (wpAny_pure ?_)
  exact wpAny_bind (wpAny_mono (wpAny_operating h₁) (fun r s₂ hr => wpAny_bind (wpAny_holding (wpAny_point (wpAny_pure hr)))) fun _ _ q => q)
end
/-! ### the walk -/
inductive RowV (K : PySem.W.Frag) (H : Hp) (i : Nat) : List Addr → List V → Prop
  | nil : RowV K H i [] []
  | cons {a : Addr} {xs vs : List V} {x : V} {as : List Addr} : SqT K H a xs → xs[i]? = some x → RowV K H i as vs → RowV K H i (a :: as) (x :: vs)
def ItN (K : PySem.W.Frag) (as : List Addr) : It where
  go i H := ∃ vs, RowV K H i as vs
  yld i H v H' := ∃ T vs, v = .ref T ∧ H T = none ∧ H' = upd H T (.tup vs) ∧ vs.length = as.length ∧ ∀ (k : Nat) (a : Addr) (xs : List V), as[k]? = some a → SqT K H a xs → ∃ x, vs[k]? = some x ∧ xs[i]? = some x
  stop i H := ∃ (a : Addr) (xs : List V) (rest : List Addr), as = a :: rest ∧ SqT K H a xs ∧ xs.length = i
/-- how the zip object stands ahead of the turn i -/
structure TnZ (z TI TO : Addr) (ps : List (Addr × Addr)) (i : Nat) (h : Heap) : Prop where
  zo : ∃ v g, ZipO h z TI TO v g ∧ (v = .none ∨ ∃ a : Nat, v = rawInt (a : Int))
  ti : TupO h TI (ps.map fun p => Value.ref p.1).toArray
  to : ∃ ar, TupO h TO ar ∧ ar.size = ps.length
  it : ∀ p ∈ ps, h.IsTupleIter p.1 p.2 i
theorem RowV.length {K : PySem.W.Frag} {H : Hp} {i : Nat} : ∀ {as : List Addr} {vs : List V}, RowV K H i as vs → vs.length = as.length
  | _, _, .nil => rfl
  | _, _, .cons _ _ r => by rw [List.length_cons, List.length_cons, RowV.length r]
theorem RowV.get {K : PySem.W.Frag} {H : Hp} {i : Nat} {X : Cx} {pins : List (Addr × Obj)} {σ : L2.St} {s : Shared} (I : Inv X pins σ H s) (hK : X.K = K) : ∀ {as : List Addr} {vs : List V}, RowV K H i as vs → ∀ (k : Nat) (a : Addr) (xs : List V), as[k]? = some a → SqT K H a xs → ∃ x, vs[k]? = some x ∧ xs[i]? = some x
  | _, _, .nil, k, a, xs, h, _ => by simp at h
  | _, _, .cons q e r, 0, a, xs, h, hs => by
    cases h
    subst hK
    exact ⟨_, rfl, by rw [I.tuple_inj hs q]; exact e⟩
  | _, _, .cons q e r, k + 1, a, xs, h, hs => RowV.get I hK r k a xs h hs
theorem RowV.rowZ {K : PySem.W.Frag} {H : Hp} {i : Nat} {X : Cx} {pins : List (Addr × Obj)} {σ : L2.St} {s : Shared} (I : Inv X pins σ H s) (hK : X.K = K) : ∀ {ps : List (Addr × Addr)} {vs : List V}, RowV K H i (ps.map Prod.snd) vs → (∀ p ∈ ps, s.heap.IsTupleIter p.1 p.2 i) → ∃ us, RowZ s.heap i ps us ∧ Vals vs us
  | [], _, .nil, _ => ⟨[], .nil, .nil⟩
  | (t, a) :: ps, _, .cons q e r, hp => by
    obtain ⟨us, r1, r2⟩ := RowV.rowZ I hK r fun p h => hp p (List.mem_cons_of_mem _ h)
    subst hK
    obtain ⟨its, rv, isT, _⟩ := I.tuple q
    obtain ⟨u, hu, ru⟩ := rv.get e
    exact ⟨u :: us, .cons (hp (t, a) (List.mem_cons_self ..)) isT (by simpa using hu) r1, .cons ru r2⟩
theorem iter_ZipO {prog : Program} {w : World} {A : Around} {E : Value → Shared → Prop} {s : Shared} {z TI TO : Addr} {v : Value} {g : Bool} {Q : Value → Shared → Prop} (hz : ZipO s.heap z TI TO v g) (h : Q (.ref z) s) : wpAny (model prog w) A (pyIter (.ref z)) Q E s := by
  have ty : s.TypeIs (.ref z) "zip" := ⟨_, hz, rfl⟩
  exact wpAny_pyIter_slot ty F.slot_zip_iter (wpAny_call_entry F.slot_zip_iter ty F.entry_zip_iter (show wpAny _ _ (ret (.ref z)) _ _ s from wpAny_pure ⟨_, rfl, "zip", _, ty, F.slot_zip_next.lookup, h⟩) (F.args_zip_iter_1 _))
theorem turn_zipN {P : Program} {w : World} {K : PySem.W.Frag} {x : Str} {tpos : Pos} {z TI TO : Addr} {ps : List (Addr × Addr)} (D : ApartZ z TI TO ps) (h0 : ps ≠ []) (hl : ps.length ≤ 1000) :
    Turn P w K (.Name x tpos) (ItN K (ps.map Prod.snd)) (z :: TI :: TO :: ps.map Prod.fst) z (TnZ z TI TO ps) where
  mem := List.mem_cons_self ..
  obj := fun i h st c hc => by
    rcases List.mem_cons.mp hc with q | hc
    · obtain ⟨v, g, e, _⟩ := st.zo
      rw [q]
      exact ⟨_, e, fun v q => nomatch q⟩
    · rcases List.mem_cons.mp hc with q | hc
      · rw [q]
        exact ⟨_, st.ti, fun v q => nomatch q⟩
      · rcases List.mem_cons.mp hc with q | hc
        · obtain ⟨ar, e, _⟩ := st.to
          rw [q]
          exact ⟨_, e, fun v q => nomatch q⟩
        · obtain ⟨p, hp, q⟩ := List.mem_map.mp hc
          obtain ⟨o, e, _, d⟩ := st.it p hp
          rw [← q]
          exact ⟨o, e, fun v q => by rw [d] at q; cases q⟩
  keep := fun i h h' st k => by
    obtain ⟨v, g, e, hv⟩ := st.zo
    obtain ⟨ar, e2, ha⟩ := st.to
    exact ⟨⟨v, g, k z (List.mem_cons_self ..) _ e, hv⟩, k TI (by simp) _ st.ti, ⟨ar, k TO (by simp) _ e2, ha⟩, fun p hp => (st.it p hp).at fun o q => k p.1 (by simp only [List.mem_cons]; exact .inr (.inr (.inr (List.mem_map.mpr ⟨p, hp, rfl⟩)))) o q⟩
  item := by
    intro X hP hw hK hc i pins s σ H E I hf st hg
    subst hP hw hK
    obtain ⟨v, g, hz, hv⟩ := st.zo
    obtain ⟨ar, hTO, ha⟩ := st.to
    obtain ⟨vs, rv⟩ := hg
    obtain ⟨us, rz, ru⟩ := rv.rowZ I rfl st.it
    have hTy : s.TypeIs (.ref z) "zip" := ⟨_, hz, rfl⟩
    have ul := rz.length
    unfold pyNext
    refine wpAny_bind (wpAny_attempt (wpAny_callSpecial?_slot (name := Str.ofString "__next__") hTy F.slot_zip_next (wpAny_call_entry F.slot_zip_next hTy F.entry_zip_next (zipN_next D hz hv st.ti hTO ha h0 hl rz fun h' v' g' ar' q1 q2 q3 q4 q5 q6 q7 q8 => ?_) (F.args_zip_next_1 _))))
    refine wpAny_pure ⟨_, rfl, wpAny_pure ?_⟩
    have new : ObjOk X.prog X.w (upd H s.heap.objs.size (.tup vs)) h' s.heap.objs.size (.tup vs) := ⟨by
      show vs.length ≤ sizeLine
      rw [ru.length, ← ul]
      exact Nat.le_trans hl (by decide), us, ru, ⟨_, q6, rfl, _, rfl⟩⟩
    have I1 : Inv X pins σ (upd H s.heap.objs.size (.tup vs)) { s with heap := h' } :=
      I.turnedNew (t' := s.toks) (ch := z :: TI :: TO :: ps.map Prod.fst) (fun c o hb q => q8 c o (fun w => hb (by simp [w])) (fun w => hb (by simp [w])) (fun w => hb (by simp only [List.mem_cons]; exact .inr (.inr (.inr w)))) q) hf (Nat.le_refl _) new
    refine ⟨.ref s.heap.objs.size, _, I1, rfl, ⟨_, vs, rfl, I.hok.fresh (Nat.le_refl _), rfl, rv.length, rv.get I rfl⟩, ⟨⟨v', g', q1, .inr q2⟩, q8 _ _ D.tiz D.tito (fun w => ?_) st.ti, ⟨ar', q3, q4⟩, q5⟩, fun c hcm => ?_⟩
    · obtain ⟨p, hp, q⟩ := List.mem_map.mp w
      exact (D.iz p hp).2.1 q
    · have hlt : c < s.heap.objs.size := by
        rcases List.mem_cons.mp hcm with q | hcm
        · rw [q]; exact Heap.lt_size hz
        · rcases List.mem_cons.mp hcm with q | hcm
          · rw [q]; exact Heap.lt_size st.ti
          · rcases List.mem_cons.mp hcm with q | hcm
            · rw [q]; exact Heap.lt_size hTO
            · obtain ⟨p, hp, q⟩ := List.mem_map.mp hcm
              obtain ⟨_, e1, _⟩ := st.it p hp
              rw [← q]
              exact Heap.lt_size e1
      rw [upd_ne (Nat.ne_of_lt hlt)]
      exact (hf c hcm).1
  done := by
    intro X hP hw hK hc i pins s σ H E I hf st hg
    subst hP hw hK
    obtain ⟨v, g, hz, hv⟩ := st.zo
    obtain ⟨ar, hTO, ha⟩ := st.to
    obtain ⟨a, xs, rest, e, hq, hx⟩ := hg
    cases ps with
    | nil => exact absurd rfl h0
    | cons p ps =>
      obtain ⟨t, b⟩ := p
      injection e with e1 e2
      obtain rfl : b = a := e1
      obtain ⟨its, rv, isT, _⟩ := I.tuple hq
      have l1 := rv.length
      have hTy : s.TypeIs (.ref z) "zip" := ⟨_, hz, rfl⟩
      unfold pyNext
      refine wpAny_bind (wpAny_attempt (wpAny_callSpecial?_slot (name := Str.ofString "__next__") hTy F.slot_zip_next (wpAny_call_entry F.slot_zip_next hTy F.entry_zip_next (zipN_stop (I.ok.hd hc) D hz hv st.ti hTO (st.it _ (List.mem_cons_self ..)) isT (by simp; omega) fun h' e hk he => ?_) (F.args_zip_next_1 _))))
      obtain ⟨o, ho, hcl⟩ := he
      refine wpAny_bind (wpAny_isInstance (T := "StopIteration") (b := true) ⟨o, ho, hcl⟩ isSubtype_stop ?_)
      exact wpAny_pure ⟨rfl, I.turnedL (t' := s.toks) (ch := z :: TI :: TO :: t :: ps.map Prod.fst) (fun c o hb q => hk c o (fun w => hb (by simp [w])) (fun w => hb (by simp [w])) q) hf⟩
  self := fun A i s Q E st h => by
    obtain ⟨v, g, hz, hv⟩ := st.zo
    exact iter_ZipO hz h
def iZipN (K : PySem.W.Frag) (te : TE) : TI := fun σ H R => te σ H fun y H1 => ∃ a, ∃ as : List Addr, y = .ref a ∧ SqT K H1 a (as.map V.ref) ∧ as ≠ [] ∧ as.length ≤ 5 ∧ (∀ b ∈ as, ∃ xs, SqT K H1 b xs) ∧ R (ItN K as) H1
theorem vals_refs : ∀ {as : List Addr} {us : List Value}, Vals (as.map V.ref) us → us = as.map Value.ref
  | [], _, .nil => rfl
  | a :: as, _, .cons r h => by
    cases r
    rw [vals_refs h]
    rfl
theorem zip_fst : ∀ {its as : List Addr}, its.length = as.length → (its.zip as).map Prod.fst = its ∧ (its.zip as).map Prod.snd = as
  | [], [], _ => ⟨rfl, rfl⟩
  | t :: its, a :: as, h => by
    obtain ⟨h1, h2⟩ := zip_fst (its := its) (as := as) (by simpa using h)
    exact ⟨by rw [List.zip_cons_cons, List.map_cons, h1], by rw [List.zip_cons_cons, List.map_cons, h2]⟩
theorem pi_zipN {X : Cx} {e : Expr} {te : TE} {x : Str} {p pos tpos sp : Pos} (hg : Gl X "zip") (hm : X.mg "zip" = none) (he : PE X e te) (hs : starEach [.Starred e sp] X.env = [(true, eval e X.env)] := by rfl) :
    PI X (.Name x tpos) (.Call (.Name "zip" p) [.Starred e sp] [] pos) (iZipN X.K te) := by
  refine ⟨fun pins s σ H R I h => ?_⟩
  refine Call_ (ld_blt I hg hm PyProof.Rows.boot_zip (callWith_typeS (thn (he.run pins s σ H _ I h) fun v s1 got => ?_) hs))
  obtain ⟨y, H1, I1, rel, a, as, rfl, hxs, h0, h4, hts, q⟩ := got
  obtain rfl : v = Value.ref a := rel
  refine star_tup I1 hxs fun us s2 I2 rv => ?_
  rw [vals_refs rv]
  have ht : ∀ b ∈ as, ∃ ar, s2.heap.IsTuple b ar := fun b hb => by
    obtain ⟨xs, hx⟩ := hts b hb
    obtain ⟨its, _, isT, _⟩ := I2.tuple hx
    exact ⟨_, isT⟩
  refine callZ ht h0 h4 fun h1 h' its z TI TO J k ez e1 e2 qz q1 q2 => iter_ZipO (s := { s2 with heap := h' }) qz ?_
  have il := J.len
  obtain ⟨f1, f2⟩ := zip_fst il
  have old : ∀ b ∈ as, b < s2.heap.objs.size := fun b hb => by
    obtain ⟨ar, o, ho, _⟩ := ht b hb
    exact Heap.lt_size ho
  have I3 : Inv X pins σ H1 { s2 with heap := h' } := I2.kept (t' := s2.toks) fun c o q => k c o (J.kp c o q)
  have tz : ∀ t ∈ its, t < h1.objs.size := fun t ht => (J.lo t ht).2
  have n1 : TI ≠ z := by rw [e1, ez]; exact Nat.ne_of_lt (by omega)
  have n2 : TO ≠ z := by rw [e2, ez]; exact Nat.ne_of_lt (by omega)
  have n3 : TI ≠ TO := by rw [e1, e2]; exact Nat.ne_of_lt (by omega)
  have gz : h1.objs.size ≤ z := by rw [ez]; exact Nat.le_add_right _ _
  have gi : h1.objs.size ≤ TI := by rw [e1]; exact Nat.le_refl _
  have go : h1.objs.size ≤ TO := by rw [e2]; exact Nat.le_add_right _ _
  have D : ApartZ z TI TO (its.zip as) := by
    refine ⟨n1, n2, n3, by rw [f1]; exact J.nd, fun p hp => ?_, fun p hp => ?_⟩
    · have m : p.1 ∈ its := (List.of_mem_zip hp).1
      have := tz _ m
      exact ⟨Nat.ne_of_lt (Nat.lt_of_lt_of_le this gz), Nat.ne_of_lt (Nat.lt_of_lt_of_le this gi), Nat.ne_of_lt (Nat.lt_of_lt_of_le this go)⟩
    · have m : p.2 ∈ as := (List.of_mem_zip hp).2
      have l2 := Nat.lt_of_lt_of_le (old _ m) J.le
      refine ⟨Nat.ne_of_lt (Nat.lt_of_lt_of_le l2 gz), Nat.ne_of_lt (Nat.lt_of_lt_of_le l2 go), fun w => ?_⟩
      rw [f1] at w
      exact Nat.lt_irrefl _ (Nat.lt_of_lt_of_le (old _ m) (J.lo _ w).1)
  have fresh : ∀ c ∈ z :: TI :: TO :: (its.zip as).map Prod.fst, FpOk X pins H1 c := fun c hc => by
    have ge : s2.heap.objs.size ≤ c := by
      rcases List.mem_cons.mp hc with q | hc
      · rw [q]; exact Nat.le_trans J.le gz
      · rcases List.mem_cons.mp hc with q | hc
        · rw [q]; exact Nat.le_trans J.le gi
        · rcases List.mem_cons.mp hc with q | hc
          · rw [q]; exact Nat.le_trans J.le go
          · rw [f1] at hc
            exact (J.lo _ hc).1
    exact I2.fpOk ge (I2.hok.fresh ge)
  have zl : (its.zip as).length = its.length := by rw [List.length_zip, il, Nat.min_self]
  refine ⟨z, z :: TI :: TO :: (its.zip as).map Prod.fst, TnZ z TI TO (its.zip as), ItN X.K ((its.zip as).map Prod.snd), H1, rfl, I3, turn_zipN D (fun w => ?_) (by rw [zl, il]; omega), ⟨⟨_, _, qz, .inl rfl⟩, ?_, ⟨_, q2, by rw [zl]; simp⟩, fun p hp => ?_⟩, fresh, by rw [f2]; exact q⟩
  · rw [w] at f2
    exact h0 f2.symm
  · have : (its.zip as).map (fun p => Value.ref p.1) = its.map Value.ref := by
      rw [show (fun p : Addr × Addr => Value.ref p.1) = Value.ref ∘ Prod.fst from rfl, ← List.map_map, f1]
    rw [this]
    exact q1
  · obtain ⟨n, hn⟩ := List.mem_iff_getElem?.mp hp
    rw [List.getElem?_zip_eq_some] at hn
    exact (J.it n _ _ hn.1 hn.2).at fun o q => k _ o q
end DL


set_option Elab.async false
set_option linter.all false
set_option maxRecDepth 100000
namespace DL
open PySem PySem.Spec PyProof.Rows L2
variable [TabT]
theorem walk_zipN {K : PySem.W.Frag} {as : List Addr} {m : Nat} (h0 : as ≠ []) : Walk (ItN K as) m (fun H => ∀ a ∈ as, ∃ xs : List V, SqT K H a xs ∧ xs.length = m) (fun i H v H' => (ItN K as).yld i H v H') where
  goes i H hi q := by
    clear h0
    induction as with
    | nil => exact ⟨[], .nil⟩
    | cons a as ih =>
      obtain ⟨vs, r⟩ := ih fun b hb => q b (List.mem_cons_of_mem _ hb)
      obtain ⟨xs, hx, hl⟩ := q a (List.mem_cons_self ..)
      exact ⟨xs[i] :: vs, .cons hx (List.getElem?_eq_getElem (by omega)) r⟩
  stops H q := by
    cases as with
    | nil => exact absurd rfl h0
    | cons a as =>
      obtain ⟨xs, hx, hl⟩ := q a (List.mem_cons_self ..)
      exact ⟨a, xs, as, rfl, hx, hl⟩
  yields i H v H' _ _ y := y
theorem DaAll.tups {z : Z} {H : Hp} : ∀ {xs : List V} {rows : List (List PyData)}, DaAll z H xs (rows.map PyData.tuple) → ∃ as : List Addr, xs = as.map V.ref ∧ as.length = rows.length ∧ ∀ (k : Nat) (b : Addr) (r : List PyData), as[k]? = some b → rows[k]? = some r → ∃ ys, Fz z b ∧ H b = some (.tup ys) ∧ DaAll z H ys r
  | [], [], .nil => ⟨[], rfl, rfl, fun k b r h => by simp at h⟩
  | _ :: xs, r :: rows, .cons h q => by
    obtain ⟨as, e, l, f⟩ := DaAll.tups q
    cases h with
    | @tup a ys _ fa ha hr =>
      refine ⟨a :: as, by rw [e]; rfl, by simp [l], fun k b r' h1 h2 => ?_⟩
      cases k with
      | zero =>
        cases h1
        cases h2
        exact ⟨ys, fa, ha, hr⟩
      | succ k => exact f k b r' h1 h2
/-- the told column -/
def colD (rows : List (List PyData)) (i : Nat) : PyData := .tuple (rows.map fun r => r.getD i .none)
section
variable {X : Cx} {z : Z} {es : List Sl} {s : S} {iter elt a e : Expr} {pos p p1 p2 p3 p4 : Pos}
/-- over zip( *rows) -/
theorem lc_readN {te : TE} {j : Nat} {rows : List (List PyData)} {m : Nat} (f : PyData → PyData) (hit : EV X z e es s (.tuple (rows.map PyData.tuple)) s) (h0 : rows ≠ []) (h4 : rows.length ≤ 5) (hw : ∀ r ∈ rows, r.length = m) (hl : m ≤ 100000)
    (He : ∀ (z' : Z) (i : Nat), i < m → ∀ σ H, En z' H σ (es.set j (.val (colD rows i))) → At z' H s → ∀ Q : VK, (∀ v H2, Ez z' H H2 → At z' H2 s → Da z' H2 v (f (colD rows i)) → Q v H2) → te σ H Q) :
    ∀ σ H, En z H σ es → At z H s → ∀ Q : VK, (∀ v H2, Ez z H H2 → At z H2 s → Da z H2 v (.list ((List.range m).map fun i => f (colD rows i))) → Q v H2) → tLc (iZipN X.K (wE X e)) (gName j) tYes te [j] σ H Q := fun σ H en at_ Q q => by
    refine hit σ H en at_ _ fun v H1 e1 a1 v1 => ?_
    cases v1 with
    | @tup a xs _ fa ha r =>
      obtain ⟨as, rfl, al, ff⟩ := r.tups
      have row : ∀ {k : Nat} {b : Addr}, as[k]? = some b → ∃ r, rows[k]? = some r := fun {k b} h => by
        have := (List.getElem?_eq_some_iff.mp h).1
        exact ⟨_, List.getElem?_eq_getElem (by omega)⟩
      have tupAt : ∀ b ∈ as, ∃ ys, Fz z b ∧ H1 b = some (.tup ys) ∧ ys.length = m := fun b hb => by
        obtain ⟨k, hk⟩ := List.mem_iff_getElem?.mp hb
        obtain ⟨r, hr⟩ := row hk
        obtain ⟨ys, fb, hy, dy⟩ := ff k b r hk hr
        exact ⟨ys, fb, hy, by rw [dy.length]; exact hw r (List.mem_of_getElem? hr)⟩
      have as0 : as ≠ [] := fun w => by
        rw [w] at al
        exact h0 (List.length_eq_zero_iff.mp al.symm)
      refine ⟨a, as, rfl, .inl (.inl ha), as0, by omega, fun b hb => ?_, fun D hD => ?_⟩
      · obtain ⟨ys, _, hy, _⟩ := tupAt b hb
        exact ⟨ys, .inl (.inl hy)⟩
      · refine lc_all (g := gName j) (ws := [j]) (walk_zipN (K := X.K) (m := m) as0) (fun _ => s) (fun _ => s) a1 hD (fun i => es.set j (.val (colD rows i))) (fun H' e b hb => ?_) (fun i x H' H2 o hi e2 hy a2 Q q => ?_) hl (fun _ => true) (fun i => (List.range i).map fun i => f (colD rows i)) rfl (fun z' i hi σ H en at_ Q q => q H (.refl H) at_)
          (fun z' i hi _ => ⟨f (colD rows i), by rw [List.range_succ, List.map_append]; rfl, He z' i hi⟩) (fun i _ h => by cases h) (fun H' e a2 d2 => q _ H' (e1.trans e) a2 d2)
        · obtain ⟨ys, fb, hy, hl⟩ := tupAt b hb
          exact ⟨ys, .inl (.inl (e b _ fb hy)), hl⟩
        · obtain ⟨t, vs, rfl, nt, rfl, vl, hv⟩ := hy
          have e3 : Ez (z.add D o) H' (upd H' t (.tup vs)) := .new nt
          have reach : ∀ (b : Addr) (u : HO), Fz z b → H1 b = some u → Fz (z.add D o) b ∧ (upd H' t (.tup vs)) b = some u := fun b u fb hb => by
            have f1 := fb.to_add (o := o) (ne_of_none hb hD)
            exact ⟨f1, e3 b u f1 (e2 b u fb hb)⟩
          have es2 : (wipe σ [j]).set j (some (.ref t)) = σ.set j (some (.ref t)) := by
            show (σ.set j none).set j (some _) = _
            rw [List.set_set]
          show Q ((wipe σ [j]).set j (some (.ref t))) _
          rw [es2]
          have en0 : En (z.add D o) (upd H' t (.tup vs)) σ es := En.re (z := z) (z' := z.add D o) rfl (fun q h => List.mem_cons_of_mem _ h) reach (en.mono e1)
          refine q _ _ (by
            show (σ.set j (some _)).set j none = σ.set j none
            rw [List.set_set]) e3 (a2.new nt) (en0.set j (.val (.tup (a2.fresh nt) upd_same ?_)))
          have gen : ∀ {vs : List V} {ds : List PyData}, vs.length = ds.length → (∀ (k : Nat) (v : V) (d : PyData), vs[k]? = some v → ds[k]? = some d → Da (z.add D o) (upd H' t (.tup vs)) v d) → True := fun _ _ => trivial
          have all : ∀ (hh : Hp) {vs : List V} {ds : List PyData}, vs.length = ds.length → (∀ (k : Nat) (v : V) (d : PyData), vs[k]? = some v → ds[k]? = some d → Da (z.add D o) hh v d) → DaAll (z.add D o) hh vs ds := by
            intro hh vs
            induction vs with
            | nil =>
              intro ds h _
              cases ds with
              | nil => exact .nil
              | cons _ _ => simp at h
            | cons v vs ih =>
              intro ds h k
              cases ds with
              | nil => simp at h
              | cons d ds => exact .cons (k 0 v d rfl rfl) (ih (by simpa using h) fun n v d h1 h2 => k (n + 1) v d h1 h2)
          refine all _ (by rw [vl, al, List.length_map]) fun k v d h1 h2 => ?_
          rw [List.getElem?_map] at h2
          obtain ⟨b, hb⟩ : ∃ b, as[k]? = some b := ⟨_, List.getElem?_eq_getElem (by have := (List.getElem?_eq_some_iff.mp h1).1; omega)⟩
          obtain ⟨r, hr⟩ := row hb
          obtain ⟨ys, fb, hyb, dy⟩ := ff k b r hb hr
          rw [hr] at h2
          cases h2
          obtain ⟨x, hx1, hx2⟩ := hv k b ys hb (.inl (.inl (e2 b _ fb hyb)))
          rw [h1] at hx1
          cases hx1
          obtain ⟨d, hd, dd⟩ := dy.getV i v hx2
          show Da _ _ v (r.getD i .none)
          have : r.getD i .none = d := by
            rw [List.getD_eq_getElem?_getD, hd]
            rfl
          rw [this]
          exact dd.re reach
/-- [e for x in zip( *rows)] -/
theorem ev_lcN {j : Nat} {x : Str} {scope : Scope} {rows : List (List PyData)} {m : Nat} (hc : X.calm = true) (hN : X.N.Nodup) (hm : X.mg "zip" = none) (f : PyData → PyData) (hit : EV X z e es s (.tuple (rows.map PyData.tuple)) s) (h0 : rows ≠ []) (h4 : rows.length ≤ 5) (hw : ∀ r ∈ rows, r.length = m) (hl : m ≤ 100000)
    (hB : BlkOk X.N X.env.scope scope [(x, j)]) (hg : PgIn X scope (.Name x p) (gName j))
    (He : ∀ i : Nat, i < m → ∀ z' : Z, Blk X scope fun Y => EV Y z' elt (es.set j (.val (colD rows i))) s (f (colD rows i)) s) (hgl : Gl X "zip" := by rfl) (hst : starEach [.Starred e p3] X.env = [(true, eval e X.env)] := by rfl)
    (hs : ∀ x, foldedSetIterable (.Call (.Name "zip" p1) [.Starred e p3] [] p2) X.env x = pure x := by intro _; rfl) :
    EV X z (.ListComp elt [{ target := .Name x p, iter := .Call (.Name "zip" p1) [.Starred e p3] [] p2, ifs := [], is_async := 0 }] scope pos) es s (.list ((List.range m).map fun i => f (colD rows i))) s :=
  .mk (pe_lc (own := [(x, j)]) hc hN (pi_zipN hgl hm wE_ok hst) hB hg (fun _ _ _ _ _ => pts_nil) tEl_ok hs) (lc_readN (te := tEl X scope elt) (j := j) f hit h0 h4 hw hl fun z' i hi σ H en at_ Q q s0 H0 C cl fp => He i hi z' s0 H0 C cl fp σ H en at_ Q q)
/-- y = [e for x in zip( *rows)] -/
theorem sr_lcN {j k : Nat} {x y : Str} {scope : Scope} {py spos : Pos} {rest : List Stmt} {o : Out} {rows : List (List PyData)} {m : Nat} (hc : X.calm = true) (hN : X.N.Nodup) (hm : X.mg "zip" = none) (f : PyData → PyData) (hit : EV X z e es s (.tuple (rows.map PyData.tuple)) s) (h0 : rows ≠ []) (h4 : rows.length ≤ 5) (hw : ∀ r ∈ rows, r.length = m) (hl : m ≤ 100000)
    (hB : BlkOk X.N X.env.scope scope [(x, j)]) (hg : PgIn X scope (.Name x p) (gName j))
    (He : ∀ i : Nat, i < m → ∀ z' : Z, Blk X scope fun Y => EV Y z' elt (es.set j (.val (colD rows i))) s (f (colD rows i)) s) (kk : SR X z rest (es.set k (.val (.list ((List.range m).map fun i => f (colD rows i))))) s o) (hi : X.N[k]? = some y := by rfl) (hy : List.lookup y X.env.scope.names = some NameKind.local := by rfl)
    (hsw : swapsWith (.ListComp elt [{ target := .Name x p, iter := .Call (.Name "zip" p1) [.Starred e p3] [] p2, ifs := [], is_async := 0 }] scope pos) (some (.Name y py)) spos.line X.env = pure true := by exact sw_true rfl rfl rfl (by decide +kernel)) (hgl : Gl X "zip" := by rfl) (hst : starEach [.Starred e p3] X.env = [(true, eval e X.env)] := by rfl)
    (hs : ∀ x, foldedSetIterable (.Call (.Name "zip" p1) [.Starred e p3] [] p2) X.env x = pure x := by intro _; rfl) :
    SR X z (.Assign [.Name y py] (.ListComp elt [{ target := .Name x p, iter := .Call (.Name "zip" p1) [.Starred e p3] [] p2, ifs := [], is_async := 0 }] scope pos) spos :: rest) es s o := fun σ H en at_ D q =>
  ⟨_, pss_cons (ps_setLc (i := k) (own := [(x, j)]) hc hN hi hy hsw (pi_zipN hgl hm wE_ok hst) hB hg (fun _ _ _ _ _ => pts_nil) tEl_ok hs) wB_ok,
    lc_readN (te := tEl X scope elt) (j := j) f hit h0 h4 hw hl (fun z' i hi σ H en at_ Q q s0 H0 C cl fp => He i hi z' s0 H0 C cl fp σ H en at_ Q q) σ H en at_ _ fun v H2 e2 a2 v2 => kk _ H2 ((en.mono e2).set k (.val v2)) a2 D (q.mono e2)⟩
theorem rb_tupleT {K : PySem.W.Frag} {ds : List PyData} : RB z s (fun xs H Q => ∃ p ys, xs = [.ref p] ∧ ((SqL K H p ys ∧ ∀ l, H l = none → Q (.ref l) (upd H l (.tup ys))) ∨ (SqT K H p ys ∧ Q (.ref p) H))) [.tuple ds] (.tuple ds) := fun vs H at_ h Q q => by
  cases h with
  | cons h r =>
    cases r
    cases h with
    | tup n e r => exact ⟨_, _, rfl, .inr ⟨.inl (.inl e), q _ H (.refl H) at_ (.tup n e r)⟩⟩
end
end DL


set_option Elab.async false
set_option linter.all false
set_option maxRecDepth 100000
namespace DL
open PySem PySem.Spec PyProof.Rows L2
variable [TabT]
theorem At.fill {z : Z} {H : Hp} {p : Addr} {s : S} {xs : List V} (A : At z H s) (h : H p = none) : At (z.add p (.lst xs)) (upd H p (.lst xs)) s := by
  refine ⟨fun b hb => ?_, fun q hq => ?_, fun q hq => ?_, tabs_new A.t h⟩
  · rw [upd_ne (ne_of_none (A.d b hb) h)]
    exact A.d b hb
  · rcases List.mem_cons.mp hq with e | m
    · rw [e]
      exact upd_same
    · rw [upd_ne (ne_of_none (A.v q m) h)]
      exact A.v q m
  · rcases List.mem_cons.mp hq with e | m
    · rw [e]
      refine ⟨fun hd => ?_, .lst _⟩
      have := A.d p hd
      rw [this] at h
      cases h
    · exact A.n q m
theorem walk_zipT {K : PySem.W.Frag} {a b : Addr} {xs ys : List V} {n : Nat} (hn : n = min xs.length ys.length) : Walk (RZ.ItzT K a b) n (fun H => SqT K H a xs ∧ SqT K H b ys) (YPair (fun i => xs[i]?) (fun i => ys[i]?)) := by
  subst hn
  refine ⟨fun i _ hi q => ⟨xs, ys, xs[i]'(by omega), ys[i]'(by omega), q.1, q.2, List.getElem?_eq_getElem _, List.getElem?_eq_getElem _⟩, fun _ q => ⟨xs, ys, q.1, q.2, by omega⟩, fun i H v H' _ q y => ?_⟩
  obtain ⟨T, x, z, k1, k2, k3, k4, k5⟩ := y
  exact ⟨T, x, z, k1, k2, k3, k4 xs q.1, k5 ys q.2⟩
section
variable {X : Cx} {z : Z} {es es1 es2 : List Sl} {s s1 s2 s3 : S} {iter elt cond a b c e : Expr} {ds fs : List PyData} {d d1 d2 d3 : PyData} {o : Out} {rest body els : List Stmt} {pos p p1 p2 p3 p4 p5 : Pos}
/-- [e for x, y in zip(a, b)], two tuples of one length -/
theorem ev_lcZT {j k : Nat} {x y : Str} {scope : Scope} {kt : Nat} (hc : X.calm = true) (hN : X.N.Nodup) (hm : X.mg "zip" = none) (hjk : j ≠ k) (f : PyData → PyData → PyData) (hit : ED X z [a, b] es s [.tuple ds, .tuple fs] s) (hlen : ds.length = fs.length) (hl : ds.length ≤ 100000) (hB : BlkOk X.N X.env.scope scope [(x, j), (y, k)])
    (hg : PgIn X scope (.Tuple [.Name x p, .Name y p1] kt p2) (gTup X.K 2 (gCons (gName j) (gCons (gName k) gNil))))
    (He : ∀ (i : Nat) (d1 d2 : PyData), ds[i]? = some d1 → fs[i]? = some d2 → ∀ z' : Z, Blk X scope fun Y => EV Y z' elt ((es.set j (.val d1)).set k (.val d2)) s (f d1 d2) s) (hgl : Gl X "zip" := by rfl) (hst : starEach [a, b] X.env = (false, eval a X.env) :: starEach [b] X.env := by rfl) (hpl : (backTo p4 (starEach [b] X.env)).any (·.1) = false := by rfl)
    (hs : ∀ x, foldedSetIterable (.Call (.Name "zip" p3) [a, b] [] p4) X.env x = pure x := by intro _; rfl) :
    EV X z (.ListComp elt [{ target := .Tuple [.Name x p, .Name y p1] kt p2, iter := .Call (.Name "zip" p3) [a, b] [] p4, ifs := [], is_async := 0 }] scope pos) es s (.list (List.zipWith f ds fs)) s :=
  .mk (pe_lc (own := [(x, j), (y, k)]) hc hN (RZ.pi_zipA hgl hm wA_ok hst hpl) hB hg (fun _ _ _ _ _ => pts_nil) tEl_ok hs) fun σ H en at_ Q q => by
    refine hit σ H en at_ _ fun vs H1 e1 a1 v1 => ?_
    cases v1 with
    | cons h1 r =>
      cases r with
      | cons h2 r =>
        cases r
        cases h1 with
        | @tup a1' xs _ fa ha r1 =>
          cases h2 with
          | @tup b1' ys _ fb hb r2 =>
            have hx : xs.length = ds.length := r1.length
            have hy : ys.length = fs.length := r2.length
            have g1 : ∀ i, i < ds.length → ds[i]? = some (ds.getD i .none) := fun i hi => by
              rw [List.getD_eq_getElem?_getD, List.getElem?_eq_getElem hi]
              rfl
            have g2 : ∀ i, i < ds.length → fs[i]? = some (fs.getD i .none) := fun i hi => by
              rw [List.getD_eq_getElem?_getD, List.getElem?_eq_getElem (by omega)]
              rfl
            have zl : (List.zipWith f ds fs).length = ds.length := by rw [List.length_zipWith]; omega
            refine ⟨a1', b1', xs, ys, rfl, .inr ⟨.inl (.inl ha), .inl (.inl hb), fun D hD => ?_⟩⟩
            refine lc_two (K := X.K) (walk_zipT (K := X.K) (a := a1') (b := b1') (xs := xs) (ys := ys) (n := ds.length) (by omega)) (fun _ => s) (fun _ => s) (en.mono e1) a1 hD hjk (fun i => ds.getD i .none) (fun i => fs.getD i .none) (fun H' e => ⟨.inl (.inl (e _ _ fa ha)), .inl (.inl (e _ _ fb hb))⟩) (fun i x H' H2 hi eH hY => ?_) hl (fun _ => true) (fun i => (List.zipWith f ds fs).take i) rfl
              (fun z' i hi σ H en at_ Q q => q H (.refl H) at_) (fun z' i hi _ => ⟨f (ds.getD i .none) (fs.getD i .none), by
                rw [List.take_add_one, List.getElem?_zipWith, g1 i hi, g2 i hi]
                rfl, fun σ H en at_ Q q s0 H0 C cl fp => He i _ _ (g1 i hi) (g2 i hi) z' s0 H0 C cl fp σ H en at_ Q q⟩) (fun i _ h => by cases h) (fun H' e a2 d2 => ?_)
            · obtain ⟨T, u, v, rfl, nT, rfl, hu, hv⟩ := hY
              obtain ⟨d, hd, hdu⟩ := r1.getV i u hu
              obtain ⟨d', hd', hdv⟩ := r2.getV i v hv
              rw [g1 i hi] at hd
              rw [g2 i hi] at hd'
              exact ⟨T, u, v, rfl, .inl (.inl upd_same), .inr ⟨nT, rfl⟩, by rw [Option.some.inj hd]; exact hdu, by rw [Option.some.inj hd']; exact hdv⟩
            · have : (List.zipWith f ds fs).take ds.length = List.zipWith f ds fs := List.take_of_length_le (by omega)
              rw [this] at d2
              exact q _ H' (e1.trans e) a2 d2
/-- [e for x in a list], the state going along -/
theorem ev_lcFS {j : Nat} {x : Str} {scope : Scope} (hc : X.calm = true) (hN : X.N.Nodup) (f : Nat → PyData) (T : Nat → S) (hit : EV X z iter es s (.list ds) s1) (t0 : T 0 = s1) (hl : ds.length ≤ 100000) (hB : BlkOk X.N X.env.scope scope [(x, j)]) (hg : PgIn X scope (.Name x p) (gName j))
    (He : ∀ (i : Nat) d, ds[i]? = some d → ∀ z' : Z, Blk X scope fun Y => EV Y z' elt (es.set j (.val d)) (T i) (f i) (T (i + 1))) (hs : ∀ x, foldedSetIterable iter X.env x = pure x := by intro _; rfl) :
    EV X z (.ListComp elt [{ target := .Name x p, iter := iter, ifs := [], is_async := 0 }] scope pos) es s (.list ((List.range ds.length).map f)) (T ds.length) :=
  .mk (pe_lc (own := [(x, j)]) hc hN (pi_list wE_ok) hB hg (fun _ _ _ _ _ => pts_nil) tEl_ok hs)
    (lc_read (X := X) (te := tEl X scope elt) (tt := tYes) (j := j) hit hl (fun _ => true) (fun i => (List.range i).map f) T T rfl t0 (fun z' i d hd σ H en at_ Q q => q H (.refl H) at_)
      (fun z' i d hd _ => ⟨f i, by rw [List.range_succ, List.map_append]; rfl, fun σ H en at_ Q q s0 H0 C cl fp => He i d hd z' s0 H0 C cl fp σ H en at_ Q q⟩) (fun i d _ h => by cases h))
theorem rb_sum {K : PySem.W.Frag} {ns : List Int} : RB z s (rSum K) [.list (ns.map .int)] (.int ns.sum) := fun vs H at_ h Q q => by
  cases h with
  | cons h r =>
    cases r
    cases h with
    | @lst a xs _ n e r =>
      have : xs = ns.map V.int := by
        clear e n q
        induction ns generalizing xs with
        | nil => cases r; rfl
        | cons i ns ih =>
          cases r with
          | cons h r =>
            cases h
            rw [ih r]
            rfl
      subst this
      exact ⟨a, ns, rfl, .inl (.inl e), q _ H (.refl H) at_ (.int _)⟩
/-- x, y, w = e1, e2, e3 -/
theorem sr_par3 (i j l : Nat) {x y w : Str} {kt k2 : Nat} (hc : X.calm = true) (hN : X.N.Nodup) (h : ED X z [a, b, c] es s [d1, d2, d3] s1) (k : SR X z rest (((es.set i (.val d1)).set j (.val d2)).set l (.val d3)) s1 o)
    (hi : X.N[i]? = some x := by rfl) (hj : X.N[j]? = some y := by rfl) (hl : X.N[l]? = some w := by rfl) (hij : i ≠ j := by decide) (hil : i ≠ l := by decide) (hjl : j ≠ l := by decide) (hx : X.env.scope.names.lookup x = some .local := by rfl) (hy : X.env.scope.names.lookup y = some .local := by rfl) (hz : X.env.scope.names.lookup w = some .local := by rfl)
    (hw : swappedStores [.Tuple [.Name x p1, .Name y p2, .Name w p5] kt p3] (.Tuple [a, b, c] k2 p4) X.env = pure (some [x, y, w]) := by rfl) (hs : swapsWithSole [.Tuple [.Name x p1, .Name y p2, .Name w p5] kt p3] (.Tuple [a, b, c] k2 p4) pos.line X.env = pure false := by rfl) :
    SR X z (.Assign [.Tuple [.Name x p1, .Name y p2, .Name w p5] kt p3] (.Tuple [a, b, c] k2 p4) pos :: rest) es s o := fun σ H en at_ D q =>
  ⟨_, pss_cons (ps_par3 hc hN hi hj hl hij hil hjl hx hy hz wA_ok hw hs) wB_ok, h σ H en at_ _ fun vs H1 e1 a1 v1 => by
    cases v1 with
    | cons h1 r =>
      cases r with
      | cons h2 r =>
        cases r with
        | cons h3 r =>
          cases r
          exact ⟨_, _, _, rfl, k _ H1 ((((en.mono e1).set i (.val h1)).set j (.val h2)).set l (.val h3)) a1 D (q.mono e1)⟩⟩
theorem so_par3 (i j l : Nat) {x y w : Str} {kt k2 : Nat} (hc : X.calm = true) (hN : X.N.Nodup) (h : ∀ z, ED X z [a, b, c] es s [d1, d2, d3] s1) (k : SO X rest (((es.set i (.val d1)).set j (.val d2)).set l (.val d3)) s1 o)
    (hi : X.N[i]? = some x := by rfl) (hj : X.N[j]? = some y := by rfl) (hl : X.N[l]? = some w := by rfl) (hij : i ≠ j := by decide) (hil : i ≠ l := by decide) (hjl : j ≠ l := by decide) (hx : X.env.scope.names.lookup x = some .local := by rfl) (hy : X.env.scope.names.lookup y = some .local := by rfl) (hz : X.env.scope.names.lookup w = some .local := by rfl)
    (hw : swappedStores [.Tuple [.Name x p1, .Name y p2, .Name w p5] kt p3] (.Tuple [a, b, c] k2 p4) X.env = pure (some [x, y, w]) := by rfl) (hs : swapsWithSole [.Tuple [.Name x p1, .Name y p2, .Name w p5] kt p3] (.Tuple [a, b, c] k2 p4) pos.line X.env = pure false := by rfl) :
    SO X (.Assign [.Tuple [.Name x p1, .Name y p2, .Name w p5] kt p3] (.Tuple [a, b, c] k2 p4) pos :: rest) es s o := fun z Hc H vol σ I D q =>
  ⟨_, pss_cons (ps_par3 hc hN hi hj hl hij hil hjl hx hy hz wA_ok hw hs) wB_ok, h _ σ H I.en I.at_ _ fun vs H1 e1 a1 v1 => by
    cases v1 with
    | cons h1 r =>
      cases r with
      | cons h2 r =>
        cases r with
        | cons h3 r =>
          cases r
          have w1 := I.step e1 a1
          exact ⟨_, _, _, rfl, k z Hc H1 vol _ (((w1.set (.refl _) w1.at_ i h1).set (.refl _) w1.at_ j h2).set (.refl _) w1.at_ l h3) D q⟩⟩
/-- x, y = e, [] -/
theorem so_parN (i j : Nat) {x y : Str} {kt k2 : Nat} {pl : Pos} (hc : X.calm = true) (hN : X.N.Nodup) (h : ∀ z, EV X z a es s d1 s1) (k : SO X rest ((es.set i (.val d1)).set j (.own [])) s1 o)
    (hi : X.N[i]? = some x := by rfl) (hj : X.N[j]? = some y := by rfl) (hij : i ≠ j := by decide) (hx : X.env.scope.names.lookup x = some .local := by rfl) (hy : X.env.scope.names.lookup y = some .local := by rfl)
    (hs1 : starEach [a, .List [] pl] X.env = (false, eval a X.env) :: starEach [.List [] pl] X.env := by rfl) (hs2 : starEach [.List [] pl] X.env = (false, eval (.List [] pl) X.env) :: starEach [] X.env := by rfl)
    (hw : swappedStores [.Tuple [.Name x p1, .Name y p2] kt p3] (.Tuple [a, .List [] pl] k2 p4) X.env = pure (some [x, y]) := by rfl) (hs : swapsWithSole [.Tuple [.Name x p1, .Name y p2] kt p3] (.Tuple [a, .List [] pl] k2 p4) pos.line X.env = pure false := by rfl) :
    SO X (.Assign [.Tuple [.Name x p1, .Name y p2] kt p3] (.Tuple [a, .List [] pl] k2 p4) pos :: rest) es s o := fun z Hc H vol σ I D q =>
  ⟨_, pss_cons (ps_par hc hN hi hj hij hx hy (pa_cons wE_ok (pa_cons (pe_lst pa_nil) pa_nil hs2) hs1) hw hs) wB_ok, h _ σ H I.en I.at_ _ fun v H1 e1 a1 v1 => ⟨Nat.zero_le _, fun l hl => by
    have w1 := (I.step e1 a1)
    have w2 := w1.set (.refl _) w1.at_ i v1
    exact ⟨_, _, rfl, k z Hc _ _ _ (w2.fresh j (vs := []) (.refl _) a1 hl (.new hl) (a1.fill hl) .nil) D q⟩⟩⟩
/-- for x in range(n), own lists written -/
theorem so_for1 (l : Nat) {x : Str} {n : Int} (hp : PassesOwn (model X.prog X.w) X.A X.env X.xe) (hc : X.calm = true) (hN : X.N.Nodup) (hm : X.mg "range" = none) (h : ∀ z, ED X z [a] es s [.int n] s1) (hn : n < 2 ^ 60) (hn0 : -(2 ^ 60) < n) (E : Nat → List Sl) (T : Nat → S) (h0 : Le es (E 0)) (t0 : T 0 = s1)
    (hb : ∀ i : Nat, (i : Int) < n → SO X body ((E i).set l (.val (.int (i : Int)))) (T i) (.nx (E (i + 1)) (T (i + 1)))) (k : SO X rest (E n.toNat) (T n.toNat) o)
    (hi : X.N[l]? = some x := by rfl) (hx : Loc X.env.scope x := by first | exact Or.inl rfl | exact Or.inr rfl) (hg : Gl X "range" := by rfl) (hs : starEach [a] X.env = [(false, eval a X.env)] := by rfl)
    (hf : X.fn x = true ∨ X.env.scope.names.lookup x = some .local := by first | exact .inl rfl | exact .inr rfl) (hfo : ∀ x, foldedSetIterable (.Call (.Name "range" p2) [a] [] p3) X.env x = pure x := by intro _; rfl) :
    SO X (.For (.Name x p) (.Call (.Name "range" p2) [a] [] p3) body [] pos :: rest) es s o := fun z Hc H vol σ I D q =>
  ⟨_, pss_cons (ps_for hp hc (pi_range1 hg hm wA_ok hs) (pg_name hN hi hx hf) wB_ok hfo) wB_ok, h _ σ H I.en I.at_ _ fun vs H1 e1 a1 v1 => by
    cases v1 with
    | cons v1 r =>
      cases r
      cases v1
      have I1 := I.step e1 a1
      subst t0
      refine ⟨n, rfl, by omega, by omega, for_range (lo := 0) (n := n.toNat) (fun i σ' H' => ∃ vol', OI z Hc H' vol' σ' (E i) (T i)) ⟨vol, I1.le h0⟩ (fun i σ' H' hi w => ?_) fun σ' H' w => ?_⟩
      · obtain ⟨vol', w⟩ := w
        have e0 : (0 : Int) + (i : Int) = (i : Int) := Int.zero_add _
        show wB X body _ (σ'.set l (some (.int ((0 : Int) + (i : Int))))) H'
        rw [e0]
        exact hb i (by omega) z Hc H' vol' _ (w.set (.refl _) w.at_ l (.int _)) _ fun vol2 σ2 H2 I2 => ⟨vol2, I2⟩
      · obtain ⟨vol', w⟩ := w
        exact k z Hc H' vol' σ' w D q⟩
end
end DL


set_option Elab.async false
set_option linter.all false
set_option maxRecDepth 100000
namespace DL
open PySem PySem.Spec PyProof.Rows L2
variable [TabT]
section
variable {X : Cx} {z : Z} {es es1 es2 : List Sl} {s s1 s2 s3 : S} {iter elt cond a b c e : Expr} {ds fs : List PyData} {d d1 d2 d3 : PyData} {o : Out} {rest body els : List Stmt} {pos p p1 p2 p3 p4 p5 : Pos}
/-- v = [e for x, y in zip(a, b)], two tuples of one length -/
theorem sr_lcZT {j k l : Nat} {x y v0 : Str} {pv spos : Pos} {scope : Scope} {kt : Nat} (hc : X.calm = true) (hN : X.N.Nodup) (hm : X.mg "zip" = none) (hjk : j ≠ k) (f : PyData → PyData → PyData) (hit : ED X z [a, b] es s [.tuple ds, .tuple fs] s) (hlen : ds.length = fs.length) (hl : ds.length ≤ 100000) (hB : BlkOk X.N X.env.scope scope [(x, j), (y, k)])
    (hg : PgIn X scope (.Tuple [.Name x p, .Name y p1] kt p2) (gTup X.K 2 (gCons (gName j) (gCons (gName k) gNil))))
    (He : ∀ (i : Nat) (d1 d2 : PyData), ds[i]? = some d1 → fs[i]? = some d2 → ∀ z' : Z, Blk X scope fun Y => EV Y z' elt ((es.set j (.val d1)).set k (.val d2)) s (f d1 d2) s) (kk : SR X z rest (es.set l (.val (.list (List.zipWith f ds fs)))) s o) (hgl : Gl X "zip" := by rfl) (hi : X.N[l]? = some v0 := by rfl) (hy : List.lookup v0 X.env.scope.names = some NameKind.local := by rfl) (hst : starEach [a, b] X.env = (false, eval a X.env) :: starEach [b] X.env := by rfl) (hpl : (backTo p4 (starEach [b] X.env)).any (·.1) = false := by rfl)
    (hsw : swapsWith (.ListComp elt [{ target := .Tuple [.Name x p, .Name y p1] kt p2, iter := .Call (.Name "zip" p3) [a, b] [] p4, ifs := [], is_async := 0 }] scope pos) (some (.Name v0 pv)) spos.line X.env = pure true := by exact sw_true rfl rfl rfl (by decide +kernel)) (hs : ∀ x, foldedSetIterable (.Call (.Name "zip" p3) [a, b] [] p4) X.env x = pure x := by intro _; rfl) :
    SR X z (.Assign [.Name v0 pv] (.ListComp elt [{ target := .Tuple [.Name x p, .Name y p1] kt p2, iter := .Call (.Name "zip" p3) [a, b] [] p4, ifs := [], is_async := 0 }] scope pos) spos :: rest) es s o := fun σ H en at_ DD q =>
  ⟨_, pss_cons (ps_setLc (i := l) (own := [(x, j), (y, k)]) hc hN hi hy hsw (RZ.pi_zipA hgl hm wA_ok hst hpl) hB hg (fun _ _ _ _ _ => pts_nil) tEl_ok hs) wB_ok, by
    refine hit σ H en at_ _ fun vs H1 e1 a1 v1 => ?_
    cases v1 with
    | cons h1 r =>
      cases r with
      | cons h2 r =>
        cases r
        cases h1 with
        | @tup a1' xs _ fa ha r1 =>
          cases h2 with
          | @tup b1' ys _ fb hb r2 =>
            have hx : xs.length = ds.length := r1.length
            have hy : ys.length = fs.length := r2.length
            have g1 : ∀ i, i < ds.length → ds[i]? = some (ds.getD i .none) := fun i hi => by
              rw [List.getD_eq_getElem?_getD, List.getElem?_eq_getElem hi]
              rfl
            have g2 : ∀ i, i < ds.length → fs[i]? = some (fs.getD i .none) := fun i hi => by
              rw [List.getD_eq_getElem?_getD, List.getElem?_eq_getElem (by omega)]
              rfl
            have zl : (List.zipWith f ds fs).length = ds.length := by rw [List.length_zipWith]; omega
            refine ⟨a1', b1', xs, ys, rfl, .inr ⟨.inl (.inl ha), .inl (.inl hb), fun D hD => ?_⟩⟩
            refine lc_two (K := X.K) (walk_zipT (K := X.K) (a := a1') (b := b1') (xs := xs) (ys := ys) (n := ds.length) (by omega)) (fun _ => s) (fun _ => s) (en.mono e1) a1 hD hjk (fun i => ds.getD i .none) (fun i => fs.getD i .none) (fun H' e => ⟨.inl (.inl (e _ _ fa ha)), .inl (.inl (e _ _ fb hb))⟩) (fun i x H' H2 hi eH hY => ?_) hl (fun _ => true) (fun i => (List.zipWith f ds fs).take i) rfl
              (fun z' i hi σ H en at_ Q q => q H (.refl H) at_) (fun z' i hi _ => ⟨f (ds.getD i .none) (fs.getD i .none), by
                rw [List.take_add_one, List.getElem?_zipWith, g1 i hi, g2 i hi]
                rfl, fun σ H en at_ Q q s0 H0 C cl fp => He i _ _ (g1 i hi) (g2 i hi) z' s0 H0 C cl fp σ H en at_ Q q⟩) (fun i _ h => by cases h) (fun H' e a2 d2 => ?_)
            · obtain ⟨T, u, v, rfl, nT, rfl, hu, hv⟩ := hY
              obtain ⟨d, hd, hdu⟩ := r1.getV i u hu
              obtain ⟨d', hd', hdv⟩ := r2.getV i v hv
              rw [g1 i hi] at hd
              rw [g2 i hi] at hd'
              exact ⟨T, u, v, rfl, .inl (.inl upd_same), .inr ⟨nT, rfl⟩, by rw [Option.some.inj hd]; exact hdu, by rw [Option.some.inj hd']; exact hdv⟩
            · have : (List.zipWith f ds fs).take ds.length = List.zipWith f ds fs := List.take_of_length_le (by omega)
              rw [this] at d2
              exact kk _ H' ((en.mono (e1.trans e)).set l (.val d2)) a2 DD (q.mono (e1.trans e))⟩
end
end DL


set_option Elab.async false
set_option linter.all false
set_option maxRecDepth 100000
namespace DL
open PySem PySem.Spec PyProof.Rows L2
variable [TabT]
section
variable {X : Cx} {z : Z} {es : List Sl} {s s1 s2 : S} {iter elt cond a b c e : Expr} {ds : List PyData} {o : Out} {rest body : List Stmt} {pos p p1 p2 p3 p4 apos : Pos}
/-- x.bit_length() -/
theorem ev_bits {i : Int} (h : EV X z e es s (.int i) s1) (hbase : attributeBase e "bit_length" X.env (eval e X.env) = eval e X.env := by rfl) (hline : (apos.endLine == pos.line) = true := by rfl) : EV X z (.Call (.Attribute e "bit_length" apos) [] [] pos) es s (.int (Builtin.Int.intBits i : Nat)) s1 :=
  .mk (pe_bits wE_ok hbase hline) fun σ H en at_ Q q => h σ H en at_ _ fun v H1 e1 a1 v1 => by
    cases v1
    exact ⟨i, rfl, q _ H1 e1 a1 (.int _)⟩
/-- i << j -/
theorem ev_shl {i j : Int} (hc : CPow i j) (ha : EV X z a es s (.int i) s1) (hb : EV X z b es s1 (.int j) s2) : EV X z (.BinOp a .LShift b pos) es s (.int (i * 2 ^ j.toNat)) s2 := ev_opR (f := binaryOp .LShift) op_shl (rd_I hc fun _ => .int _) ha hb
/-- for x in a list, where lists of one's own are written -/
theorem so_forL (l : Nat) {x : Str} (hp : PassesOwn (model X.prog X.w) X.A X.env X.xe) (hc : X.calm = true) (hN : X.N.Nodup) (h : ∀ z, EV X z iter es s (.list ds) s1) (E : Nat → List Sl) (T : Nat → S) (h0 : Le es (E 0)) (t0 : T 0 = s1)
    (hb : ∀ (i : Nat) d, ds[i]? = some d → SO X body ((E i).set l (.val d)) (T i) (.nx (E (i + 1)) (T (i + 1)))) (k : SO X rest (E ds.length) (T ds.length) o)
    (hi : X.N[l]? = some x := by rfl) (hx : Loc X.env.scope x := by first | exact Or.inl rfl | exact Or.inr rfl) (hf : X.fn x = true ∨ X.env.scope.names.lookup x = some .local := by first | exact .inl rfl | exact .inr rfl) (hfo : ∀ x, foldedSetIterable iter X.env x = pure x := by intro _; rfl) :
    SO X (.For (.Name x p) iter body [] pos :: rest) es s o := fun z Hc H vol σ I D q =>
  ⟨_, pss_cons (ps_for hp hc (pi_list wE_ok) (pg_name hN hi hx hf) wB_ok hfo) wB_ok, h _ σ H I.en I.at_ _ fun v H1 e1 a1 v1 => by
    cases v1 with
    | @lst a xs _ fa ha r =>
      have hx : xs.length = ds.length := r.length
      obtain ⟨I2, back⟩ := (I.step e1 a1).reb
      subst t0
      refine ⟨a, rfl, ⟨xs, .inl (.inl ha)⟩, for_list (xs := xs) (fun i σ' H' => ∃ vol', OI z (cutH H1 vol) H' vol' σ' (E i) (T i)) ⟨vol, I2.le h0⟩ (fun i σ' H' _ w => ?_) (fun i x σ' H' hi w => ?_) fun σ' H' w => ?_⟩
      · obtain ⟨vol', w⟩ := w
        exact .inl (.inl (w.stillH fa ha))
      · obtain ⟨vol', w⟩ := w
        obtain ⟨d, hd, hv⟩ := r.getV i x hi
        exact hb i d hd z _ _ vol' _ (w.set (.refl _) w.at_ l (w.still hv)) _ fun vol3 σ3 H3 I3 => ⟨vol3, I3⟩
      · obtain ⟨vol', w⟩ := w
        rw [hx] at w
        exact k z Hc H' vol' σ' (back _ _ _ _ _ w) D q⟩
/-- for x in range(n - 1, -1, -1), where lists of one's own are written -/
theorem so_forDown (l : Nat) {x : Str} {n : Nat} (hp : PassesOwn (model X.prog X.w) X.A X.env X.xe) (hc : X.calm = true) (hN : X.N.Nodup) (hm : X.mg "range" = none) (h : ∀ z, ED X z [a, b, c] es s [.int ((n : Int) - 1), .int (-1), .int (-1)] s1) (hn : n < 2 ^ 60) (E : Nat → List Sl) (T : Nat → S) (h0 : Le es (E 0)) (t0 : T 0 = s1)
    (hb : ∀ i : Nat, i < n → SO X body ((E i).set l (.val (.int ((n - 1 - i : Nat) : Int)))) (T i) (.nx (E (i + 1)) (T (i + 1)))) (k : SO X rest (E n) (T n) o)
    (hi : X.N[l]? = some x := by rfl) (hx : Loc X.env.scope x := by first | exact Or.inl rfl | exact Or.inr rfl) (hg : Gl X "range" := by rfl) (hs : starEach [a, b, c] X.env = (false, eval a X.env) :: starEach [b, c] X.env := by rfl) (hpl : (backTo p3 (starEach [b, c] X.env)).any (·.1) = false := by rfl)
    (hf : X.fn x = true ∨ X.env.scope.names.lookup x = some .local := by first | exact .inl rfl | exact .inr rfl) (hfo : ∀ x, foldedSetIterable (.Call (.Name "range" p2) [a, b, c] [] p3) X.env x = pure x := by intro _; rfl) :
    SO X (.For (.Name x p) (.Call (.Name "range" p2) [a, b, c] [] p3) body [] pos :: rest) es s o := fun z Hc H vol σ I D q =>
  ⟨_, pss_cons (ps_for hp hc (pi_range3 hg hm wA_ok hs hpl) (pg_name hN hi hx hf) wB_ok hfo) wB_ok, h _ σ H I.en I.at_ _ fun vs H1 e1 a1 v1 => by
    cases v1 with
    | cons v1 r =>
      cases v1
      cases r with
      | cons v1 r =>
        cases v1
        cases r with
        | cons v1 r =>
          cases v1
          cases r
          have I1 := I.step e1 a1
          subst t0
          refine ⟨(n : Int) - 1, -1, -1, n, rfl, ?_, for_rangeC (c := -1) (n := n) (fun i σ' H' => ∃ vol', OI z Hc H' vol' σ' (E i) (T i)) ⟨vol, I1.le h0⟩ (fun i σ' H' hi w => ?_) fun σ' H' w => ?_⟩
          · have := RgC.neg (i := (n : Int) - 1) (j := -1) (by omega) (by omega) (by omega) (by omega)
            rw [show ((n : Int) - 1 - -1).toNat = n by omega] at this
            exact this
          · obtain ⟨vol', w⟩ := w
            have e0 : ((n : Int) - 1) + ((i : Nat) : Int) * (-1) = ((n - 1 - i : Nat) : Int) := by omega
            show wB X body _ (σ'.set l (some (.int (((n : Int) - 1) + ((i : Nat) : Int) * (-1))))) H'
            rw [e0]
            exact hb i hi z Hc H' vol' _ (w.set (.refl _) w.at_ l (.int _)) _ fun vol2 σ2 H2 I2 => ⟨vol2, I2⟩
          · obtain ⟨vol', w⟩ := w
            exact k z Hc H' vol' σ' w D q⟩
/-- [x for x in range(a, b) if c] -/
theorem ev_lcR2If {j : Nat} {x : Str} {scope : Scope} {lo : Int} {n : Nat} (hc : X.calm = true) (hN : X.N.Nodup) (hm : X.mg "range" = none) (kb : Nat → Bool) (hit : ED X z [a, b] es s [.int lo, .int (lo + (n : Int))] s) (hl : n ≤ 100000) (hlo : -(2 ^ 59) < lo ∧ lo < 2 ^ 59) (hB : BlkOk X.N X.env.scope scope [(x, j)]) (hg : PgIn X scope (.Name x p) (gName j))
    (Ht : ∀ i : Nat, i < n → ∀ z' : Z, Blk X scope fun Y => ET Y z' cond (es.set j (.val (.int (lo + (i : Int))))) s (kb i) s) (He : ∀ i : Nat, i < n → ∀ z' : Z, Blk X scope fun Y => EV Y z' elt (es.set j (.val (.int (lo + (i : Int))))) s (.int (lo + (i : Int))) s)
    (hgl : Gl X "range" := by rfl) (hst : starEach [a, b] X.env = [(false, eval a X.env), (false, eval b X.env)] := by rfl) (hst2 : starEach [b] X.env = [(false, eval b X.env)] := by rfl) (hs : ∀ x, foldedSetIterable (.Call (.Name "range" p1) [a, b] [] p2) X.env x = pure x := by intro _; rfl) :
    EV X z (.ListComp elt [{ target := .Name x p, iter := .Call (.Name "range" p1) [a, b] [] p2, ifs := [cond], is_async := 0 }] scope pos) es s (.list (((List.range n).filter kb).map fun i : Nat => PyData.int (lo + (i : Int)))) s :=
  .mk (pe_lc (own := [(x, j)]) hc hN (pi_range2 hgl hm wA_ok hst hst2) hB hg tTs_ok tEl_ok hs) fun σ H en at_ Q q => by
    refine hit σ H en at_ _ fun vs H1 e1 a1 v1 => ?_
    cases v1 with
    | cons h r =>
      cases h
      cases r with
      | cons h r =>
        cases r
        cases h
        refine ⟨lo, lo + (n : Int), rfl, ⟨by omega, by omega, by omega, by omega⟩, fun D hD => ?_⟩
        have en' : (lo + (n : Int) - lo).toNat = n := by omega
        rw [en']
        let A : Nat → List PyData := fun i => ((List.range i).filter kb).map fun i : Nat => PyData.int (lo + (i : Int))
        have step : ∀ i, A (i + 1) = A i ++ (if kb i then [PyData.int (lo + (i : Int))] else []) := fun i => by
          show ((List.range (i + 1)).filter kb).map _ = _
          rw [List.range_succ, List.filter_append, List.map_append]
          congr 1
          show (List.filter kb [i]).map _ = _
          cases hk : kb i
          · rw [List.filter_cons_of_neg (by rw [hk]; decide)]
            rfl
          · rw [List.filter_cons_of_pos hk]
            rfl
        refine lc_gen (walk_range (lo := lo) (n := n)) (fun _ => s) (fun _ => s) (en.mono e1) a1 hD (fun i => .int (lo + (i : Int))) (fun H' e => trivial) (fun i x H' H2 hi hy => ⟨hy.1, ?_⟩) hl kb A rfl (fun z' i hi σ H en at_ Q q s0 H0 C cl fp => Ht i hi z' s0 H0 C cl fp σ H en at_ Q q)
          (fun z' i hi hk => ⟨_, by rw [step i, if_pos hk], fun σ H en at_ Q q s0 H0 C cl fp => He i hi z' s0 H0 C cl fp σ H en at_ Q q⟩) (fun i _ h => ⟨by rw [step i, if_neg (by rw [h]; decide), List.append_nil], rfl⟩) (fun H' e a2 d2 => q _ H' (e1.trans e) a2 d2)
        rw [hy.2]
        exact .int _
end
end DL


set_option Elab.async false
set_option linter.all false
set_option maxRecDepth 100000
namespace DL
open PySem PySem.Spec PyProof.Rows L2
variable [TabT]
section
variable {X : Cx} {z : Z} {es es1 es2 : List Sl} {s s1 s2 s3 : S} {iter elt cond a b c e : Expr} {ds fs : List PyData} {d d1 d2 d3 : PyData} {o : Out} {rest body els : List Stmt} {pos p p1 p2 p3 p4 p5 : Pos}
/-- x, y, w = e, e a tuple, own lists at hand -/
theorem so_unp3 (i j l : Nat) {x y w : Str} {kt : Nat} (hc : X.calm = true) (hN : X.N.Nodup) (h : ∀ z, EV X z e es s (.tuple [d1, d2, d3]) s1) (k : SO X rest (((es.set i (.val d1)).set j (.val d2)).set l (.val d3)) s1 o)
    (hi : X.N[i]? = some x := by rfl) (hj : X.N[j]? = some y := by rfl) (hl : X.N[l]? = some w := by rfl) (hx : Loc X.env.scope x := by first | exact Or.inl rfl | exact Or.inr rfl) (hy : Loc X.env.scope y := by first | exact Or.inl rfl | exact Or.inr rfl) (hw' : Loc X.env.scope w := by first | exact Or.inl rfl | exact Or.inr rfl)
    (fx : X.fn x = true ∨ X.env.scope.names.lookup x = some .local := by first | exact .inl rfl | exact .inr rfl) (fy : X.fn y = true ∨ X.env.scope.names.lookup y = some .local := by first | exact .inl rfl | exact .inr rfl) (fw : X.fn w = true ∨ X.env.scope.names.lookup w = some .local := by first | exact .inl rfl | exact .inr rfl)
    (hs : swapsWithSole [.Tuple [.Name x p1, .Name y p2, .Name w p5] kt p3] e pos.line X.env = pure false := by rfl) (hw : swappedStores [.Tuple [.Name x p1, .Name y p2, .Name w p5] kt p3] e X.env = pure none := by rfl)
    (hn : (assignEach [.Name x p1, .Name y p2, .Name w p5] X.env).length = 3 := by rfl) (hst : (assignEach [.Name x p1, .Name y p2, .Name w p5] X.env).findIdx? (·.1) = none := by rfl)
    (h1 : (assignEach (.Name x p1 :: [.Name y p2, .Name w p5]) X.env).map (·.2) = assign (.Name x p1) X.env :: (assignEach [.Name y p2, .Name w p5] X.env).map (·.2) := by rfl) (h2 : (assignEach (.Name y p2 :: [.Name w p5]) X.env).map (·.2) = assign (.Name y p2) X.env :: (assignEach [.Name w p5] X.env).map (·.2) := by rfl)
    (h3 : (assignEach (.Name w p5 :: []) X.env).map (·.2) = assign (.Name w p5) X.env :: (assignEach [] X.env).map (·.2) := by rfl) :
    SO X (.Assign [.Tuple [.Name x p1, .Name y p2, .Name w p5] kt p3] e pos :: rest) es s o := fun z Hc H vol σ I D q =>
  ⟨_, pss_cons (ps_asg wE_ok (pg_tup hc (pgs_cons (pg_name hN hi hx fx) (pgs_cons (pg_name hN hj hy fy) (pgs_cons (pg_name hN hl hw' fw) pgs_nil h3) h2) h1) hn hst) hs hw) wB_ok, h _ σ H I.en I.at_ _ fun v H1 e1 a1 v1 => by
    cases v1 with
    | tup n e r =>
      cases r with
      | cons v1 r =>
        cases r with
        | cons v2 r =>
          cases r with
          | cons v3 r =>
            cases r
            have w1 := I.step e1 a1
            exact ⟨_, _, rfl, .inl (.inl e), rfl, _, _, rfl, _, _, rfl, _, _, rfl, rfl, k z Hc H1 vol _ (((w1.set (.refl _) w1.at_ i v1).set (.refl _) w1.at_ j v2).set (.refl _) w1.at_ l v3) D q⟩⟩
/-- x, y = e, [], the pair being made -/
theorem so_unpN (i j : Nat) {x y : Str} {kt k2 : Nat} {pl : Pos} (hc : X.calm = true) (hN : X.N.Nodup) (h : ∀ z, EV X z a es s d1 s1) (k : SO X rest ((es.set i (.val d1)).set j (.own [])) s1 o)
    (hi : X.N[i]? = some x := by rfl) (hj : X.N[j]? = some y := by rfl) (hx : Loc X.env.scope x := by first | exact Or.inl rfl | exact Or.inr rfl) (hy : Loc X.env.scope y := by first | exact Or.inl rfl | exact Or.inr rfl)
    (fx : X.fn x = true ∨ X.env.scope.names.lookup x = some .local := by first | exact .inl rfl | exact .inr rfl) (fy : X.fn y = true ∨ X.env.scope.names.lookup y = some .local := by first | exact .inl rfl | exact .inr rfl)
    (hs1 : starEach [a, .List [] pl] X.env = (false, eval a X.env) :: starEach [.List [] pl] X.env := by rfl) (hs2 : starEach [.List [] pl] X.env = (false, eval (.List [] pl) X.env) :: starEach [] X.env := by rfl)
    (hs : swapsWithSole [.Tuple [.Name x p1, .Name y p2] kt p3] (.Tuple [a, .List [] pl] k2 p4) pos.line X.env = pure false := by rfl) (hw : swappedStores [.Tuple [.Name x p1, .Name y p2] kt p3] (.Tuple [a, .List [] pl] k2 p4) X.env = pure none := by rfl)
    (hn : (assignEach [.Name x p1, .Name y p2] X.env).length = 2 := by rfl) (hst : (assignEach [.Name x p1, .Name y p2] X.env).findIdx? (·.1) = none := by rfl)
    (h1 : (assignEach (.Name x p1 :: [.Name y p2]) X.env).map (·.2) = assign (.Name x p1) X.env :: (assignEach [.Name y p2] X.env).map (·.2) := by rfl) (h2 : (assignEach (.Name y p2 :: []) X.env).map (·.2) = assign (.Name y p2) X.env :: (assignEach [] X.env).map (·.2) := by rfl) :
    SO X (.Assign [.Tuple [.Name x p1, .Name y p2] kt p3] (.Tuple [a, .List [] pl] k2 p4) pos :: rest) es s o := fun z Hc H vol σ I D q =>
  ⟨_, pss_cons (ps_asg (pe_tup (pa_cons wE_ok (pa_cons (pe_lst pa_nil) pa_nil hs2) hs1)) (pg_tup hc (pgs_cons (pg_name hN hi hx fx) (pgs_cons (pg_name hN hj hy fy) pgs_nil h2) h1) hn hst) hs hw) wB_ok, h _ σ H I.en I.at_ _ fun v H1 e1 a1 v1 => ⟨Nat.zero_le _, fun l hl => ⟨by show 2 ≤ sizeLine; decide, fun t ht => by
    have w1 := (I.step e1 a1)
    have w2 := w1.set (.refl _) w1.at_ i v1
    have af := a1.fill (xs := []) hl
    have et : Ez ((z.own vol).add l (.lst [])) (upd H1 l (.lst [])) (upd (upd H1 l (.lst [])) t (.tup [v, .ref l])) := .new ht
    have tl : t ≠ l := fun w => by
      rw [w, upd_same] at ht
      cases ht
    have e2 : Ez (z.own vol) H1 (upd (upd H1 l (.lst [])) t (.tup [v, .ref l])) := fun b u fb hb => by
      have nb := ne_of_none hb hl
      rw [upd_ne (fun w => ?_), upd_ne nb]
      · exact hb
      · rw [w, ← upd_ne (H := H1) (o := .lst []) tl] at hb
        rw [ht] at hb
        cases hb
    exact ⟨_, _, rfl, .inl (.inl upd_same), rfl, _, _, rfl, _, _, rfl, rfl, k z Hc _ _ _ (w2.fresh j (vs := []) (.refl _) a1 hl e2 (af.new ht) .nil) D q⟩⟩⟩⟩
/-- y = [e for x in a list] -/
theorem sr_lcFL {j k : Nat} {x y : Str} {scope : Scope} {py spos : Pos} (hc : X.calm = true) (hN : X.N.Nodup) (f : PyData → PyData) (hit : EV X z iter es s (.list ds) s) (hl : ds.length ≤ 100000) (hB : BlkOk X.N X.env.scope scope [(x, j)]) (hg : PgIn X scope (.Name x p) (gName j))
    (He : ∀ d ∈ ds, ∀ z' : Z, Blk X scope fun Y => EV Y z' elt (es.set j (.val d)) s (f d) s) (kk : SR X z rest (es.set k (.val (.list (ds.map f)))) s o) (hi : X.N[k]? = some y := by rfl) (hy : List.lookup y X.env.scope.names = some NameKind.local := by rfl)
    (hsw : swapsWith (.ListComp elt [{ target := .Name x p, iter := iter, ifs := [], is_async := 0 }] scope pos) (some (.Name y py)) spos.line X.env = pure true := by exact sw_true rfl rfl rfl (by decide +kernel)) (hs : ∀ x, foldedSetIterable iter X.env x = pure x := by intro _; rfl) :
    SR X z (.Assign [.Name y py] (.ListComp elt [{ target := .Name x p, iter := iter, ifs := [], is_async := 0 }] scope pos) spos :: rest) es s o := fun σ H en at_ D q =>
  ⟨_, pss_cons (ps_setLc (i := k) (own := [(x, j)]) hc hN hi hy hsw (pi_list wE_ok) hB hg (fun _ _ _ _ _ => pts_nil) tEl_ok hs) wB_ok, by
    have g := lc_read (X := X) (te := tEl X scope elt) (tt := tYes) (j := j) hit hl (fun _ => true) (fun i => (ds.take i).map f) (fun _ => s) (fun _ => s) rfl rfl (fun z' i d hd σ H en at_ Q q => q H (.refl H) at_)
      (fun z' i d hd _ => ⟨f d, take_succ hd, fun σ H en at_ Q q s0 H0 C cl fp => He d (List.mem_of_getElem? hd) z' s0 H0 C cl fp σ H en at_ Q q⟩) (fun i d _ h => by cases h)
    rw [List.take_length] at g
    exact g σ H en at_ _ fun v H2 e2 a2 v2 => kk _ H2 ((en.mono e2).set k (.val v2)) a2 D (q.mono e2)⟩
end
end DL


set_option Elab.async false
set_option linter.all false
set_option maxRecDepth 100000
namespace DL
open PySem PySem.Spec PyProof.Rows L2
variable [TabT]
theorem DaAll.put {z : Z} {H : Hp} {v : V} {d : PyData} (hv : Da z H v d) : ∀ {vs : List V} {ds : List PyData} (j : Nat), DaAll z H vs ds → DaAll z H (vs.set j v) (ds.set j d)
  | _, _, _, .nil => .nil
  | _, _, 0, .cons _ r => .cons hv r
  | _, _, j + 1, .cons h r => .cons h (DaAll.put hv j r)
theorem daAll_of {z : Z} {H : Hp} : ∀ {vs : List V} {ds : List PyData}, vs.length = ds.length → (∀ (k : Nat) (v : V) (d : PyData), vs[k]? = some v → ds[k]? = some d → Da z H v d) → DaAll z H vs ds
  | [], [], _, _ => .nil
  | [], _ :: _, h, _ => by simp at h
  | _ :: _, [], h, _ => by simp at h
  | v :: vs, d :: ds, h, k => .cons (k 0 v d rfl rfl) (daAll_of (by simpa using h) fun n v d h1 h2 => k (n + 1) v d h1 h2)
theorem At.upd_free {z : Z} {H : Hp} {p : Addr} {o : HO} {s : S} {xs : List V} (A : At z H s) (f : Fz z p) (h : H p = some (.lst xs)) : At z (upd H p o) s := by
  refine ⟨fun b hb => ?_, fun q hq => ?_, A.n, tabs_upd A.t h⟩
  · rw [upd_ne (fun w => f.1.1 (by rw [← w]; exact hb))]
    exact A.d b hb
  · rw [upd_ne (fun w => f.2 q.2 (by rw [← w]; exact hq))]
    exact A.v q hq
/-- list(x), x a list: the items as they stand -/
theorem el_list {Y : Cx} {x y : Str} {j : Nat} {p p1 pos : Pos} {σ : L2.St} {H : Hp} {Q : VK} {a : Addr} {ws : List V} (hσ : σ[j]? = some (some (.ref a))) (hs : SqL Y.K H a ws) (q : ∀ l, H l = none → Q (.ref l) (upd H l (.lst ws))) (hm : Y.mg y = none)
    (hN : Y.N[j]? = some x := by rfl) (hvi : Vis Y.env.scope x := by first | exact Or.inl rfl | exact Or.inr (Or.inl rfl) | exact Or.inr (Or.inr rfl)) (hd : (x == ("__debug__" : Str)) = false := by decide) (hcd : (x == ("__classdict__" : Str)) = false := by decide)
    (hv : bootBuiltins y = some (.type "list") := by decide +kernel) (hg : Gl Y y := by rfl) (hn : y ≠ "__name__" := by decide) (hdb : (y == ("__debug__" : Str)) = false := by decide) (hst : starEach [.Name x p] Y.env = (false, eval (.Name x p) Y.env) :: starEach [] Y.env := by rfl) (hpl : (backTo pos (starEach [] Y.env)).any (·.1) = false := by rfl) :
    wE Y (.Call (.Name y p1) [.Name x p] [] pos) σ H Q :=
  ⟨_, pe_callTy call_list_of hg hm hv (pa_cons (pe_var hN hvi hd hcd) pa_nil hst) hn hdb hst hpl, _, hσ, a, ws, rfl, .inl hs, q⟩
section
variable {X : Cx} {z : Z} {es : List Sl} {s : S} {iter elt a b e : Expr} {d : PyData} {o : Out} {rest : List Stmt} {pos p p1 p2 p3 p4 p5 py spos : Pos}
/-- y = [list(x) for x in rows]; y[i][n] = e -/
theorem sr_bent {j k i n : Nat} {t1 t2 : Int} {x y : Str} {scope : Scope} {rows : List (List PyData)} {r : List PyData} (hc : X.calm = true) (hN : X.N.Nodup) (hit : EV X z iter es s (.list (rows.map PyData.list)) s) (hl : rows.length ≤ 100000) (hB : BlkOk X.N X.env.scope scope [(x, j)]) (hg : PgIn X scope (.Name x p) (gName j))
    (He : ∀ (σ : L2.St) (H : Hp) (Q : VK) (a : Addr) (ws : List V), σ[j]? = some (some (.ref a)) → SqL X.K H a ws → (∀ l, H l = none → Q (.ref l) (upd H l (.lst ws))) → tEl X scope elt σ H Q)
    (hv : EV X z e (es.set k .un) s (.tuple [.int t1, .int t2]) s) (ha : EV X z a (es.set k .un) s (.int (i : Int)) s) (hb : EV X z b (es.set k .un) s (.int (n : Int)) s) (hr : rows[i]? = some r) (hn : n < r.length)
    (kk : SR X z rest (es.set k (.val (.list ((rows.set i (r.set n (.tuple [.int t1, .int t2]))).map PyData.list)))) s o) (jl : j < es.length) (kl : k < es.length) (hi : X.N[k]? = some y := by rfl) (hy : List.lookup y X.env.scope.names = some NameKind.local := by rfl)
    (hsw : swapsWith (.ListComp elt [{ target := .Name x p, iter := iter, ifs := [], is_async := 0 }] scope pos) (some (.Name y py)) spos.line X.env = pure true := by exact sw_true rfl rfl rfl (by decide +kernel)) (hs : ∀ x, foldedSetIterable iter X.env x = pure x := by intro _; rfl)
    (hvi : Vis X.env.scope y := by first | exact Or.inl rfl | exact Or.inr (Or.inl rfl) | exact Or.inr (Or.inr rfl)) (hdd : (y == ("__debug__" : Str)) = false := by decide) (hcd : (y == ("__classdict__" : Str)) = false := by decide) (hpi : PlainIx a := by intro _ _; rfl)
    (hgs : PE X (.Subscript (.Name y p1) a p2) (tOp (rIxL X.K) (tVar k) (wE X a)) → PG X (.Subscript (.Subscript (.Name y p1) a p2) b p3) (gSub (tOp (rIxL X.K) (tVar k) (wE X a)) (wE X b) rSetL))
    (hs2 : swapsWithSole [.Subscript (.Subscript (.Name y p1) a p2) b p3] e p4.line X.env = pure false := by rfl) (hw2 : swappedStores [.Subscript (.Subscript (.Name y p1) a p2) b p3] e X.env = pure none := by rfl) :
    SR X z (.Assign [.Name y py] (.ListComp elt [{ target := .Name x p, iter := iter, ifs := [], is_async := 0 }] scope pos) spos :: .Assign [.Subscript (.Subscript (.Name y p1) a p2) b p3] e p4 :: rest) es s o := fun σ H en at_ D q =>
  ⟨_, pss_cons (ps_setLc (i := k) (own := [(x, j)]) hc hN hi hy hsw (pi_list wE_ok) hB hg (fun _ _ _ _ _ => pts_nil) tEl_ok hs) (pss_cons (ps_asg wE_ok (hgs (pe_ix ix_list (pe_var hi hvi hdd hcd) wE_ok hpi)) hs2 hw2) wB_ok), by
    have el := en.length
    refine hit σ H en at_ _ fun v H1 e1 a1 v1 => ?_
    cases v1 with
    | @lst a0 xs _ fa ha0 r1 =>
      have xl : xs.length = rows.length := by rw [r1.length, List.length_map]
      have item : ∀ (m : Nat) (x : V), xs[m]? = some x → ∃ (b : Addr) (ws : List V) (rr : List PyData), x = .ref b ∧ rows[m]? = some rr ∧ Fz z b ∧ H1 b = some (.lst ws) ∧ DaAll z H1 ws rr := fun m x hx => by
        obtain ⟨d, hd, hv⟩ := r1.getV m x hx
        rw [List.getElem?_map] at hd
        cases hr : rows[m]? with
        | none => rw [hr] at hd; cases hd
        | some rr =>
          rw [hr] at hd
          cases hd
          cases hv with
          | lst f h r => exact ⟨_, _, rr, rfl, rfl, f, h, r⟩
      refine ⟨a0, rfl, ⟨xs, .inl (.inl ha0)⟩, fun B hB0 => ?_⟩
      refine lc_it (walk_list (K := X.K) (a := a0) (xs := xs)) (vs := [j]) (fun m H' => Ez z H1 H' ∧ At z H' s ∧ ∃ qs : List Addr, qs.length = m ∧ H' B = some (.lst (qs.map V.ref)) ∧ qs.Nodup ∧ ∀ (t : Nat) (c : Addr), qs[t]? = some c → c ≠ B ∧ H1 c = none ∧ ∃ (b : Addr) (ws : List V), xs[t]? = some (.ref b) ∧ H1 b = some (.lst ws) ∧ H' c = some (.lst ws)) ?_ (fun m H' _ w => .inl (.inl (w.1 a0 _ fa ha0))) ?_ ?_
      · exact ⟨.new hB0, a1.new hB0, [], rfl, upd_same, List.nodup_nil, fun t c h => by simp at h⟩
      · intro m x H' H2 hm w hy
        obtain ⟨rfl, hx⟩ := hy
        obtain ⟨e2, a2, qs, ql, hB1, nd, old⟩ := w
        obtain ⟨bb, ws, rr, rfl, hrr, fb, hbb, dws⟩ := item m x hx
        have hσ : ((wipe σ [j]).set j (some (V.ref bb)))[j]? = some (some (.ref bb)) := by
          show ((σ.set j none).set j _)[j]? = _
          rw [List.set_set, List.getElem?_set_self (by omega)]
        refine ⟨by
          show ((σ.set j none).set j _).set j none = σ.set j none
          rw [List.set_set, List.set_set], ?_⟩
        unfold tYes
        dsimp only
        rw [if_pos rfl]
        refine He _ H2 _ bb ws hσ (.inl (.inl (e2 bb _ fb hbb))) fun l hl0 => ?_
        have lB : l ≠ B := fun w => by
          rw [w, hB1] at hl0
          cases hl0
        have l1 : H1 l = none := by
          cases h : H1 l with
          | none => rfl
          | some u =>
            rw [e2 l u (a2.fresh hl0) h] at hl0
            cases hl0
        refine ⟨qs.map V.ref, by rw [upd_ne (Ne.symm lB)]; exact hB1, Nat.lt_of_lt_of_le (show (qs.map V.ref).length < 100001 by rw [List.length_map]; omega) (by decide), fun b u f h => ?_, (a2.new hl0).upd_free ?_ (by rw [upd_ne (Ne.symm lB)]; exact hB1), qs ++ [l], by simp [ql], by rw [List.map_append]; exact upd_same, ?_, fun t c ht => ?_⟩
        · rw [upd_ne (ne_of_none h hB0), upd_ne (ne_of_none h l1)]
          exact e2 b u f h
        · exact (a1.fresh hB0)
        · refine List.nodup_append.mpr ⟨nd, by simp, fun c hc c2 hc2 w => ?_⟩
          obtain ⟨t, ht⟩ := List.mem_iff_getElem?.mp hc
          obtain ⟨_, _, b, ws', _, _, h3⟩ := old t c ht
          rw [w, List.mem_singleton.mp hc2, hl0] at h3
          cases h3
        · by_cases h : t < qs.length
          · rw [List.getElem?_append_left h] at ht
            obtain ⟨n1, n2, b, ws', h1, h2, h3⟩ := old t c ht
            have cl : c ≠ l := fun w => by
              rw [w, hl0] at h3
              cases h3
            exact ⟨n1, n2, b, ws', h1, h2, by rw [upd_ne n1, upd_ne cl]; exact h3⟩
          · have te : t = qs.length := by
              have := (List.getElem?_eq_some_iff.mp ht).1
              simp at this
              omega
            subst te
            rw [List.getElem?_append_right (Nat.le_refl _), Nat.sub_self] at ht
            cases ht
            exact ⟨lB, l1, bb, ws, by rw [ql]; exact hx, hbb, by rw [upd_ne lB]; exact upd_same⟩
      · intro H' w
        obtain ⟨e2, a2, qs, ql, hB1, nd, old⟩ := w
        have f0 : Fz z B := a1.fresh hB0
        have enU : En z H' (σ.set k (some (.ref B))) (es.set k .un) := (en.mono (e1.trans e2)).set k .un
        refine hv _ H' enU a2 _ fun v H3 e3 a3 v3 => ?_
        have hσk : (σ.set k (some (V.ref B)))[k]? = some (some (.ref B)) := List.getElem?_set_self (by omega)
        refine ⟨_, hσk, ha _ H3 (enU.mono e3) a3 _ fun u H4 e4 a4 u4 => ?_⟩
        cases u4
        have e34 := e3.trans e4
        obtain ⟨c, hcq⟩ : ∃ c, qs[i]? = some c := ⟨_, List.getElem?_eq_getElem (by have := (List.getElem?_eq_some_iff.mp hr).1; omega)⟩
        obtain ⟨c1, c2, bb, ws, hx, hb1, hc3⟩ := old i c hcq
        have fc : Fz z c := a1.fresh c2
        refine ⟨B, qs.map V.ref, (i : Int), .ref c, rfl, rfl, .inl (.inl (e34 B _ f0 hB1)), atI_nat (by rw [List.getElem?_map, hcq]; rfl), ?_⟩
        refine hb _ H4 (enU.mono e34) a4 _ fun u H5 e5 a5 u5 => ?_
        cases u5
        have e35 := e34.trans e5
        obtain ⟨b', ws', rr, eb, hrr, fb, hb2, dws⟩ := item i _ hx
        cases eb
        rw [hb1] at hb2
        cases hb2
        rw [hr] at hrr
        cases hrr
        have wl : ws.length = r.length := dws.length
        refine ⟨c, ws, (n : Int), n, rfl, rfl, e35 c _ fc hc3, by unfold ixN; rw [if_pos (by omega), if_pos (by omega)]; simp, ?_⟩
        have full : Ez z H (upd H5 c (.lst (ws.set n v))) := fun b u f h => by
          have h1 := e1 b u f h
          rw [upd_ne (ne_of_none h1 c2)]
          exact e35 b u f (e2 b u f h1)
        have from1 : Ez z H1 (upd H5 c (.lst (ws.set n v))) := fun b u f h => by
          rw [upd_ne (ne_of_none h c2)]
          exact e35 b u f (e2 b u f h)
        have from3 : Da z (upd H5 c (.lst (ws.set n v))) v (.tuple [.int t1, .int t2]) := by
          cases v3 with
          | @tup a3 ys _ fa3 ha3 r3 =>
            cases r3 with
            | cons g1 r3 =>
              cases g1
              cases r3 with
              | cons g1 r3 =>
                cases g1
                cases r3
                have ne : a3 ≠ c := fun w => by
                  rw [w, e3 c _ fc hc3] at ha3
                  cases ha3
                exact .tup fa3 (by rw [upd_ne ne]; exact (e4.trans e5) a3 _ fa3 ha3) (.cons (.int _) (.cons (.int _) .nil))
        refine kk _ _ ?_ (a5.upd_free fc (e35 c _ fc hc3)) D (q.mono full)
        have : σ.set k (some (V.ref B)) = (σ.set k (some (.ref B))) := rfl
        refine (en.mono full).set k (.val (.lst f0 (by rw [upd_ne (Ne.symm c1)]; exact e35 B _ f0 hB1) ?_))
        refine daAll_of (by rw [List.length_map, List.length_map, List.length_set]; omega) fun t u dd h1 h2 => ?_
        rw [List.getElem?_map] at h1 h2
        cases hqt : qs[t]? with
        | none => rw [hqt] at h1; cases h1
        | some cc =>
          rw [hqt] at h1
          cases h1
          obtain ⟨k1, k2, bt, wst, kx, kb, kc⟩ := old t cc hqt
          by_cases hti : t = i
          · subst hti
            rw [hcq] at hqt
            cases hqt
            rw [List.getElem?_set_self (by have := (List.getElem?_eq_some_iff.mp hr).1; omega)] at h2
            cases h2
            exact .lst fc upd_same (DaAll.put from3 n (dws.mono from1))
          · rw [List.getElem?_set_ne (fun w => hti w.symm)] at h2
            obtain ⟨b2, ws2, rr2, eb2, hrr2, fb2, hb22, dws2⟩ := item t _ kx
            cases eb2
            rw [kb] at hb22
            cases hb22
            rw [hrr2] at h2
            cases h2
            have cne : cc ≠ c := fun w => by
              subst w
              have i1 := (List.getElem?_eq_some_iff.mp hqt).1
              exact hti ((List.getElem?_inj i1 nd).mp (hqt.trans hcq.symm))
            exact .lst (a1.fresh k2) (by rw [upd_ne cne]; exact e35 cc _ (a1.fresh k2) kc) (dws2.mono from1)⟩
end
end DL


set_option Elab.async false
set_option linter.all false
set_option maxRecDepth 100000
namespace DL
open PySem PySem.Spec PyProof.Rows L2
variable [TabT]
section
variable {X : Cx} {z : Z} {es es1 es2 : List Sl} {s s1 s2 s3 s4 : S} {iter elt cond a b c e : Expr} {ds fs : List PyData} {d d1 d2 d3 : PyData} {o : Out} {rest body els : List Stmt} {pos p p1 p2 p3 p4 p5 : Pos}
/-- a list of one's own is data from here on -/
theorem so_frz (i : Nat) (k : SO X rest (es.set i (.val (.list ds))) s o) (ho : es[i]? = some (.own ds) := by rfl) : SO X rest es s o := fun z Hc H vol σ I D q => by
  obtain ⟨y, hy, r⟩ := I.en.slot ho
  cases r with
  | @own a vs _ m kk =>
    have hc := I.far i ds a ho hy
    have ha : H a = some (.lst vs) := I.at_.v _ m
    have sub : ∀ q, q ∈ vol.filter (fun q => decide (q.1 ≠ a)) → q ∈ vol := fun q hq => (List.mem_filter.mp hq).1
    have re : ∀ (b : Addr) (u : HO), Fz (z.own vol) b → H b = some u → Fz (z.own (vol.filter fun q => decide (q.1 ≠ a))) b ∧ H b = some u := fun b u fb hb => ⟨⟨fb.1, fun o mo => by
      rcases List.mem_append.mp mo with mo | mo
      · exact fb.2 o (List.mem_append_left _ (sub _ mo))
      · exact fb.2 o (List.mem_append_right _ mo)⟩, hb⟩
    have fa : Fz (z.own (vol.filter fun q => decide (q.1 ≠ a))) a := ⟨⟨fun e => (I.at_.n _ m).1 e, I.at_.tab_far (I.at_.v _ m)⟩, fun o mo => by
      rcases List.mem_append.mp mo with mo | mo
      · have := (List.mem_filter.mp mo).2
        simp at this
      · exact I.base _ mo hc⟩
    have keep : ∀ q, q ∈ (z.own vol).vol → q.1 ≠ a → q ∈ (z.own (vol.filter fun q => decide (q.1 ≠ a))).vol := fun q hq ne => by
      rcases List.mem_append.mp hq with mo | mo
      · exact List.mem_append_left _ (List.mem_filter.mpr ⟨mo, by simpa using ne⟩)
      · exact List.mem_append_right _ mo
    have low : ∀ q, q ∈ (z.own (vol.filter fun q => decide (q.1 ≠ a))).vol → q ∈ (z.own vol).vol := fun q hq => by
      rcases List.mem_append.mp hq with mo | mo
      · exact List.mem_append_left _ (sub _ mo)
      · exact List.mem_append_right _ mo
    refine k z Hc H (vol.filter fun q => decide (q.1 ≠ a)) σ ⟨fun q hq => I.new q (sub q hq), ?_, I.base, ⟨I.at_.d, fun q hq => I.at_.v q (low q hq), fun q hq => I.at_.n q (low q hq), I.at_.t⟩, ?_, I.ez, fun j fs b h1 h2 => ?_, fun j l fs gs b n h1 h2 h3 => ?_⟩ D q
    · exact I.nd.sublist ((List.filter_sublist).map _)
    · refine En.by_slots (by rw [List.length_set]; exact I.en.length) fun j x f hj hf => ?_
      by_cases hij : i = j
      · subst hij
        have lt : i < es.length := by
          rcases Nat.lt_or_ge i es.length with h | h
          · exact h
          · rw [List.getElem?_eq_none h] at ho
            cases ho
        rw [List.getElem?_set_self lt] at hf
        cases hf
        rw [hy] at hj
        cases hj
        exact .val (.lst fa ha (kk.re re))
      · rw [List.getElem?_set_ne hij] at hf
        obtain ⟨y', hy', r'⟩ := I.en.slot hf
        rw [hj] at hy'
        cases hy'
        cases r' with
        | fk r => exact .fk (r.re re)
        | fns n h r => exact .fns (re _ _ n h).1 (re _ _ n h).2 (fun q hq => (r q hq).re re)
        | un => exact .un
        | val h => exact .val (h.re re)
        | dice h => exact .dice h
        | raw => exact .raw
        | exc q => exact .exc (q.re re)
        | @dct b kvs2 ks2 ds2 mb e2 kb =>
          exact .dct (keep _ mb fun e => by
            have h1 := I.at_.v _ mb
            have h2 := I.at_.v _ m
            rw [e, h2] at h1
            cases h1) e2 (kb.re re)
        | @own b us gs mb kb =>
          exact .own (keep _ mb fun e => I.two i j ds gs a hij ho hf hy (by rw [hj]; exact congrArg (fun t => some (some (V.ref t))) e)) (kb.re re)
    · by_cases hij : i = j
      · subst hij
        have lt : i < es.length := by
          rcases Nat.lt_or_ge i es.length with h | h
          · exact h
          · rw [List.getElem?_eq_none h] at ho
            cases ho
        rw [List.getElem?_set_self lt] at h1
        cases h1
      · rw [List.getElem?_set_ne hij] at h1
        exact I.far j fs b h1 h2
    · have ne : ∀ {m : Nat} {gs : List PyData}, (es.set i (Sl.val (.list ds)))[m]? = some (.own gs) → i ≠ m := fun {m gs} h e => by
        subst e
        by_cases hl : i < es.length
        · rw [List.getElem?_set_self hl] at h
          cases h
        · rw [List.getElem?_eq_none (by rw [List.length_set]; omega)] at h
          cases h
      rw [List.getElem?_set_ne (ne h1)] at h1
      rw [List.getElem?_set_ne (ne h2)] at h2
      exact I.two j l fs gs b n h1 h2 h3
/-- a list of one's own written, with what stays -/
theorem OI.writeR {z : Z} {Hc H H' : Hp} {vol : List (Addr × HO)} {σ : L2.St} {a : Addr} {vs vs' : List V} {ds' : List PyData} {i : Nat} (I : OI z Hc H vol σ es s) (h : es[i]? = some (.own ds)) (hy : σ[i]? = some (some (.ref a))) (m : (a, HO.lst vs) ∈ (z.own vol).vol)
    (e1 : Ez (z.own vol) H H') (a1 : At (z.own vol) H' s1) (r : DaAll (z.own vol) H' vs' ds') : ∃ vol', OI z Hc (upd H' a (.lst vs')) vol' σ (es.set i (.own ds')) s1 ∧ ∀ b u, Fz (z.own vol) b → H' b = some u → Fz (z.own vol') b ∧ upd H' a (.lst vs') b = some u := by
  have hc := I.far i ds a h hy
  have mv : (a, HO.lst vs) ∈ vol := by
    rcases List.mem_append.mp m with m | m
    · exact m
    · exact absurd hc (I.base _ m)
  have nz : ∀ q ∈ z.vol, q.1 ≠ a := fun q hq e => I.base q hq (by rw [e]; exact hc)
  let g : Addr × HO → Addr × HO := fun q => if q.1 = a then (a, .lst vs') else q
  have g1 : ∀ q, (g q).1 = q.1 := fun q => by
    show (if q.1 = a then (a, HO.lst vs') else q).1 = q.1
    by_cases e : q.1 = a
    · rw [if_pos e, e]
    · rw [if_neg e]
  have gm : vol.map (fun q => (g q).1) = vol.map (·.1) := by
    congr 1
    funext q
    exact g1 q
  have keep : ∀ {q : Addr × HO}, q.1 ≠ a → g q = q := fun {q} hn => if_neg hn
  have re : ∀ (b : Addr) (u : HO), Fz (z.own vol) b → H' b = some u → Fz (z.own (vol.map g)) b ∧ upd H' a (.lst vs') b = some u := fun b u fb hb => by
    have nb : b ≠ a := fun e => fb.2 (.lst vs) (by rw [e]; exact List.mem_append_left _ mv)
    refine ⟨⟨fb.1, fun o mo => ?_⟩, by rw [upd_ne nb]; exact hb⟩
    rcases List.mem_append.mp mo with mo | mo
    · obtain ⟨q, hq, e⟩ := List.mem_map.mp mo
      have q1 : q.1 = b := by rw [← g1 q, e]
      have : g q = q := keep (by rw [q1]; exact nb)
      rw [this] at e
      exact fb.2 o (List.mem_append_left _ (by rw [← e]; exact hq))
    · exact fb.2 o (List.mem_append_right _ mo)
  refine ⟨vol.map g, ⟨?_, ?_, I.base, ⟨?_, ?_, ?_, tabs_upd a1.t (a1.v _ m)⟩, ?_, ?_, ?_, ?_⟩, re⟩
  · intro q hq
    obtain ⟨q0, h0, e⟩ := List.mem_map.mp hq
    rw [← e, g1]
    exact I.new q0 h0
  · rw [List.map_map]
    show (vol.map fun q => (g q).1).Nodup
    rw [gm]
    exact I.nd
  · intro b hb
    rw [upd_ne (fun e => (a1.n _ m).1 (by rw [← e]; exact hb))]
    exact a1.d b hb
  · intro q hq
    rcases List.mem_append.mp hq with mo | mo
    · obtain ⟨q0, h0, e⟩ := List.mem_map.mp mo
      by_cases hn : q0.1 = a
      · have : g q0 = (a, .lst vs') := if_pos hn
        rw [← e, this]
        exact upd_same
      · rw [← e, keep hn, upd_ne hn]
        exact a1.v q0 (List.mem_append_left _ h0)
    · rw [upd_ne (nz q mo)]
      exact a1.v q (List.mem_append_right _ mo)
  · intro q hq
    rcases List.mem_append.mp hq with mo | mo
    · obtain ⟨q0, h0, e⟩ := List.mem_map.mp mo
      rw [← e, g1]
      refine ⟨(a1.n q0 (List.mem_append_left _ h0)).1, ?_⟩
      by_cases hn : q0.1 = a
      · rw [show g q0 = (a, .lst vs') from if_pos hn]
        exact .lst _
      · rw [keep hn]
        exact (a1.n q0 (List.mem_append_left _ h0)).2
    · exact a1.n q (List.mem_append_right _ mo)
  · have en1 := I.en.mono e1
    have ma : (a, HO.lst vs') ∈ vol.map g := List.mem_map.mpr ⟨_, mv, if_pos rfl⟩
    refine En.by_slots (by rw [List.length_set, en1.length]) fun j x e hx he => ?_
    by_cases hj : i = j
    · subst hj
      have hl : i < es.length := (List.getElem?_eq_some_iff.mp h).1
      rw [List.getElem?_set_self hl] at he
      cases he
      rw [hy] at hx
      cases hx
      exact .own (List.mem_append_left _ ma) (r.re re)
    · rw [List.getElem?_set_ne hj] at he
      obtain ⟨y, hy2, rr⟩ := en1.slot he
      rw [hx] at hy2
      cases hy2
      cases rr with
      | fk r => exact .fk (r.re re)
      | fns n h r => exact .fns (re _ _ n h).1 (re _ _ n h).2 (fun q hq => (r q hq).re re)
      | un => exact .un
      | val d => exact .val (d.re re)
      | dice e => exact .dice e
      | raw => exact .raw
      | exc q => exact .exc (q.re re)
      | @dct b kvs2 ks2 ds2 mm e2 k =>
        have nb : b ≠ a := fun e => by
          have h1 := I.at_.v _ mm
          have h2 := I.at_.v _ m
          rw [e, h2] at h1
          cases h1
        refine .dct ?_ e2 (k.re re)
        rcases List.mem_append.mp mm with mm | mm
        · exact List.mem_append_left _ (List.mem_map.mpr ⟨_, mm, keep nb⟩)
        · exact List.mem_append_right _ mm
      | @own b ws es' mm k =>
        have nb : b ≠ a := fun e => I.two i j _ _ a hj h he hy (by rw [← e]; exact hx)
        refine .own ?_ (k.re re)
        rcases List.mem_append.mp mm with mm | mm
        · exact List.mem_append_left _ (List.mem_map.mpr ⟨_, mm, keep nb⟩)
        · exact List.mem_append_right _ mm
  · intro b u fb hb
    have nb : b ≠ a := fun e => by
      rw [e, hc] at hb
      cases hb
    rw [upd_ne nb]
    exact I.ezc e1 b u fb hb
  · intro j ds2 b h1 h2
    by_cases hj : i = j
    · subst hj
      rw [hy] at h2
      cases h2
      exact hc
    · rw [List.getElem?_set_ne hj] at h1
      exact I.far j ds2 b h1 h2
  · intro j l ds1 ds2 b n h1 h2 h3
    have back : ∀ {m : Nat} {ds2 : List PyData}, (es.set i (Sl.own ds'))[m]? = some (.own ds2) → ∃ ds3, es[m]? = some (.own ds3) := fun {m ds2} hm => by
      by_cases e : i = m
      · subst e
        exact ⟨ds, h⟩
      · rw [List.getElem?_set_ne e] at hm
        exact ⟨_, hm⟩
    obtain ⟨d3, h1'⟩ := back h1
    obtain ⟨d4, h2'⟩ := back h2
    exact I.two j l d3 d4 b n h1' h2' h3
/-- xs[i], xs[j] = e, f -/
theorem so_swap (i : Nat) {x : Str} {m n : Nat} {kt k2 : Nat} {e1 e2 : Expr} {q1 q2 q3 q4 : Pos} (hc : X.calm = true) (h : ∀ z, ED X z [e1, e2] es s [d1, d2] s1) (ha : ∀ z, EV X z a es s1 (.int (m : Int)) s1) (hb : ∀ es', es'.length = es.length → (∀ j, j ≠ i → es'[j]? = es[j]?) → ∀ z, EV X z b es' s1 (.int (n : Int)) s1) (hm : m < ds.length) (hn : n < ds.length)
    (g1 : PG X (.Subscript (.Name x p1) a q1) (gSub (tVar i) (wE X a) rSetL)) (g2 : PG X (.Subscript (.Name x p2) b q2) (gSub (tVar i) (wE X b) rSetL)) (kk : SO X rest (es.set i (.own ((ds.set m d1).set n d2))) s1 o) (ho : es[i]? = some (.own ds) := by rfl)
    (hs : swapsWithSole [.Tuple [.Subscript (.Name x p1) a q1, .Subscript (.Name x p2) b q2] kt q3] (.Tuple [e1, e2] k2 q4) pos.line X.env = pure false := by rfl) (hw : swappedStores [.Tuple [.Subscript (.Name x p1) a q1, .Subscript (.Name x p2) b q2] kt q3] (.Tuple [e1, e2] k2 q4) X.env = pure none := by rfl)
    (hnn : (assignEach [.Subscript (.Name x p1) a q1, .Subscript (.Name x p2) b q2] X.env).length = 2 := by rfl) (hst : (assignEach [.Subscript (.Name x p1) a q1, .Subscript (.Name x p2) b q2] X.env).findIdx? (·.1) = none := by rfl)
    (h1 : (assignEach (.Subscript (.Name x p1) a q1 :: [.Subscript (.Name x p2) b q2]) X.env).map (·.2) = assign (.Subscript (.Name x p1) a q1) X.env :: (assignEach [.Subscript (.Name x p2) b q2] X.env).map (·.2) := by rfl) (h2 : (assignEach (.Subscript (.Name x p2) b q2 :: []) X.env).map (·.2) = assign (.Subscript (.Name x p2) b q2) X.env :: (assignEach [] X.env).map (·.2) := by rfl) :
    SO X (.Assign [.Tuple [.Subscript (.Name x p1) a q1, .Subscript (.Name x p2) b q2] kt q3] (.Tuple [e1, e2] k2 q4) pos :: rest) es s o := fun z Hc H vol σ I D q =>
  ⟨_, pss_cons (ps_asg wE_ok (pg_tup hc (pgs_cons g1 (pgs_cons g2 pgs_nil h2) h1) hnn hst) hs hw) wB_ok, ev_tup (h _) (Nat.le_of_ble_eq_true rfl) σ H I.en I.at_ _ fun v H1 e1 a1 v1 => by
    cases v1 with
    | tup fn hv r =>
      cases r with
      | cons v1 r =>
        cases r with
        | cons v2 r =>
          cases r
          obtain ⟨y, hy, r⟩ := I.en.slot ho
          cases r with
          | @own ad vs _ mm k =>
            refine ⟨_, _, rfl, .inl (.inl hv), rfl, _, _, rfl, ?_⟩
            refine ⟨_, hy, ha _ σ H1 (I.en.mono e1) a1 _ fun u H2 e2 a2 w2 => ?_⟩
            cases w2
            have kl : vs.length = ds.length := k.length
            have gen : ∀ {zz : Z} {H : Hp} {w : V} {d : PyData}, Da zz H w d → ∀ (vs : List V) (ds : List PyData) (j : Nat), DaAll zz H vs ds → DaAll zz H (vs.set j w) (ds.set j d) := by
              intro zz H w d hw vs
              induction vs with
              | nil => intro ds j h; cases h; exact .nil
              | cons x vs ih =>
                intro ds j h
                cases h with
                | cons h1 h2 =>
                  cases j with
                  | zero => exact .cons hw h2
                  | succ j => exact .cons h1 (ih _ j h2)
            have r2 : DaAll (z.own vol) H2 (vs.set m _) (ds.set m d1) := gen (v1.mono e2) vs ds m (k.mono (e1.trans e2))
            have w2' := v2.mono e2
            obtain ⟨vol', I', re⟩ := I.writeR ho hy mm (e1.trans e2) a2 r2
            refine ⟨ad, vs, (m : Int), m, rfl, rfl, a2.v _ mm, (by unfold ixN; rw [if_pos (by omega), if_pos (by omega)]; simp), ?_⟩
            have lt : i < es.length := by
              rcases Nat.lt_or_ge i es.length with h | h
              · exact h
              · rw [List.getElem?_eq_none h] at ho
                cases ho
            have ho2 : (es.set i (.own (ds.set m d1)))[i]? = some (.own (ds.set m d1)) := List.getElem?_set_self lt
            obtain ⟨y3, hy3, r3⟩ := I'.en.slot ho2
            rw [hy] at hy3
            cases hy3
            cases r3 with
            | @own ad' vs' _ mm' k' =>
              refine ⟨_, _, rfl, ⟨_, hy, ?_⟩⟩
              refine hb _ (List.length_set ..) (fun j hj => List.getElem?_set_ne (Ne.symm hj)) _ σ _ I'.en I'.at_ _ fun u H3 e3 a3 w3 => ?_
              cases w3
              have kl' : vs'.length = (ds.set m d1).length := k'.length
              rw [List.length_set] at kl'
              obtain ⟨vol2, I2⟩ := I'.write ho2 hy mm' e3 a3 (gen ((w2'.re re).mono e3) vs' _ n (k'.mono e3))
              rw [List.set_set] at I2
              exact ⟨ad, vs', (n : Int), n, rfl, rfl, a3.v _ mm', (by unfold ixN; rw [if_pos (by omega), if_pos (by omega)]; simp), rfl, kk z Hc _ vol2 σ I2 D q⟩⟩
end
end DL


set_option Elab.async false
set_option linter.all false
set_option maxRecDepth 100000
namespace DL
open PySem PySem.Spec PyProof.Rows L2
variable [TabT]
section
variable {X : Cx} {z : Z} {es es1 es2 : List Sl} {s s1 s2 s3 s4 : S} {iter elt cond a b c e : Expr} {ds fs : List PyData} {d d1 d2 d3 : PyData} {o : Out} {rest body els : List Stmt} {pos p p1 p2 p3 p4 p5 : Pos}
/-- a list as a test -/
theorem et_lst (h : EV X z e es s (.list ds) s1) (he : ∀ whole, isTrue e X.env whole = (do let v ← whole; standAt e.pos; holding [v] (truthy v)) := by intro _; rfl) : ET X z e es s (!ds.isEmpty) s1 := fun σ H en at_ Q q =>
  ⟨_, pt_truth wE_ok he, h σ H en at_ _ fun v H1 e1 a1 v1 => by
    cases v1 with
    | @lst a xs _ n e r => exact ⟨_, .inl ⟨xs, .inl (.inl e), rfl⟩, by
        have l := r.length
        have : (!xs.isEmpty) = !ds.isEmpty := by
          cases xs <;> cases ds <;> first | rfl | cases l
        rw [this]
        exact q H1 e1 a1⟩⟩
/-- y = [x for x in range(lo, hi) if c] : the numbers that are let -/
theorem so_lcR2If {j k : Nat} {x y : Str} {scope : Scope} {lo n : Nat} {py spos : Pos} (hc : X.calm = true) (hN : X.N.Nodup) (hm : X.mg "range" = none) (kb : Nat → Bool) (hit : ∀ z, ED X z [a, b] es s [.int (lo : Int), .int ((lo + n : Nat) : Int)] s) (hl : n ≤ 100000) (hlo : lo ≤ 100000) (hB : BlkOk X.N X.env.scope scope [(x, j)]) (hg : PgIn X scope (.Name x p) (gName j))
    (Ht : ∀ i : Nat, i < n → ∀ z' : Z, Blk X scope fun Y => ET Y z' cond (es.set j (.val (.int ((lo + i : Nat) : Int)))) s (kb (lo + i)) s) (He : ∀ i : Nat, i < n → ∀ z' : Z, Blk X scope fun Y => EV Y z' elt (es.set j (.val (.int ((lo + i : Nat) : Int)))) s (.int ((lo + i : Nat) : Int)) s)
    (kk : SO X rest (es.set k (.own ((((List.range n).map (lo + ·)).filter kb).map fun i : Nat => PyData.int ((i : Nat) : Int)))) s o) (hi : X.N[k]? = some y := by rfl) (hy : List.lookup y X.env.scope.names = some NameKind.local := by rfl)
    (hsw : swapsWith (.ListComp elt [{ target := .Name x p, iter := .Call (.Name "range" p1) [a, b] [] p2, ifs := [cond], is_async := 0 }] scope pos) (some (.Name y py)) spos.line X.env = pure true := by exact sw_true rfl rfl rfl (by decide +kernel))
    (hgl : Gl X "range" := by rfl) (hst : starEach [a, b] X.env = [(false, eval a X.env), (false, eval b X.env)] := by rfl) (hst2 : starEach [b] X.env = [(false, eval b X.env)] := by rfl) (hs : ∀ x, foldedSetIterable (.Call (.Name "range" p1) [a, b] [] p2) X.env x = pure x := by intro _; rfl) :
    SO X (.Assign [.Name y py] (.ListComp elt [{ target := .Name x p, iter := .Call (.Name "range" p1) [a, b] [] p2, ifs := [cond], is_async := 0 }] scope pos) spos :: rest) es s o := fun z Hc H vol σ I D q =>
  ⟨_, pss_cons (ps_setLc (i := k) (own := [(x, j)]) hc hN hi hy hsw (pi_range2 hgl hm wA_ok hst hst2) hB hg tTs_ok tEl_ok hs) wB_ok, by
    refine hit _ σ H I.en I.at_ _ fun vs H1 e1 a1 v1 => ?_
    cases v1 with
    | cons h r =>
      cases h
      cases r with
      | cons h r =>
        cases r
        cases h
        refine ⟨(lo : Int), ((lo + n : Nat) : Int), rfl, ⟨by omega, by omega, by omega, by omega⟩, fun D' hD => ?_⟩
        have en : (((lo + n : Nat) : Int) - (lo : Int)).toNat = n := by omega
        rw [en]
        let A : Nat → List PyData := fun i => (((List.range i).map (lo + ·)).filter kb).map fun i : Nat => PyData.int ((i : Nat) : Int)
        have step : ∀ i, A (i + 1) = A i ++ (if kb (lo + i) then [PyData.int ((lo + i : Nat) : Int)] else []) := fun i => by
          show (((List.range (i + 1)).map (lo + ·)).filter kb).map _ = _
          rw [List.range_succ, List.map_append, List.filter_append, List.map_append]
          congr 1
          show (List.filter kb [lo + i]).map _ = _
          cases hk : kb (lo + i)
          · rw [List.filter_cons_of_neg (by rw [hk]; decide)]
            rfl
          · rw [List.filter_cons_of_pos hk]
            rfl
        refine lc_allO (g := gName j) (ws := [j]) (walk_range (lo := (lo : Int)) (n := n)) (fun _ => s) (fun _ => s) a1 hD (fun i => es.set j (.val (.int ((lo + i : Nat) : Int)))) (fun H' e => trivial) (fun i x H' H2 o hi e2 hy a2 Q q => ?_) hl (fun i => kb (lo + i)) A rfl (fun z' i hi σ H en at_ Q q s0 H0 C cl fp => Ht i hi z' s0 H0 C cl fp σ H en at_ Q q)
          (fun z' i hi hk => ⟨_, by rw [step i, if_pos hk], fun σ H en at_ Q q s0 H0 C cl fp => He i hi z' s0 H0 C cl fp σ H en at_ Q q⟩) (fun i _ h => ⟨by rw [step i, if_neg (by rw [h]; decide), List.append_nil], rfl⟩) (fun H' acc e hD2 a2 r2 => kk z Hc H' _ _ (I.fresh k e1 a1 hD e a2 r2) D q)
        obtain ⟨rfl, hx⟩ := hy
        have reach : ∀ (b : Addr) (u : HO), Fz (z.own vol) b → H1 b = some u → Fz ((z.own vol).add D' o) b ∧ H2 b = some u := fun b u fb hb => ⟨fb.to_add (ne_of_none hb hD), e2 b u fb hb⟩
        have es2 : (wipe σ [j]).set j (some x) = σ.set j (some x) := by
          show (σ.set j none).set j (some x) = _
          rw [List.set_set]
        show Q ((wipe σ [j]).set j (some x)) H2
        rw [es2]
        have en0 : En ((z.own vol).add D' o) H2 σ es := En.re (z := z.own vol) (z' := (z.own vol).add D' o) rfl (fun q h => List.mem_cons_of_mem _ h) reach (I.en.mono e1)
        refine q _ H2 (by
          show (σ.set j (some x)).set j none = σ.set j none
          rw [List.set_set]) (.refl _) a2 (en0.set j (.val ?_))
        rw [hx]
        show Da _ _ (.int ((lo : Int) + (i : Int))) _
        rw [← Int.natCast_add]
        exact .int _⟩
end
end DL


set_option Elab.async false
set_option linter.all false
set_option maxRecDepth 100000
namespace DL
open PySem PySem.Spec PyProof.Rows L2
variable [TabT]
section
variable {X : Cx} {z : Z} {es es1 es2 : List Sl} {s s1 s2 s3 s4 : S} {iter elt cond a b c e : Expr} {ds fs : List PyData} {d d1 d2 d3 : PyData} {o : Out} {rest body els : List Stmt} {xs : List Expr} {pos p p1 p2 p3 p4 p5 p6 : Pos}
/-- (*e, ..) -/
theorem ed_star (ha : EV X z e es s (.tuple fs) s1) (hr : ED X z xs es s1 ds s2) (hs : starEach (.Starred e p :: xs) X.env = (true, eval e X.env) :: starEach xs X.env := by rfl) : ED X z (.Starred e p :: xs) es s (fs ++ ds) s2 := fun σ H en at_ Q q =>
  ⟨_, StX.pa_star wE_ok wA_ok hs, ha σ H en at_ _ fun v H1 e1 a1 v1 => by
    cases v1 with
    | @tup a us _ n h r =>
      exact ⟨a, us, rfl, .inl (.inl (.inl h)), hr σ H1 (en.mono e1) a1 _ fun vs H2 e2 a2 v2 => q _ H2 (e1.trans e2) a2 ((r.mono e2).app v2)⟩⟩
/-- d in a list, d not in a list -/
theorem et_inL (hu : X.A.units + 65 < cLine) (h1 : Pl d) (h2 : Pl (.list ds)) (ha : EV X z a es s d s1) (hb : EV X z b es s1 (.list ds) s2) (hm : behindInMarks .In b = false := by rfl) : ET X z (.Compare a [.In] [b] pos) es s (ds.any fun z => PyData.eqv z d) s2 :=
  et_cmpR (op_inD hu) (fun u v H at_ hu hv Q q => ⟨d, ds, hu.dp h1.1, hv.dp h2.1, h1.2, h2.2, q _ H (.refl H) at_ (.bl _)⟩) ha hb hm
theorem et_ninL (hu : X.A.units + 65 < cLine) (h1 : Pl d) (h2 : Pl (.list ds)) (ha : EV X z a es s d s1) (hb : EV X z b es s1 (.list ds) s2) (hm : behindInMarks .NotIn b = false := by rfl) : ET X z (.Compare a [.NotIn] [b] pos) es s (!ds.any fun z => PyData.eqv z d) s2 :=
  et_cmpR (op_notInD hu) (fun u v H at_ hu hv Q q => ⟨d, ds, hu.dp h1.1, hv.dp h2.1, h1.2, h2.2, q _ H (.refl H) at_ (.bl _)⟩) ha hb hm
/-- own[::-1] -/
theorem ev_revO (i : Nat) {x : Str} {k : Nat} (h : es[i]? = some (.own ds) := by rfl) (hN : X.N[i]? = some x := by rfl) (hvi : Vis X.env.scope x := by first | exact Or.inl rfl | exact Or.inr (Or.inl rfl) | exact Or.inr (Or.inr rfl)) (hd : (x == ("__debug__" : Str)) = false := by decide) (hcd : (x == ("__classdict__" : Str)) = false := by decide) :
    EV X z (.Subscript (.Name x p) (.Slice none none (some (.UnaryOp .USub (.Constant (.int 1) k p1) p2)) p3) pos) es s (.list ds.reverse) s :=
  .mk (pe_revL (pe_var hN hvi hd hcd)) fun σ H en at_ Q q => by
    obtain ⟨y, hy, r⟩ := en.slot h
    cases r with
    | @own a0 vs _ m k => exact ⟨_, hy, _, _, rfl, .inl (.inl (at_.v _ m)), fun p hp => q _ _ (.new hp) (at_.new hp) (.lst (at_.fresh hp) upd_same (k.rev.mono (.new hp)))⟩
/-- for x, y in zip(a list, a list), own lists at hand -/
theorem so_forZ (l m : Nat) {x y : Str} {kt : Nat} (hp : PassesOwn (model X.prog X.w) X.A X.env X.xe) (hc : X.calm = true) (hm : X.mg "zip" = none) (hlen : ds.length = fs.length) (h : ∀ z, ED X z [a, b] es s [.list ds, .list fs] s1) (E : Nat → List Sl) (T : Nat → S) (h0 : Le es (E 0)) (t0 : T 0 = s1)
    (hb : ∀ (i : Nat) d1 d2, ds[i]? = some d1 → fs[i]? = some d2 → SO X body (((E i).set l (.val d1)).set m (.val d2)) (T i) (.nx (E (i + 1)) (T (i + 1)))) (k : SO X rest (E ds.length) (T ds.length) o)
    (hg : PG X (.Tuple [.Name x p1, .Name y p2] kt p3) (gTup X.K 2 (gCons (gName l) (gCons (gName m) gNil)))) (hgl : Gl X "zip" := by rfl) (hst : starEach [a, b] X.env = (false, eval a X.env) :: starEach [b] X.env := by rfl) (hpl : (backTo p5 (starEach [b] X.env)).any (·.1) = false := by rfl) (hfo : ∀ x, foldedSetIterable (.Call (.Name "zip" p4) [a, b] [] p5) X.env x = pure x := by intro _; rfl) :
    SO X (.For (.Tuple [.Name x p1, .Name y p2] kt p3) (.Call (.Name "zip" p4) [a, b] [] p5) body [] pos :: rest) es s o := fun z Hc H vol σ I D q =>
  ⟨_, pss_cons (ps_for hp hc (pi_zip hgl hm wA_ok hst hpl) hg wB_ok hfo) wB_ok, h _ σ H I.en I.at_ _ fun vs H1 e1 a1 v1 => by
    cases v1 with
    | cons h1 r =>
      cases r with
      | cons h2 r =>
        cases r
        cases h1 with
        | @lst a0 us _ fa ha r1 =>
          cases h2 with
          | @lst b0 ws _ fb hb0 r2 =>
            have hx : us.length = ds.length := r1.length
            have hy : ws.length = fs.length := r2.length
            obtain ⟨I2, back⟩ := (I.step e1 a1).reb
            subst t0
            refine ⟨a0, b0, us, ws, rfl, .inl (.inl ha), .inl (.inl hb0), for_it (walk_zip (K := X.K) (a := a0) (b := b0) (xs := us) (ys := ws) (n := ds.length) (by omega)) (fun i σ' H' => ∃ vol', OI z (cutH H1 vol) H' vol' σ' (E i) (T i)) ⟨vol, I2.le h0⟩ (fun i σ' H' _ w => ?_) (fun i v σ' H' H2 hi w hY => ?_) fun σ' H' w => ?_⟩
            · obtain ⟨vol', w⟩ := w
              exact ⟨.inl (.inl (w.stillH fa ha)), .inl (.inl (w.stillH fb hb0))⟩
            · obtain ⟨vol', w⟩ := w
              obtain ⟨t, u, v', rfl, nt, rfl, hu, hv⟩ := hY
              obtain ⟨d1, hd1, hu'⟩ := r1.getV i u hu
              obtain ⟨d2, hd2, hv'⟩ := r2.getV i v' hv
              have w1 := w.step (Ez.new (o := .tup [u, v']) nt) (w.at_.new nt)
              have w2 := (w1.set (.refl _) w1.at_ l ((w.still hu').mono (.new nt))).set (.refl _) w1.at_ m ((w.still hv').mono (.new nt))
              exact ⟨t, _, rfl, .inl (.inl upd_same), rfl, _, _, rfl, _, _, rfl, rfl, hb i d1 d2 hd1 hd2 z _ _ vol' _ w2 _ fun vol3 σ3 H3 I3 => ⟨vol3, I3⟩⟩
            · obtain ⟨vol', w⟩ := w
              exact k z Hc H' vol' σ' (back _ _ _ _ _ w) D q⟩
/-- for x in reversed(range(n)), own lists at hand -/
theorem so_forRev (l : Nat) {x : Str} {n : Nat} (hp : PassesOwn (model X.prog X.w) X.A X.env X.xe) (hc : X.calm = true) (hN : X.N.Nodup) (hm : X.mg "range" = none) (hmr : X.mg "reversed" = none) (h : ∀ z, EV X z a es s (.int (n : Int)) s1) (hn : n < 2 ^ 60) (E : Nat → List Sl) (T : Nat → S) (h0 : Le es (E 0)) (t0 : T 0 = s1)
    (hb : ∀ i : Nat, i < n → SO X body ((E i).set l (.val (.int ((n - 1 - i : Nat) : Int)))) (T i) (.nx (E (i + 1)) (T (i + 1)))) (k : SO X rest (E n) (T n) o)
    (hi : X.N[l]? = some x := by rfl) (hx : Loc X.env.scope x := by first | exact Or.inl rfl | exact Or.inr rfl) (hg : Gl X "range" := by rfl) (hgr : Gl X "reversed" := by rfl) (na : starEach [a] X.env = (false, eval a X.env) :: starEach [] X.env := by rfl) (hs : starEach [.Call (.Name "range" p2) [a] [] p3] X.env = (false, eval (.Call (.Name "range" p2) [a] [] p3) X.env) :: starEach [] X.env := by rfl)
    (hf : X.fn x = true ∨ X.env.scope.names.lookup x = some .local := by first | exact .inl rfl | exact .inr rfl) (hfo : ∀ x, foldedSetIterable (.Call (.Name "reversed" p4) [.Call (.Name "range" p2) [a] [] p3] [] p5) X.env x = pure x := by intro _; rfl) :
    SO X (.For (.Name x p) (.Call (.Name "reversed" p4) [.Call (.Name "range" p2) [a] [] p3] [] p5) body [] pos :: rest) es s o := fun z Hc H vol σ I D q =>
  ⟨_, pss_cons (ps_for hp hc (pi_revR hgr hmr (prg_1 hg hm wE_ok na) hs) (pg_name hN hi hx hf) wB_ok hfo) wB_ok, h _ σ H I.en I.at_ _ fun v H1 e1 a1 v1 => by
    cases v1
    have I1 := I.step e1 a1
    subst t0
    refine ⟨(n : Int), rfl, by omega, by omega, by omega, by omega, ?_⟩
    have en : (((n : Int) - 0).toNat) = n := by omega
    rw [en]
    refine for_rangeC (c := -1) (n := n) (fun i σ' H' => ∃ vol', OI z Hc H' vol' σ' (E i) (T i)) ⟨vol, I1.le h0⟩ (fun i σ' H' hi w => ?_) fun σ' H' w => ?_
    · obtain ⟨vol', w⟩ := w
      have e0 : ((0 : Int) + (n : Int) - 1) + ((i : Nat) : Int) * (-1) = ((n - 1 - i : Nat) : Int) := by omega
      show wB X body _ (σ'.set l (some (.int (((0 : Int) + (n : Int) - 1) + ((i : Nat) : Int) * (-1))))) H'
      rw [e0]
      exact hb i hi z Hc H' vol' _ (w.set (.refl _) w.at_ l (.int _)) _ fun vol2 σ2 H2 I2 => ⟨vol2, I2⟩
    · obtain ⟨vol', w⟩ := w
      exact k z Hc H' vol' σ' w D q⟩
/-- x, y, w, u = e -/
theorem so_unp4 (i j l m : Nat) {x y w u : Str} {kt : Nat} {d3 d4 : PyData} {p5 p6 : Pos} (hc : X.calm = true) (hN : X.N.Nodup) (h : ∀ z, EV X z e es s (.tuple [d1, d2, d3, d4]) s1) (k : SO X rest ((((es.set i (.val d1)).set j (.val d2)).set l (.val d3)).set m (.val d4)) s1 o)
    (hi : X.N[i]? = some x := by rfl) (hj : X.N[j]? = some y := by rfl) (hl : X.N[l]? = some w := by rfl) (hm : X.N[m]? = some u := by rfl) (hx : Loc X.env.scope x := by first | exact Or.inl rfl | exact Or.inr rfl) (hy : Loc X.env.scope y := by first | exact Or.inl rfl | exact Or.inr rfl) (hw' : Loc X.env.scope w := by first | exact Or.inl rfl | exact Or.inr rfl) (hu : Loc X.env.scope u := by first | exact Or.inl rfl | exact Or.inr rfl)
    (fx : X.fn x = true ∨ X.env.scope.names.lookup x = some .local := by first | exact .inl rfl | exact .inr rfl) (fy : X.fn y = true ∨ X.env.scope.names.lookup y = some .local := by first | exact .inl rfl | exact .inr rfl) (fw : X.fn w = true ∨ X.env.scope.names.lookup w = some .local := by first | exact .inl rfl | exact .inr rfl) (fu : X.fn u = true ∨ X.env.scope.names.lookup u = some .local := by first | exact .inl rfl | exact .inr rfl)
    (hs : swapsWithSole [.Tuple [.Name x p1, .Name y p2, .Name w p5, .Name u p6] kt p3] e pos.line X.env = pure false := by rfl) (hw : swappedStores [.Tuple [.Name x p1, .Name y p2, .Name w p5, .Name u p6] kt p3] e X.env = pure none := by rfl) 
    (hn : (assignEach [.Name x p1, .Name y p2, .Name w p5, .Name u p6] X.env).length = 4 := by rfl) (hst : (assignEach [.Name x p1, .Name y p2, .Name w p5, .Name u p6] X.env).findIdx? (·.1) = none := by rfl)
    (h1 : (assignEach (.Name x p1 :: [.Name y p2, .Name w p5, .Name u p6]) X.env).map (·.2) = assign (.Name x p1) X.env :: (assignEach [.Name y p2, .Name w p5, .Name u p6] X.env).map (·.2) := by rfl) (h2 : (assignEach (.Name y p2 :: [.Name w p5, .Name u p6]) X.env).map (·.2) = assign (.Name y p2) X.env :: (assignEach [.Name w p5, .Name u p6] X.env).map (·.2) := by rfl)
    (h3 : (assignEach (.Name w p5 :: [.Name u p6]) X.env).map (·.2) = assign (.Name w p5) X.env :: (assignEach [.Name u p6] X.env).map (·.2) := by rfl) (h4 : (assignEach (.Name u p6 :: []) X.env).map (·.2) = assign (.Name u p6) X.env :: (assignEach [] X.env).map (·.2) := by rfl) :
    SO X (.Assign [.Tuple [.Name x p1, .Name y p2, .Name w p5, .Name u p6] kt p3] e pos :: rest) es s o := fun z Hc H vol σ I D q =>
  ⟨_, pss_cons (ps_asg wE_ok (pg_tup hc (pgs_cons (pg_name hN hi hx fx) (pgs_cons (pg_name hN hj hy fy) (pgs_cons (pg_name hN hl hw' fw) (pgs_cons (pg_name hN hm hu fu) pgs_nil h4) h3) h2) h1) hn hst) hs hw) wB_ok, h _ σ H I.en I.at_ _ fun v H1 e1 a1 v1 => by
    cases v1 with
    | tup n e r =>
      cases r with
      | cons v1 r =>
        cases r with
        | cons v2 r =>
          cases r with
          | cons v3 r =>
            cases r with
            | cons v4 r =>
              cases r
              have w1 := I.step e1 a1
              exact ⟨_, _, rfl, .inl (.inl e), rfl, _, _, rfl, _, _, rfl, _, _, rfl, _, _, rfl, rfl, k z Hc H1 vol _ ((((w1.set (.refl _) w1.at_ i v1).set (.refl _) w1.at_ j v2).set (.refl _) w1.at_ l v3).set (.refl _) w1.at_ m v4) D q⟩⟩
end
end DL


set_option Elab.async false
set_option linter.all false
set_option maxRecDepth 100000
namespace DL
open PySem PySem.Spec PyProof.Rows L2
variable [TabT]
section
variable {X : Cx} {z : Z} {es es1 es2 : List Sl} {s s1 s2 s3 s4 : S} {iter elt cond a b c e : Expr} {ds fs : List PyData} {d d1 d2 d3 : PyData} {o : Out} {rest body els : List Stmt} {xs : List Expr} {pos p p1 p2 p3 p4 p5 p6 cpos apos : Pos}
/-- a comprehension over a list, its list still unknown to anybody -/
theorem lc_fresh {j : Nat} {scope : Scope} (hit : EV X z iter es s (.list ds) s1) (hl : ds.length ≤ 100000) (f : PyData → PyData)
    (He : ∀ d ∈ ds, ∀ z' : Z, Blk X scope fun Y => EV Y z' elt (es.set j (.val d)) s1 (f d) s1) :
    ∀ σ H, En z H σ es → At z H s → ∀ Q : VK, (∀ (D : Addr) (H1 : Hp), Ez z H H1 → At z H1 s1 → H1 D = none → ∀ (H' : Hp) (acc : List V), Ez z H1 H' → At (z.add D (.lst acc)) H' s1 → DaAll (z.add D (.lst acc)) H' acc (ds.map f) → Q (.ref D) H') → tLc (iList X.K (wE X iter)) (gName j) tYes (tEl X scope elt) [j] σ H Q := fun σ H en at_ Q q => by
  refine hit σ H en at_ _ fun v H1 e1 a1 v1 => ?_
  cases v1 with
  | @lst a xs _ fa ha r =>
    have hx : xs.length = ds.length := r.length
    have g : ∀ i, i < xs.length → ds[i]? = some (ds.getD i .none) := fun i hi => by
      rw [List.getD_eq_getElem?_getD, List.getElem?_eq_getElem (by omega)]
      rfl
    refine ⟨a, rfl, ⟨xs, .inl (.inl ha)⟩, fun D hD => ?_⟩
    refine lc_allO (g := gName j) (ws := [j]) (walk_list (K := X.K) (a := a) (xs := xs)) (fun _ => s1) (fun _ => s1) a1 hD (fun i => es.set j (.val (ds.getD i .none))) (fun H' e => .inl (.inl (e a _ fa ha))) (fun i x H' H2 o hi e2 hy a2 Q q => ?_) (by omega) (fun _ => true) (fun i => (ds.take i).map f) rfl (fun z' i hi σ H en at_ Q q => q H (.refl H) at_)
      (fun z' i hi _ => ⟨f (ds.getD i .none), take_succ (g i hi), fun σ H en at_ Q q s0 H0 C cl fp => He _ (List.mem_of_getElem? (g i hi)) z' s0 H0 C cl fp σ H en at_ Q q⟩) (fun i _ h => by cases h) (fun H' acc e hD2 a2 r2 => ?_)
    · obtain ⟨rfl, hv⟩ := hy
      have reach : ∀ (b : Addr) (u : HO), Fz z b → H1 b = some u → Fz (z.add D o) b ∧ H2 b = some u := fun b u fb hb => ⟨fb.to_add (ne_of_none hb hD), e2 b u fb hb⟩
      have es2 : (wipe σ [j]).set j (some x) = σ.set j (some x) := by
        show (σ.set j none).set j (some x) = _
        rw [List.set_set]
      show Q ((wipe σ [j]).set j (some x)) H2
      rw [es2]
      have en0 : En (z.add D o) H2 σ es := En.re (z := z) (z' := z.add D o) rfl (fun q h => List.mem_cons_of_mem _ h) reach (en.mono e1)
      obtain ⟨d, hd, hdv⟩ := r.getV i x hv
      have := g i hi
      rw [hd] at this
      refine q _ H2 (by
        show (σ.set j (some x)).set j none = σ.set j none
        rw [List.set_set]) (.refl _) a2 (en0.set j (.val ?_))
      rw [← Option.some.inj this]
      exact hdv.re reach
    · rw [hx, List.take_length] at r2
      exact q D H1 e1 a1 hD H' acc e a2 r2
/-- y = [e for x in a list], a list of one's own -/
theorem so_lcL {j k : Nat} {x y : Str} {scope : Scope} {py spos : Pos} (hc : X.calm = true) (hN : X.N.Nodup) (f : PyData → PyData) (hit : ∀ z, EV X z iter es s (.list ds) s1) (hl : ds.length ≤ 100000) (hB : BlkOk X.N X.env.scope scope [(x, j)]) (hg : PgIn X scope (.Name x p) (gName j))
    (He : ∀ d ∈ ds, ∀ z' : Z, Blk X scope fun Y => EV Y z' elt (es.set j (.val d)) s1 (f d) s1) (kk : SO X rest (es.set k (.own (ds.map f))) s1 o) (hi : X.N[k]? = some y := by rfl) (hy : List.lookup y X.env.scope.names = some NameKind.local := by rfl)
    (hsw : swapsWith (.ListComp elt [{ target := .Name x p, iter := iter, ifs := [], is_async := 0 }] scope pos) (some (.Name y py)) spos.line X.env = pure true := by exact sw_true rfl rfl rfl (by decide +kernel)) (hs : ∀ x, foldedSetIterable iter X.env x = pure x := by intro _; rfl) :
    SO X (.Assign [.Name y py] (.ListComp elt [{ target := .Name x p, iter := iter, ifs := [], is_async := 0 }] scope pos) spos :: rest) es s o := fun z Hc H vol σ I D q =>
  ⟨_, pss_cons (ps_setLc (i := k) (own := [(x, j)]) hc hN hi hy hsw (pi_list wE_ok) hB hg (fun _ _ _ _ _ => pts_nil) tEl_ok hs) wB_ok, by
    show tLc (iList X.K (wE X iter)) (gName j) tYes (tEl X scope elt) [j] σ H (fun v H1 => wB X rest D (σ.set k (some v)) H1)
    exact lc_fresh (X := X) (j := j) (hit _) hl f He σ H I.en I.at_ _ fun D' H1 e1 a1 hD H' acc e a2 r2 => kk z Hc H' _ _ (I.fresh k e1 a1 hD e a2 r2) D q⟩
/-- x, y = [e for .. in a list], []: two lists of one's own -/
theorem so_parLN (i k : Nat) {j : Nat} {x y v : Str} {kt k2 : Nat} {scope : Scope} {pl cp : Pos} (hc : X.calm = true) (hN : X.N.Nodup) (f : PyData → PyData) (hit : ∀ z, EV X z iter es s (.list ds) s1) (hl : ds.length ≤ 100000) (hB : BlkOk X.N X.env.scope scope [(v, j)]) (hg : PgIn X scope (.Name v p) (gName j))
    (He : ∀ d ∈ ds, ∀ z' : Z, Blk X scope fun Y => EV Y z' elt (es.set j (.val d)) s1 (f d) s1) (kk : SO X rest ((es.set i (.own (ds.map f))).set k (.own [])) s1 o)
    (hi : X.N[i]? = some x := by rfl) (hj : X.N[k]? = some y := by rfl) (hij : i ≠ k := by decide) (hx : X.env.scope.names.lookup x = some .local := by rfl) (hy : X.env.scope.names.lookup y = some .local := by rfl)
    (hs1 : starEach [.ListComp elt [{ target := .Name v p, iter := iter, ifs := [], is_async := 0 }] scope cp, .List [] pl] X.env = (false, eval (.ListComp elt [{ target := .Name v p, iter := iter, ifs := [], is_async := 0 }] scope cp) X.env) :: starEach [.List [] pl] X.env := by rfl) (hs2 : starEach [.List [] pl] X.env = (false, eval (.List [] pl) X.env) :: starEach [] X.env := by rfl)
    (hw : swappedStores [.Tuple [.Name x p1, .Name y p2] kt p3] (.Tuple [.ListComp elt [{ target := .Name v p, iter := iter, ifs := [], is_async := 0 }] scope cp, .List [] pl] k2 p4) X.env = pure (some [x, y]) := by rfl) (hs : swapsWithSole [.Tuple [.Name x p1, .Name y p2] kt p3] (.Tuple [.ListComp elt [{ target := .Name v p, iter := iter, ifs := [], is_async := 0 }] scope cp, .List [] pl] k2 p4) pos.line X.env = pure false := by rfl) (hfs : ∀ x, foldedSetIterable iter X.env x = pure x := by intro _; rfl) :
    SO X (.Assign [.Tuple [.Name x p1, .Name y p2] kt p3] (.Tuple [.ListComp elt [{ target := .Name v p, iter := iter, ifs := [], is_async := 0 }] scope cp, .List [] pl] k2 p4) pos :: rest) es s o := fun z Hc H vol σ I D q =>
  ⟨_, pss_cons (ps_par hc hN hi hj hij hx hy (pa_cons (pe_lc (own := [(v, j)]) hc hN (pi_list wE_ok) hB hg (fun _ _ _ _ _ => pts_nil) tEl_ok hfs) (pa_cons (pe_lst pa_nil) pa_nil hs2) hs1) hw hs) wB_ok, by
    unfold tSeq tPar
    unfold tCons
    refine lc_fresh (X := X) (j := j) (hit _) hl f He σ H I.en I.at_ _ fun D' H1 e1 a1 hD H' acc e a2 r2 => ⟨Nat.zero_le _, fun l hl => by
      have w2 := I.fresh i e1 a1 hD e a2 r2
      exact ⟨_, _, rfl, kk z Hc _ _ _ (w2.fresh k (vs := []) (.refl _) w2.at_ hl (.new hl) (w2.at_.fill hl) .nil) D q⟩⟩⟩
/-- x = xs.pop(e) -/
theorem so_popAt (i l : Nat) {x y : Str} {k : Nat} (hN : X.N.Nodup) (h : ∀ z, EV X z e es s (.int (k : Int)) s1) (hk : ds[k]? = some d) (hk2 : ds.length ≤ 100000) (kk : SO X rest ((es.set i (.own (ds.eraseIdx k))).set l (.val d)) s1 o) (ho : es[i]? = some (.own ds) := by rfl) (hNi : X.N[i]? = some x := by rfl) (hNl : X.N[l]? = some y := by rfl) (hil : i ≠ l := by decide) (hv : Vis X.env.scope x := by first | exact Or.inl rfl | exact Or.inr (Or.inl rfl) | exact Or.inr (Or.inr rfl)) (hx : Loc X.env.scope y := by first | exact Or.inl rfl | exact Or.inr rfl)
    (hd : (x == ("__debug__" : Str)) = false := by decide) (hcd : (x == ("__classdict__" : Str)) = false := by decide) (hbase : attributeBase (.Name x p) "pop" X.env (eval (.Name x p) X.env) = eval (.Name x p) X.env := by rfl)
    (hfew : ((backTo cpos (starEach (e :: []) X.env)).all (fun x => !x.1) && (backToKw cpos (keywordEach [] X.env)).all (fun x => x.1.isSome) && decide ((e :: []).length + ([] : List Keyword).length + (if ([] : List Keyword).isEmpty then 0 else 1) < 30)) = true := by rfl)
    (hline : (apos.endLine == cpos.line) = true := by rfl) (hse : starEach (e :: []) X.env = (false, eval e X.env) :: starEach [] X.env := by rfl) (hpl : (backTo cpos (starEach [] X.env)).any (·.1) = false := by rfl) (hs : swapsWith (.Call (.Attribute (.Name x p) "pop" apos) [e] [] cpos) (some (.Name y p1)) pos.line X.env = pure false := by rfl) (hf : X.fn y = true ∨ X.env.scope.names.lookup y = some .local := by first | exact .inl rfl | exact .inr rfl) :
    SO X (.Assign [.Name y p1] (.Call (.Attribute (.Name x p) "pop" apos) [e] [] cpos) pos :: rest) es s o := fun z Hc H vol σ I D q =>
  ⟨_, pss_cons (ps_set hN hNl hx (pe_bm PySem.F.plainAttrs_list PySem.F.slot_list_pop PySem.F.type_list_pop mt_popAt (pe_var hNi hv hd hcd) (pa_cons wE_ok pa_nil hse) hbase hfew hline hse hpl) hs hf) wB_ok, by
    obtain ⟨y, hy, r⟩ := I.en.slot ho
    cases r with
    | @own a vs _ m kr =>
      refine ⟨_, hy, .inl ⟨rfl, vs, .inl (.inl (I.at_.v _ m))⟩, h _ σ H I.en I.at_ _ fun v H1 e1 a1 v1 => ?_⟩
      cases v1
      have k1 := kr.mono e1
      have kl : vs.length = ds.length := k1.length
      have klt := (List.getElem?_eq_some_iff.mp hk).1
      obtain ⟨w, hw, hwd⟩ := k1.get k d hk
      have gen : ∀ {zz : Z} {H : Hp} (vs : List V) (ds : List PyData) (j : Nat), DaAll zz H vs ds → DaAll zz H (vs.eraseIdx j) (ds.eraseIdx j) := by
        intro zz H vs
        induction vs with
        | nil => intro ds j h; cases h; exact .nil
        | cons x vs ih =>
          intro ds j h
          cases h with
          | cons h1 h2 =>
            cases j with
            | zero => exact h2
            | succ j => exact .cons h1 (ih _ j h2)
      obtain ⟨vol', I', re⟩ := I.writeR ho hy m e1 a1 (gen vs ds k k1)
      have six : seqIndex? (k : Int) vs.length = some k := by
        have h0 : ¬ ((k : Int) < 0) := by omega
        have h1 : (decide ((0 : Int) ≤ (k : Int)) && decide ((k : Int) < (vs.length : Int))) = true := by
          rw [decide_eq_true (by omega), decide_eq_true (by omega)]
          rfl
        unfold seqIndex?
        simp only [if_neg h0]
        rw [if_pos h1, Int.toNat_natCast]
      refine ⟨a, vs, (k : Int), k, w, rfl, rfl, a1.v _ m, by omega, by omega, six, hw, ?_⟩
      exact kk z Hc _ vol' _ (I'.set (.refl _) I'.at_ l (hwd.re re)) D q⟩
end
end DL


set_option Elab.async false
set_option linter.all false
set_option maxRecDepth 100000
namespace DL
open PySem PySem.Spec PyProof.Rows L2
variable [TabT]
section
variable {X : Cx} {z : Z} {es : List Sl} {s : S} {elt cond : Expr} {ds : List PyData} {o : Out} {rest : List Stmt} {pos p p1 p2 p3 p4 p5 p6 : Pos}
/-- the turns of a comprehension, what it walks being an own list -/
theorem lc_allP {te : TE} {tt : TT} {g : TG} {ws : List Nat} {n : Nat} {J : It} {G : Hp → Prop} {Y : Nat → Hp → V → Hp → Prop} (wk : Walk J n G Y) {σ : L2.St} {H1 : Hp} {D : Addr} (T U : Nat → S) (a1 : At z H1 (T 0)) (hD : H1 D = none) (esT : Nat → List Sl)
    (hG : ∀ H' o i, Ez z H1 H' → At (z.add D o) H' (T i) → G H') (turn : ∀ (i : Nat) (x : V) (H' H2 : Hp) (o : HO), i < n → Ez z H1 H' → Y i H' x H2 → At (z.add D o) H' (T i) → ∀ Q : L2.St → Hp → Prop, (∀ σ2 H3, wipe σ2 ws = wipe σ ws → Ez (z.add D o) H' H3 → At (z.add D o) H3 (T i) → En (z.add D o) H3 σ2 (esT i) → Q σ2 H3) → g x (wipe σ ws) H2 Q) (hl : n ≤ 100000) (kb : Nat → Bool) (A : Nat → List PyData) (hA0 : A 0 = [])
    (Ht : ∀ (z' : Z) (i : Nat), i < n → ∀ σ H, En z' H σ (esT i) → At z' H (T i) → ∀ Q : Bool → Hp → Prop, (∀ H2, Ez z' H H2 → At z' H2 (U i) → Q (kb i) H2) → tt σ H Q)
    (He : ∀ (z' : Z) (i : Nat), i < n → kb i = true → ∃ y, A (i + 1) = A i ++ [y] ∧ ∀ σ H, En z' H σ (esT i) → At z' H (U i) → ∀ Q : VK, (∀ v H2, Ez z' H H2 → At z' H2 (T (i + 1)) → Da z' H2 v y → Q v H2) → te σ H Q)
    (hn : ∀ (i : Nat), i < n → kb i = false → A (i + 1) = A i ∧ T (i + 1) = U i) {Qd : Hp → Prop} (hQ : ∀ H' acc, Ez z H1 H' → H' D = some (.lst acc) → At (z.add D (.lst acc)) H' (T n) → DaAll (z.add D (.lst acc)) H' acc (A n) → Qd H') :
    ∃ W : Nat → Nat → Hp → Prop, (∃ m, W 0 m (upd H1 D (.lst []))) ∧ ∀ i m H, W i m H → (J.stop i H ∧ Qd H) ∨ (J.go i H ∧ ∃ Nx : Hp → Prop, (∀ H', Nx H' → ∃ m', m' < m ∧ W (i + 1) m' H') ∧ ∀ x H', J.yld i H x H' → g x (wipe σ ws) H' fun σ2 H2 => wipe σ2 ws = wipe σ ws ∧ tt σ2 H2 fun b H3 =>
        if b = true then te σ2 H3 fun y H4 => ∃ acc, H4 D = some (.lst acc) ∧ acc.length < sizeLine ∧ Nx (upd H4 D (.lst (acc ++ [y]))) else Nx H3) := by
  have lA : ∀ i, i ≤ n → (A i).length ≤ i := by
    intro i
    induction i with
    | zero => intro _; rw [hA0]; exact Nat.le_refl _
    | succ i ih =>
      intro hi
      cases hk : kb i with
      | true =>
        obtain ⟨y, hy, _⟩ := He z i (by omega) hk
        rw [hy, List.length_append]
        have := ih (by omega)
        simp
        omega
      | false =>
        rw [(hn i (by omega) hk).1]
        have := ih (by omega)
        omega
  have reach : ∀ {H' : Hp} {o : HO}, Ez z H1 H' → ∀ (b : Addr) (u : HO), Fz z b → H1 b = some u → Fz (z.add D o) b ∧ H' b = some u := fun e b u fb hb => ⟨fb.to_add (ne_of_none hb hD), e b u fb hb⟩
  have up : ∀ {H' H2 : Hp} {o : HO}, Ez z H1 H' → Ez (z.add D o) H' H2 → Ez z H1 H2 := fun e e2 b u fb hb => e2 b u (fb.to_add (ne_of_none hb hD)) (e b u fb hb)
  refine lc_it wk (fun i H' => Ez z H1 H' ∧ ∃ acc, H' D = some (.lst acc) ∧ At (z.add D (.lst acc)) H' (T i) ∧ DaAll (z.add D (.lst acc)) H' acc (A i)) ?_ (fun i H' _ w => by
    obtain ⟨e, acc, h1, h2, _⟩ := w
    exact hG H' _ i e h2) ?_ ?_
  · refine ⟨.new hD, [], upd_same, ⟨?_, ?_, ?_, tabs_new a1.t hD⟩, ?_⟩
    · intro b hb
      rw [upd_ne (ne_of_none (a1.d b hb) hD)]
      exact a1.d b hb
    · intro p hp
      rcases List.mem_cons.mp hp with e | e
      · rw [e]
        exact upd_same
      · rw [upd_ne (ne_of_none (a1.v p e) hD)]
        exact a1.v p e
    · intro p hp
      rcases List.mem_cons.mp hp with e | e
      · refine ⟨fun e2 => ?_, by rw [e]; exact .lst _⟩
        rw [e] at e2
        have := a1.d D e2
        rw [this] at hD
        cases hD
      · exact a1.n p e
    · rw [hA0]
      exact .nil
  · intro i x H0 H' hi w hy
    obtain ⟨e2, acc, hDa, a2, rA⟩ := w
    refine turn i x H0 H' (.lst acc) hi e2 hy a2 _ fun σ2 H5 hw e5 a5 en2 => ⟨hw, ?_⟩
    refine Ht _ i hi _ H5 en2 a5 _ fun H3 e30 a3 => ?_
    have e3 := e5.trans e30
    have hD3 : H3 D = some (.lst acc) := a3.v (D, .lst acc) (List.mem_cons_self ..)
    cases hk : kb i with
    | false =>
      obtain ⟨n1, n2⟩ := hn i hi hk
      refine iteF ⟨up e2 e3, acc, hD3, by rw [n2]; exact a3, by rw [n1]; exact rA.mono e3⟩
    | true =>
      obtain ⟨y, hy, go⟩ := He (z.add D (.lst acc)) i hi hk
      refine iteT (go _ H3 (en2.mono e30) a3 _ fun v H4 e4 a4 v4 => ?_)
      have hD4 : H4 D = some (.lst acc) := a4.v (D, .lst acc) (List.mem_cons_self ..)
      have rA4 := (rA.mono e3).mono e4
      have la := rA4.length
      have := lA i (by omega)
      have far : ∀ (b : Addr) (u : HO), Fz (z.add D (.lst acc)) b → H4 b = some u → Fz (z.add D (.lst (acc ++ [v]))) b ∧ upd H4 D (.lst (acc ++ [v])) b = some u := fun b u fb hb => by
        obtain ⟨f1, f2⟩ := fb.of_add
        exact ⟨f1.to_add f2, by rw [upd_ne f2]; exact hb⟩
      refine ⟨acc, hD4, Nat.lt_of_lt_of_le (show acc.length < 100001 by omega) (by decide), ?_, acc ++ [v], upd_same, ⟨?_, ?_, ?_, tabs_upd a4.t hD4⟩, ?_⟩
      · intro b u fb hb
        rw [upd_ne (ne_of_none hb hD)]
        exact up (up e2 e3) e4 b u fb hb
      · intro b hb
        rw [upd_ne (fun e => (a4.n (D, .lst acc) (List.mem_cons_self ..)).1 (by rw [← e]; exact hb))]
        exact a4.d b hb
      · intro p hp
        rcases List.mem_cons.mp hp with e | e
        · rw [e]
          exact upd_same
        · have h1 := a1.v p e
          rw [upd_ne (ne_of_none h1 hD)]
          exact a4.v p (List.mem_cons_of_mem _ e)
      · intro p hp
        rcases List.mem_cons.mp hp with e | e
        · rw [e]
          exact ⟨(a4.n (D, .lst acc) (List.mem_cons_self ..)).1, .lst _⟩
        · exact a4.n p (List.mem_cons_of_mem _ e)
      · rw [hy]
        exact (rA4.re far).app (.cons (v4.re far) .nil)
  · intro H' w
    obtain ⟨e2, acc, hDa, a2, rA⟩ := w
    exact hQ H' acc e2 hDa a2 rA
/-- y = [e for i, x in enumerate(own) if c]: what is let, as a list of one's own -/
theorem so_lcEIfO {j k m l : Nat} {x y v u : Str} {scope : Scope} {kt : Nat} {py spos : Pos} (hc : X.calm = true) (hN : X.N.Nodup) (hm : X.mg "enumerate" = none) (hjk : j ≠ k) (kb : Nat → Bool) (ho : es[m]? = some (.own ds)) (hNm : X.N[m]? = some u) (hvi : Vis X.env.scope u) (hl : ds.length ≤ 100000) (hB : BlkOk X.N X.env.scope scope [(x, j), (y, k)])
    (hg : PgIn X scope (.Tuple [.Name x p, .Name y p1] kt p2) (gTup X.K 2 (gCons (gName j) (gCons (gName k) gNil))))
    (Ht : ∀ (i : Nat) d, ds[i]? = some d → ∀ z' : Z, Blk X scope fun Y => ET Y z' cond ((es.set j (.val (.int (i : Int)))).set k (.val d)) s (kb i) s)
    (He : ∀ (i : Nat) d, ds[i]? = some d → ∀ z' : Z, Blk X scope fun Y => EV Y z' elt ((es.set j (.val (.int (i : Int)))).set k (.val d)) s (.int (i : Int)) s)
    (kk : SO X rest (es.set l (.own (((List.range ds.length).filter kb).map fun i : Nat => PyData.int ((i : Nat) : Int)))) s o) (hi : X.N[l]? = some v := by rfl) (hy : List.lookup v X.env.scope.names = some NameKind.local := by rfl)
    (hsw : swapsWith (.ListComp elt [{ target := .Tuple [.Name x p, .Name y p1] kt p2, iter := .Call (.Name "enumerate" p3) [.Name u p5] [] p4, ifs := [cond], is_async := 0 }] scope pos) (some (.Name v py)) spos.line X.env = pure true := by exact sw_true rfl rfl rfl (by decide +kernel))
    (hd : (u == ("__debug__" : Str)) = false := by decide) (hcd : (u == ("__classdict__" : Str)) = false := by decide) (hgl : Gl X "enumerate" := by rfl) (hst : starEach [.Name u p5] X.env = [(false, eval (.Name u p5) X.env)] := by rfl)
    (hs : ∀ x, foldedSetIterable (.Call (.Name "enumerate" p3) [.Name u p5] [] p4) X.env x = pure x := by intro _; rfl) :
    SO X (.Assign [.Name v py] (.ListComp elt [{ target := .Tuple [.Name x p, .Name y p1] kt p2, iter := .Call (.Name "enumerate" p3) [.Name u p5] [] p4, ifs := [cond], is_async := 0 }] scope pos) spos :: rest) es s o := fun z Hc H vol σ I D q =>
  ⟨_, pss_cons (ps_setLc (i := l) (own := [(x, j), (y, k)]) hc hN hi hy hsw (pi_enum hgl hm (pa_cons (pe_var hNm hvi hd hcd) pa_nil hst) hst) hB hg tTs_ok tEl_ok hs) wB_ok, by
    obtain ⟨w, hw, r⟩ := I.en.slot ho
    cases r with
    | @own a xs _ mm kr =>
      have ha : H a = some (.lst xs) := I.at_.v _ mm
      have hx : xs.length = ds.length := kr.length
      have g1 : ∀ i, i < xs.length → ds[i]? = some (ds.getD i .none) := fun i hi => by
        rw [List.getD_eq_getElem?_getD, List.getElem?_eq_getElem (by omega)]
        rfl
      show tLc (iEnum X.K (tCons _ tNil)) (gTup X.K 2 (gCons (gName j) (gCons (gName k) gNil))) (tTs X scope cond) (tEl X scope elt) [j, k] σ H (fun v H1 => wB X rest D (σ.set l (some v)) H1)
      refine ⟨_, hw, a, xs, rfl, .inl (.inl ha), fun D' hD => ?_⟩
      let A : Nat → List PyData := fun i => ((List.range i).filter kb).map fun i : Nat => PyData.int ((i : Nat) : Int)
      have step : ∀ i, A (i + 1) = A i ++ (if kb i then [PyData.int ((i : Nat) : Int)] else []) := fun i => by
        show ((List.range (i + 1)).filter kb).map _ = _
        rw [List.range_succ, List.filter_append, List.map_append]
        congr 1
        cases hk : kb i
        · rw [List.filter_cons_of_neg (by rw [hk]; decide)]
          rfl
        · rw [List.filter_cons_of_pos hk]
          rfl
      refine lc_allP (g := gTup X.K 2 (gCons (gName j) (gCons (gName k) gNil))) (ws := [j, k]) (walk_enum (K := X.K) (a := a) (xs := xs)) (fun _ => s) (fun _ => s) I.at_ hD (fun i => (es.set j (.val (.int (i : Int)))).set k (.val (ds.getD i .none))) (fun H' oo i e a2 => ?_) (fun i x H' H2 oo hi e2 hY a2 Q q => ?_) (by omega) kb A rfl (fun z' i hi σ H en at_ Q q s0 H0 C cl fp => Ht i _ (g1 i hi) z' s0 H0 C cl fp σ H en at_ Q q)
        (fun z' i hi hk => ⟨_, by rw [step i, if_pos hk], fun σ H en at_ Q q s0 H0 C cl fp => He i _ (g1 i hi) z' s0 H0 C cl fp σ H en at_ Q q⟩) (fun i _ h => ⟨by rw [step i, if_neg (by rw [h]; decide), List.append_nil], rfl⟩) (fun H' acc e hD2 a2 r2 => ?_)
      · exact .inl (.inl (a2.v _ (List.mem_cons_of_mem _ mm)))
      · obtain ⟨T, u', v', rfl, nT, rfl, hu, hv⟩ := hY
        cases hu
        obtain ⟨d, hd', hdv⟩ := kr.getV i v' hv
        rw [g1 i hi] at hd'
        have hdv : Da (z.own vol) H v' (ds.getD i .none) := by rw [Option.some.inj hd']; exact hdv
        have e3 : Ez ((z.own vol).add D' oo) H' (upd H' T (.tup [.int (i : Int), v'])) := .new nT
        have reach : ∀ (b : Addr) (w : HO), Fz (z.own vol) b → H b = some w → Fz ((z.own vol).add D' oo) b ∧ upd H' T (.tup [.int (i : Int), v']) b = some w := fun b w fb hb => by
          have f := fb.to_add (o := oo) (ne_of_none hb hD)
          exact ⟨f, e3 b w f (e2 b w fb hb)⟩
        have w0 : wipe σ [j, k] = (σ.set k none).set j none := rfl
        have es2 : ((wipe σ [j, k]).set j (some (.int (i : Int)))).set k (some v') = (σ.set j (some (.int (i : Int)))).set k (some v') := by
          rw [w0, List.set_set, List.set_comm _ _ hjk, List.set_set, List.set_comm _ _ hjk.symm]
        refine ⟨T, [.int (i : Int), v'], rfl, .inl (.inl upd_same), rfl, .int (i : Int), [v'], rfl, v', [], rfl, rfl, ?_⟩
        rw [es2]
        have en0 : En ((z.own vol).add D' oo) (upd H' T (.tup [.int (i : Int), v'])) σ es := En.re (z := z.own vol) (z' := (z.own vol).add D' oo) rfl (fun q h => List.mem_cons_of_mem _ h) reach I.en
        refine q _ _ ?_ e3 (a2.new nT) ((en0.set j (.val (.int _))).set k (.val (hdv.re reach)))
        show (((σ.set j (some (.int (i : Int)))).set k (some v')).set k none).set j none = (σ.set k none).set j none
        rw [List.set_set, List.set_comm _ _ hjk, List.set_set, List.set_comm _ _ hjk.symm]
      · rw [hx] at r2
        exact kk z Hc H' _ _ (I.fresh l (.refl _) I.at_ hD e a2 r2) D q⟩
end
end DL


set_option Elab.async false
set_option linter.all false
set_option maxRecDepth 100000
namespace DL
open PySem PySem.Spec PyProof.Rows L2
variable [TabT]
/-! ### zip over a list and a tuple -/
/-- kind true: a tuple; kind false: a list -/
def SqK (kd : Bool) (K : PySem.W.Frag) (H : Hp) (a : Addr) (xs : List V) : Prop := match kd with
  | true => SqT K H a xs
  | false => SqL K H a xs
def ObK (kd : Bool) (h : Heap) (a : Addr) (us : Array Value) : Prop := match kd with
  | true => h.IsTuple a us
  | false => h.IsList a us
def ItK (kd : Bool) (h : Heap) (it a : Addr) (i : Nat) : Prop := match kd with
  | true => h.IsTupleIter it a i
  | false => h.IsListIter it a i
def itob (kd : Bool) (a : Addr) : Obj := match kd with
  | true => { cls := .type "tuple_iterator", data := .fields #[.ref a, .int 0 0] }
  | false => { cls := .type "list_iterator", data := .fields #[.ref a, .int 0 0] }
theorem SqK.inj {X : Cx} {pins : List (Addr × Obj)} {σ : L2.St} {H : Hp} {s : Shared} {kd : Bool} {a : Addr} {xs ys : List V} (I : Inv X pins σ H s) (p : SqK kd X.K H a xs) (q : SqK kd X.K H a ys) : xs = ys := by
  cases kd with
  | true => exact I.tuple_inj p q
  | false => exact I.list_inj p q
theorem SqK.obj {X : Cx} {pins : List (Addr × Obj)} {σ : L2.St} {H : Hp} {s : Shared} {kd : Bool} {a : Addr} {xs : List V} (I : Inv X pins σ H s) (p : SqK kd X.K H a xs) : ∃ us : List Value, Vals xs us ∧ ObK kd s.heap a us.toArray ∧ a < s.heap.objs.size := by
  cases kd with
  | true =>
    obtain ⟨us, r, q, _⟩ := I.tuple p
    obtain ⟨o, ho, _⟩ := id q
    exact ⟨us, r, q, Heap.lt_size ho⟩
  | false =>
    obtain ⟨us, r, q, _⟩ := I.list p
    exact ⟨us, r, q.isList, q.lt⟩
theorem ItK.drw {kd : Bool} {prog : Program} {w : World} {A : Around} (hh : A.handled = none) {it a : Addr} (ne : a ≠ it) (us : Array Value) : Draws prog w A it [it, a] us.size (fun i v => us[i]? = some v) (fun i h => ItK kd h it a i ∧ ObK kd h a us) := by
  cases kd with
  | true => exact Draws.tuple hh it a ne us
  | false => exact Draws.list hh it a ne us
theorem ItK.beg (kd : Bool) (a : Addr) (us : Array Value) : Begins (.ref a) (itob kd a) fun h => ObK kd h a us := by
  cases kd with
  | true => exact begins_tuple a us
  | false => exact begins_list a us
theorem ItK.keep {kd : Bool} {h h' : Heap} {it a : Addr} {i : Nat} (st : ItK kd h it a i) (k : ∀ o, h.get? it = some o → h'.get? it = some o) : ItK kd h' it a i := by
  cases kd with
  | true => exact st.at k
  | false => exact st.at k
theorem ItK.cell {kd : Bool} {h : Heap} {it a : Addr} {i : Nat} (st : ItK kd h it a i) : ∃ o, h.get? it = some o ∧ ∀ v, o.data ≠ .cell v := by
  cases kd with
  | true =>
    obtain ⟨o, e, _, d⟩ := st
    exact ⟨o, e, fun v q => by rw [d] at q; cases q⟩
  | false =>
    obtain ⟨o, e, _, d⟩ := st
    exact ⟨o, e, fun v q => by rw [d] at q; cases q⟩
theorem ItK.zero {kd : Bool} {h : Heap} {it a : Addr} (e : h.get? it = some (itob kd a)) : ItK kd h it a 0 := by
  cases kd with
  | true => exact ⟨_, e, rfl, rfl⟩
  | false => exact ⟨_, e, rfl, rfl⟩
/-- both as they stand at each turn, the items in new pairs -/
def ItzK (K : PySem.W.Frag) (k1 k2 : Bool) (a b : Addr) : It where
  go i H := ∃ (xs ys : List V) (x y : V), SqK k1 K H a xs ∧ SqK k2 K H b ys ∧ xs[i]? = some x ∧ ys[i]? = some y
  yld i H v H' := ∃ T x y, v = .ref T ∧ H T = none ∧ H' = upd H T (.tup [x, y]) ∧ (∀ xs, SqK k1 K H a xs → xs[i]? = some x) ∧ ∀ ys, SqK k2 K H b ys → ys[i]? = some y
  stop i H := ∃ xs ys : List V, SqK k1 K H a xs ∧ SqK k2 K H b ys ∧ (xs.length = i ∨ ys.length = i) ∧ i ≤ xs.length ∧ i ≤ ys.length
/-- what the five objects of the zip hold at turn i -/
def zst (k1 k2 : Bool) (a b : Addr) (N : Nat) (i : Nat) (h : Heap) : Prop := IsZip h (N + 4) (N + 2) (N + 3) .none ∧ IsTupOf2 h (N + 2) (.ref N) (.ref (N + 1)) ∧ (∃ x y, IsTupOf2 h (N + 3) x y) ∧ ItK k1 h N a i ∧ ItK k2 h (N + 1) b i
def five (N : Nat) : List Addr := [N + 4, N + 2, N + 3, N, N + 1]
theorem five_of {N : Nat} {c : Addr} (h : c ∈ five N) : c = N + 4 ∨ c = N + 2 ∨ c = N + 3 ∨ c = N ∨ c = N + 1 := by simpa [five] using h
theorem in_five {N : Nat} {c : Addr} (h : c = N + 4 ∨ c = N + 2 ∨ c = N + 3 ∨ c = N ∨ c = N + 1) : c ∈ five N := by simpa [five] using h
theorem turn_zipK {P : Program} {w : World} {K : PySem.W.Frag} {elts : List Expr} {kk : Nat} {tpos : Pos} {k1 k2 : Bool} {a b : Addr} {N : Nat} (ha : (a : Nat) < N) (hb : (b : Nat) < N) : Turn P w K (.Tuple elts kk tpos) (ItzK K k1 k2 a b) (five N) (N + 4) (zst k1 k2 a b N) where
  mem := in_five (.inl rfl)
  obj i h st c hc := by
    obtain ⟨s1, s2, ⟨x, y, s3⟩, s4, s5⟩ := st
    rcases five_of hc with q | q | q | q | q <;> subst q
    · exact ⟨_, s1, fun v q => nomatch q⟩
    · exact ⟨_, s2, fun v q => nomatch q⟩
    · exact ⟨_, s3, fun v q => nomatch q⟩
    · exact s4.cell
    · exact s5.cell
  keep i h h' st k := by
    obtain ⟨s1, s2, ⟨x, y, s3⟩, s4, s5⟩ := st
    exact ⟨k _ (in_five (.inl rfl)) _ s1, k _ (in_five (.inr (.inl rfl))) _ s2, ⟨x, y, k _ (in_five (.inr (.inr (.inl rfl)))) _ s3⟩, s4.keep fun o e => k _ (in_five (.inr (.inr (.inr (.inl rfl))))) o e, s5.keep fun o e => k _ (in_five (.inr (.inr (.inr (.inr rfl))))) o e⟩
  item := by
    intro X eP ew eK cm i pins s σ H E I hf st hg
    subst eP ew eK
    obtain ⟨s1, s2, ⟨x0, y0, s3⟩, s4, s5⟩ := st
    obtain ⟨xs, ys, x, y, g1, g2, g3, g4⟩ := hg
    obtain ⟨us, ra, oa, _⟩ := g1.obj I
    obtain ⟨ws, rb, ob, _⟩ := g2.obj I
    obtain ⟨u, hu, ru⟩ := ra.get g3
    obtain ⟨u2, hu2, ru2⟩ := rb.get g4
    have hd : X.A.in1.handled = none := I.ok.hd cm
    have na : (a : Nat) ≠ N := Nat.ne_of_lt ha
    have nb : (b : Nat) ≠ N + 1 := Nat.ne_of_lt (Nat.lt_succ_of_lt hb)
    have iu : i < us.toArray.size := by
      have := (List.getElem?_eq_some_iff.mp hu).1
      simpa using this
    have iw : i < ws.toArray.size := by
      have := (List.getElem?_eq_some_iff.mp hu2).1
      simpa using this
    refine wpAny_pyNext_zipD2_item (zip_sep2 (fp1 := [a]) (fp2 := [b]) (by simpa using ha) (by simpa using hb)) (ItK.drw hd na us.toArray) (ItK.drw hd nb ws.toArray) s1 s2 s3 ⟨s4, oa⟩ ⟨s5, ob⟩ iu iw fun x1 x2 h1 tk p1 p2 z1 t1 d1 d2 nt sz kp => ?_
    have e1 : x1 = u := by
      have p1' : us[i]? = some x1 := by simpa using p1
      rw [hu] at p1'
      exact (Option.some.inj p1').symm
    have e2 : x2 = u2 := by
      have p2' : ws[i]? = some x2 := by simpa using p2
      rw [hu2] at p2'
      exact (Option.some.inj p2').symm
    subst e1
    subst e2
    have zl : (N + 4 : Nat) < s.heap.objs.size := Heap.lt_size s1
    refine ⟨_, rfl, wpAny_letOwnedTupleGo_zip (s := { s with heap := h1, toks := tk }) z1 fun h2 z2 sb => ?_⟩
    have low : ∀ {c : Addr}, c ∈ five N → (c : Nat) < s.heap.objs.size := fun {c} hc => by
      have : (c : Nat) ≤ N + 4 := by
        rcases five_of hc with q | q | q | q | q <;> subst q <;> first | exact Nat.le_refl _ | exact Nat.add_le_add_left (by decide) _ | exact Nat.le_add_right _ _
      exact Nat.lt_of_le_of_lt this zl
    have two : h2.get? s.heap.objs.size = some { cls := .type "tuple", data := .seq #[x1, x2] } := (sb.2 _ (Nat.ne_of_gt zl)).trans nt
    have nw : ObjOk X.prog X.w (upd H s.heap.objs.size (.tup [x, y])) h2 s.heap.objs.size (.tup [x, y]) := ⟨(by decide : (2 : Nat) ≤ sizeLine), [x1, x2], .cons ru (.cons ru2 .nil), ⟨_, two, rfl, _, rfl⟩⟩
    have far : ∀ c o, c ∉ five N → s.heap.get? c = some o → h2.get? c = some o := fun c o hc q => (sb.2 c fun e => hc (in_five (.inl e))).trans (kp c o (fun e => hc (in_five (.inl e))) (fun e => hc (in_five (.inr (.inr (.inl e))))) (fun e => hc (in_five (.inr (.inr (.inr (.inl e)))))) (fun e => hc (in_five (.inr (.inr (.inr (.inr e)))))) q)
    have J := I.turnedNew (t' := tk) (ch := five N) far hf (Nat.le_refl _) nw
    refine ⟨.ref s.heap.objs.size, _, J, rfl, ⟨_, x, y, rfl, I.hok.fresh (Nat.le_refl _), rfl, fun l hl => ?_, fun l hl => ?_⟩, ⟨z2, ?_, ⟨x1, x2, ?_⟩, ?_, ?_⟩, fun c hc => ?_⟩
    · rw [hl.inj I g1]
      exact g3
    · rw [hl.inj I g2]
      exact g4
    · exact (sb.2 _ (show (N + 2 : Nat) ≠ N + 4 by omega)).trans (kp _ _ (show (N + 2 : Nat) ≠ N + 4 by omega) (show (N + 2 : Nat) ≠ N + 3 by omega) (show (N + 2 : Nat) ≠ N by omega) (show (N + 2 : Nat) ≠ N + 1 by omega) s2)
    · exact (sb.2 _ (show (N + 3 : Nat) ≠ N + 4 by omega)).trans t1
    · exact d1.1.keep fun o q => (sb.2 _ (show (N : Nat) ≠ N + 4 by omega)).trans q
    · exact d2.1.keep fun o q => (sb.2 _ (show (N + 1 : Nat) ≠ N + 4 by omega)).trans q
    · rw [upd_ne (Nat.ne_of_lt (low hc))]
      exact (hf c hc).1
  done := by
    intro X eP ew eK cm i pins s σ H E I hf st hg
    subst eP ew eK
    obtain ⟨s1, s2, ⟨x0, y0, s3⟩, s4, s5⟩ := st
    obtain ⟨xs, ys, g1, g2, en, l1, l2⟩ := hg
    obtain ⟨us, ra, oa, _⟩ := g1.obj I
    obtain ⟨ws, rb, ob, _⟩ := g2.obj I
    have hd : X.A.in1.handled = none := I.ok.hd cm
    have na : (a : Nat) ≠ N := Nat.ne_of_lt ha
    have nb : (b : Nat) ≠ N + 1 := Nat.ne_of_lt (Nat.lt_succ_of_lt hb)
    have q1 : us.toArray.size = xs.length := by rw [List.size_toArray, ← ra.length]
    have q2 : ws.toArray.size = ys.length := by rw [List.size_toArray, ← rb.length]
    exact wpAny_pyNext_zipD2_end (zip_sep2 (fp1 := [a]) (fp2 := [b]) (by simpa using ha) (by simpa using hb)) (ItK.drw hd na us.toArray) (ItK.drw hd nb ws.toArray) s1 s2 s3 ⟨s4, oa⟩ ⟨s5, ob⟩ (by omega) (by omega) (by omega) fun h1 tk kp => ⟨rfl, I.turnedL (t' := tk) (ch := five N) (fun c o hc q => kp c o (fun e => hc (in_five (.inl e))) (fun e => hc (in_five (.inr (.inr (.inl e))))) (fun e => hc (in_five (.inr (.inr (.inr (.inl e)))))) (fun e => hc (in_five (.inr (.inr (.inr (.inr e)))))) q) hf⟩
  self A i s Q E st h := wpAny_pyIter_zip st.1 h
def iZipK (K : PySem.W.Frag) (k1 k2 : Bool) (ta : TA) : TI := fun σ H R => ta σ H fun vs H1 => ∃ a b xs ys, vs = [.ref a, .ref b] ∧ SqK k1 K H1 a xs ∧ SqK k2 K H1 b ys ∧ R (ItzK K k1 k2 a b) H1
theorem pi_zipK {X : Cx} {k1 k2 : Bool} {e e2 : Expr} {ta : TA} {p pos tpos : Pos} {elts : List Expr} {kk : Nat} (hg : Gl X "zip") (hm : X.mg "zip" = none) (ha : PA X [e, e2] ta) (hs : starEach [e, e2] X.env = (false, eval e X.env) :: starEach [e2] X.env := by rfl) (hpl : (backTo pos (starEach [e2] X.env)).any (·.1) = false := by rfl) : PI X (.Tuple elts kk tpos) (.Call (.Name "zip" p) [e, e2] [] pos) (iZipK X.K k1 k2 ta) := ⟨fun pins s σ H R I h => by
  refine Call_ (ld_blt I hg hm PyProof.Rows.boot_zip (PyProof.Rows.callWith_type1 (thn (ha.run pos pins s σ H _ I h) fun us s1 ⟨vs, H1, I1, r1, q1⟩ => ?_) hs hpl))
  obtain ⟨a, b, xs, ys, ev, g1, g2, q⟩ := q1
  subst ev
  cases r1 with
  | cons ra rr =>
    cases rr with
    | cons rb rr =>
      cases rr
      cases ra
      cases rb
      obtain ⟨us, _, oa, la⟩ := g1.obj I1
      obtain ⟨ws, _, ob, lb⟩ := g2.obj I1
      refine zip_begins2 (ItK.beg k1 a us.toArray) (ItK.beg k2 b ws.toArray) oa ob fun h1 z1 t1 t2 c1 c2 sz kp => wpAny_pyIter_zip z1 ?_
      have J : Inv X pins σ H1 { s1 with heap := h1 } := I1.kept (t' := s1.toks) kp
      refine ⟨s1.heap.objs.size + 4, five s1.heap.objs.size, _, _, H1, rfl, J, turn_zipK la lb, ⟨z1, t1, ⟨_, _, t2⟩, .zero c1, .zero c2⟩, fun c hc => ?_, q⟩
      have up : s1.heap.objs.size ≤ (c : Nat) := by
        rcases five_of hc with w | w | w | w | w <;> subst w <;> first | exact Nat.le_refl _ | exact Nat.le_add_right _ _
      exact I1.fpOk up (I1.hok.fresh up)⟩
theorem walk_zipK {K : PySem.W.Frag} {k1 k2 : Bool} {a b : Addr} {xs ys : List V} {n : Nat} (h1 : n = xs.length) (h2 : n = ys.length) : Walk (ItzK K k1 k2 a b) n (fun H => SqK k1 K H a xs ∧ SqK k2 K H b ys) (YPair (fun i => xs[i]?) (fun i => ys[i]?)) :=
  ⟨fun i _ hi q => ⟨xs, ys, xs[i], ys[i], q.1, q.2, List.getElem?_eq_getElem (by omega), List.getElem?_eq_getElem (by omega)⟩, fun _ q => ⟨xs, ys, q.1, q.2, .inl h1.symm, by omega, by omega⟩, fun i H v H' _ q y => by
    obtain ⟨T, x, z, e1, e2, e3, e4, e5⟩ := y
    exact ⟨T, x, z, e1, e2, e3, e4 xs q.1, e5 ys q.2⟩⟩
/-- the datum of a kind -/
def dK (kd : Bool) (ds : List PyData) : PyData := if kd then .tuple ds else .list ds
theorem Da.seq {X : Cx} {z : Z} {H : Hp} {v : V} {kd : Bool} {ds : List PyData} (h : Da z H v (dK kd ds)) : ∃ a vs, v = .ref a ∧ SqK kd X.K H a vs ∧ (∀ H', Ez z H H' → SqK kd X.K H' a vs) ∧ DaAll z H vs ds := by
  cases kd with
  | true =>
    cases h with
    | tup n e r => exact ⟨_, _, rfl, .inl (.inl e), fun H' k => .inl (.inl (k _ _ n e)), r⟩
  | false =>
    cases h with
    | lst n e r => exact ⟨_, _, rfl, .inl (.inl e), fun H' k => .inl (.inl (k _ _ n e)), r⟩
section
variable {X : Cx} {z : Z} {es : List Sl} {s : S} {elt a b : Expr} {ds fs : List PyData} {pos p p1 p2 p3 p4 : Pos}
/-- [e for x, y in zip(l, t)], a list and a tuple, in any order -/
theorem ev_lcZK (k1 k2 : Bool) {j k : Nat} {x y : Str} {scope : Scope} {kt : Nat} (hc : X.calm = true) (hN : X.N.Nodup) (hm : X.mg "zip" = none) (hjk : j ≠ k) (f : PyData → PyData → PyData) (hit : ED X z [a, b] es s [dK k1 ds, dK k2 fs] s) (hlen : ds.length = fs.length) (hl : ds.length ≤ 100000) (hB : BlkOk X.N X.env.scope scope [(x, j), (y, k)]) (hg : PgIn X scope (.Tuple [.Name x p, .Name y p1] kt p2) (gTup X.K 2 (gCons (gName j) (gCons (gName k) gNil))))
    (He : ∀ (i : Nat) (d1 d2 : PyData), ds[i]? = some d1 → fs[i]? = some d2 → ∀ z' : Z, Blk X scope fun Y => EV Y z' elt ((es.set j (.val d1)).set k (.val d2)) s (f d1 d2) s) (hgl : Gl X "zip" := by rfl) (hst : starEach [a, b] X.env = (false, eval a X.env) :: starEach [b] X.env := by rfl) (hpl : (backTo p4 (starEach [b] X.env)).any (·.1) = false := by rfl) (hs : ∀ x, foldedSetIterable (.Call (.Name "zip" p3) [a, b] [] p4) X.env x = pure x := by intro _; rfl) :
    EV X z (.ListComp elt [{ target := .Tuple [.Name x p, .Name y p1] kt p2, iter := .Call (.Name "zip" p3) [a, b] [] p4, ifs := [], is_async := 0 }] scope pos) es s (.list (List.zipWith f ds fs)) s :=
  .mk (pe_lc (own := [(x, j), (y, k)]) hc hN (pi_zipK (k1 := k1) (k2 := k2) hgl hm wA_ok hst hpl) hB hg (fun _ _ _ _ _ => pts_nil) tEl_ok hs) fun σ H en at_ Q q => hit σ H en at_ _ fun vs H1 e1 a1 v1 => by
    cases v1 with
    | cons h1 r =>
      cases r with
      | cons h2 r =>
        cases r
        obtain ⟨a0, xs, rfl, g1, g1k, r1⟩ := h1.seq (X := X)
        obtain ⟨b0, ys, rfl, g2, g2k, r2⟩ := h2.seq (X := X)
        have hx : xs.length = ds.length := r1.length
        have hy : ys.length = fs.length := r2.length
        have t1 : ∀ i, i < ds.length → ds[i]? = some (ds.getD i .none) := fun i hi => by
          rw [List.getD_eq_getElem?_getD, List.getElem?_eq_getElem hi]
          rfl
        have t2 : ∀ i, i < ds.length → fs[i]? = some (fs.getD i .none) := fun i hi => by
          rw [List.getD_eq_getElem?_getD, List.getElem?_eq_getElem (by omega)]
          rfl
        have zl : (List.zipWith f ds fs).length = ds.length := by rw [List.length_zipWith]; omega
        refine ⟨a0, b0, xs, ys, rfl, g1, g2, fun D hD => ?_⟩
        refine lc_two (K := X.K) (walk_zipK (K := X.K) (k1 := k1) (k2 := k2) (a := a0) (b := b0) (xs := xs) (ys := ys) (n := ds.length) (by omega) (by omega)) (fun _ => s) (fun _ => s) (en.mono e1) a1 hD hjk (fun i => ds.getD i .none) (fun i => fs.getD i .none) (fun H' e => ⟨g1k _ e, g2k _ e⟩) (fun i x H' H2 hi eH hY => ?_) hl (fun _ => true) (fun i => (List.zipWith f ds fs).take i) rfl (fun z' i hi σ H en at_ Q q => q H (.refl H) at_) (fun z' i hi _ => ⟨f (ds.getD i .none) (fs.getD i .none), by
            rw [List.take_add_one, List.getElem?_zipWith, t1 i hi, t2 i hi]
            rfl, fun σ H en at_ Q q s0 H0 C cl fp => He i _ _ (t1 i hi) (t2 i hi) z' s0 H0 C cl fp σ H en at_ Q q⟩) (fun i _ h => by cases h) (fun H' e a2 d2 => ?_)
        · obtain ⟨T, u, v, rfl, nT, rfl, hu, hv⟩ := hY
          obtain ⟨d, hd, hdu⟩ := r1.getV i u hu
          obtain ⟨d', hd', hdv⟩ := r2.getV i v hv
          rw [t1 i hi] at hd
          rw [t2 i hi] at hd'
          exact ⟨T, u, v, rfl, .inl (.inl upd_same), .inr ⟨nT, rfl⟩, by rw [Option.some.inj hd]; exact hdu, by rw [Option.some.inj hd']; exact hdv⟩
        · rw [show (List.zipWith f ds fs).take ds.length = List.zipWith f ds fs from List.take_of_length_le (by omega)] at d2
          exact q _ H' (e1.trans e) a2 d2
end
end DL


set_option Elab.async false
set_option linter.all false
set_option maxRecDepth 100000
namespace DL
open PySem PySem.Spec PyProof.Rows L2
variable [TabT]
section
variable {X : Cx} {z : Z} {es es1 : List Sl} {s s1 : S} {iter elt a b e : Expr} {ds fs : List PyData} {d : PyData} {o : Out} {rest body : List Stmt} {pos p p1 p2 p3 p4 p5 : Pos}
def nonD : PyData → Bool
  | .none => true
  | _ => false
theorem Da.non_iff {H : Hp} {v : V} (h : Da z H v d) : decide (v = V.non) = nonD d := by
  cases h <;> rfl
/-- e is None -/
theorem ev_isN {j} (h : EV X z e es s d s1) : EV X z (.Compare e [.Is] [.Constant .none j p1] pos) es s (.bool (nonD d)) s1 := .mk (pe_cmp (pc_isN wE_ok) (nomark _)) fun σ H en at_ Q q => h σ H en at_ _ fun v H1 e1 a1 v1 => by
  rw [v1.non_iff]
  exact q _ H1 e1 a1 (.bl _)
theorem et_isN {j} (h : EV X z e es s d s1) : ET X z (.Compare e [.Is] [.Constant .none j p1] pos) es s (nonD d) s1 := fun σ H en at_ Q q => ⟨_, pt_cmp (pc_isN wE_ok) (nomark _), h σ H en at_ _ fun v H1 e1 a1 v1 => ⟨_, rfl, by
  rw [v1.non_iff]
  exact q H1 e1 a1⟩⟩
/-- y = [e for x in range(n)], the state going along -/
theorem sr_lcR {j k : Nat} {x y : Str} {scope : Scope} {n : Nat} {py spos : Pos} (hc : X.calm = true) (hN : X.N.Nodup) (hm : X.mg "range" = none) (f : Nat → PyData) (T : Nat → S) (hit : ED X z [a] es s [.int (n : Int)] s1) (t0 : T 0 = s1) (hl : n ≤ 100000) (hB : BlkOk X.N X.env.scope scope [(x, j)]) (hg : PgIn X scope (.Name x p) (gName j))
    (He : ∀ i : Nat, i < n → ∀ z' : Z, Blk X scope fun Y => EV Y z' elt (es.set j (.val (.int (i : Int)))) (T i) (f i) (T (i + 1))) (kk : SR X z rest (es.set k (.val (.list ((List.range n).map f)))) (T n) o) (hi : X.N[k]? = some y := by rfl) (hy : List.lookup y X.env.scope.names = some NameKind.local := by rfl)
    (hsw : swapsWith (.ListComp elt [{ target := .Name x p, iter := .Call (.Name "range" p1) [a] [] p2, ifs := [], is_async := 0 }] scope pos) (some (.Name y py)) spos.line X.env = pure true := by exact sw_true rfl rfl rfl (by decide +kernel)) (hgl : Gl X "range" := by rfl) (hst : starEach [a] X.env = [(false, eval a X.env)] := by rfl) (hs : ∀ x, foldedSetIterable (.Call (.Name "range" p1) [a] [] p2) X.env x = pure x := by intro _; rfl) :
    SR X z (.Assign [.Name y py] (.ListComp elt [{ target := .Name x p, iter := .Call (.Name "range" p1) [a] [] p2, ifs := [], is_async := 0 }] scope pos) spos :: rest) es s o := fun σ H en at_ D q =>
  ⟨_, pss_cons (ps_setLc (i := k) (own := [(x, j)]) hc hN hi hy hsw (pi_range1 hgl hm wA_ok hst) hB hg (fun _ _ _ _ _ => pts_nil) tEl_ok hs) wB_ok, by
    show tLc (iRng1 (wA X [a])) (gName j) tYes (tEl X scope elt) [j] σ H (fun v H1 => wB X rest D (σ.set k (some v)) H1)
    refine hit σ H en at_ _ fun vs H1 e1 a1 v1 => ?_
    cases v1 with
    | cons h r =>
      cases r
      cases h
      refine ⟨(n : Int), rfl, by omega, by omega, fun D' hD => ?_⟩
      rw [Int.toNat_natCast]
      refine lc_gen (walk_range (lo := 0) (n := n)) T T (en.mono e1) (t0 ▸ a1) hD (fun i => .int (i : Int)) (fun H' e => trivial) (fun i x H' H2 hi hy => ⟨hy.1, ?_⟩) hl (fun _ => true) (fun i => (List.range i).map f) rfl (fun z' i hi σ H en at_ Q q => q H (.refl H) at_)
        (fun z' i hi _ => ⟨f i, by rw [List.range_succ, List.map_append]; rfl, fun σ H en at_ Q q s0 H0 C cl fp => He i hi z' s0 H0 C cl fp σ H en at_ Q q⟩) (fun i _ h => by cases h) (fun H' e a2 d2 => kk _ H' ((en.mono (e1.trans e)).set k (.val d2)) a2 D (q.mono (e1.trans e)))
      rw [hy.2]
      show Da z H1 (.int (0 + (i : Int))) _
      rw [Int.zero_add]
      exact .int _⟩
/-- for x, y in zip(..): a list and a tuple in any order -/
theorem sr_forZK (k1 k2 : Bool) (l m : Nat) {x y : Str} {kt : Nat} (hp : PassesOwn (model X.prog X.w) X.A X.env X.xe) (hc : X.calm = true) (hm : X.mg "zip" = none) (hlen : ds.length = fs.length) (h : ED X z [a, b] es s [dK k1 ds, dK k2 fs] s1) (E : Nat → List Sl) (T : Nat → S) (h0 : Le es (E 0)) (t0 : T 0 = s1)
    (hb : ∀ (i : Nat) d1 d2, ds[i]? = some d1 → fs[i]? = some d2 → SR X z body (((E i).set l (.val d1)).set m (.val d2)) (T i) (.nx (E (i + 1)) (T (i + 1)))) (k : SR X z rest (E ds.length) (T ds.length) o)
    (hg : PG X (.Tuple [.Name x p1, .Name y p2] kt p3) (gTup X.K 2 (gCons (gName l) (gCons (gName m) gNil)))) (hgl : Gl X "zip" := by rfl) (hst : starEach [a, b] X.env = (false, eval a X.env) :: starEach [b] X.env := by rfl) (hpl : (backTo p5 (starEach [b] X.env)).any (·.1) = false := by rfl) (hfo : ∀ x, foldedSetIterable (.Call (.Name "zip" p4) [a, b] [] p5) X.env x = pure x := by intro _; rfl) :
    SR X z (.For (.Tuple [.Name x p1, .Name y p2] kt p3) (.Call (.Name "zip" p4) [a, b] [] p5) body [] pos :: rest) es s o := fun σ H en at_ D q =>
  ⟨_, pss_cons (ps_for hp hc (pi_zipK (k1 := k1) (k2 := k2) hgl hm wA_ok hst hpl) hg wB_ok hfo) wB_ok, h σ H en at_ _ fun vs H1 e1 a1 v1 => by
    cases v1 with
    | cons h1 r =>
      cases r with
      | cons h2 r =>
        cases r
        obtain ⟨a0, xs, rfl, g1, g1k, r1⟩ := h1.seq (X := X)
        obtain ⟨b0, ys, rfl, g2, g2k, r2⟩ := h2.seq (X := X)
        have hx : xs.length = ds.length := r1.length
        have hy : ys.length = fs.length := r2.length
        refine ⟨a0, b0, xs, ys, rfl, g1, g2, for_it (walk_zipK (K := X.K) (k1 := k1) (k2 := k2) (a := a0) (b := b0) (xs := xs) (ys := ys) (n := ds.length) (by omega) (by omega)) (fun i σ' H' => Ez z H1 H' ∧ At z H' (T i) ∧ En z H' σ' (E i)) ⟨.refl _, t0 ▸ a1, (en.mono e1).le h0⟩ (fun i σ' H' _ w => ⟨g1k _ w.1, g2k _ w.1⟩) (fun i v σ' H' H2 hi w hY => ?_) fun σ' H' w => ?_⟩
        · obtain ⟨t, u, v', rfl, nt, rfl, hu, hv⟩ := hY
          obtain ⟨d1, hd1, hu'⟩ := r1.getV i u hu
          obtain ⟨d2, hd2, hv'⟩ := r2.getV i v' hv
          have e3 : Ez z H' (upd H' t (.tup [u, v'])) := .new nt
          refine ⟨t, _, rfl, .inl (.inl upd_same), rfl, _, _, rfl, _, _, rfl, rfl, ?_⟩
          exact hb i d1 d2 hd1 hd2 _ _ (((w.2.2.mono e3).set l (.val ((hu'.mono w.1).mono e3))).set m (.val ((hv'.mono w.1).mono e3))) (w.2.1.new nt) _ fun σ2 H3 e4 a4 n4 => ⟨w.1.trans (e3.trans e4), a4, n4⟩
        · exact k σ' H' w.2.2 w.2.1 D (q.mono (e1.trans w.1))⟩
end
end DL


set_option Elab.async false
set_option linter.all false
set_option maxRecDepth 100000
namespace DL
open PySem PySem.Spec PyProof.Rows L2
variable [TabT]
section
variable {X : Cx} {es es1 es2 : List Sl} {s s1 s2 s' : S} {a b c e : Expr} {xs : List Expr} {pos p q p1 p2 p3 p4 apos apos2 cpos cpos2 : Pos} {d d1 d2 : PyData} {ds fs : List PyData} {o : Out} {st : Stmt} {rest body els : List Stmt}
theorem DaAll.erase {zz : Z} {H : Hp} : ∀ {vs : List V} {ds : List PyData} (j : Nat), DaAll zz H vs ds → DaAll zz H (vs.eraseIdx j) (ds.eraseIdx j)
  | _, _, _, .nil => .nil
  | _, _, 0, .cons _ h2 => h2
  | _, _, j + 1, .cons h1 h2 => .cons h1 (DaAll.erase j h2)
theorem six_nat {k n : Nat} (h : k < n) : seqIndex? (k : Int) n = some k := by
  have h1 : (decide ((0 : Int) ≤ (k : Int)) && decide ((k : Int) < (n : Int))) = true := by rw [decide_eq_true (by omega), decide_eq_true (by omega)] <;> rfl
  unfold seqIndex?
  simp only [if_neg (show ¬ ((k : Int) < 0) by omega)]
  rw [if_pos h1, Int.toNat_natCast]
/-- ys.append(xs.pop(e)) -/
theorem so_appPop (i j : Nat) {x y : Str} {k : Nat} (h : ∀ z, EV X z e es s (.int (k : Int)) s1) (hk : ds[k]? = some d) (hk2 : ds.length ≤ 100000) (hl : fs.length < 100000) (kk : SO X rest ((es.set i (.own (ds.eraseIdx k))).set j (.own (fs ++ [d]))) s1 o)
    (ho : es[i]? = some (.own ds) := by rfl) (ho2 : es[j]? = some (.own fs) := by rfl) (hNi : X.N[i]? = some x := by rfl) (hNj : X.N[j]? = some y := by rfl) (hij : i ≠ j := by decide)
    (hv : Vis X.env.scope x := by first | exact Or.inl rfl | exact Or.inr (Or.inl rfl) | exact Or.inr (Or.inr rfl)) (hv2 : Vis X.env.scope y := by first | exact Or.inl rfl | exact Or.inr (Or.inl rfl) | exact Or.inr (Or.inr rfl))
    (hd : (x == ("__debug__" : Str)) = false := by decide) (hcd : (x == ("__classdict__" : Str)) = false := by decide) (hd2 : (y == ("__debug__" : Str)) = false := by decide) (hcd2 : (y == ("__classdict__" : Str)) = false := by decide)
    (hbase : attributeBase (.Name x p) "pop" X.env (eval (.Name x p) X.env) = eval (.Name x p) X.env := by rfl) (hbase2 : attributeBase (.Name y q) "append" X.env (eval (.Name y q) X.env) = eval (.Name y q) X.env := by rfl)
    (hfew : ((backTo cpos (starEach (e :: []) X.env)).all (fun x => !x.1) && (backToKw cpos (keywordEach [] X.env)).all (fun x => x.1.isSome) && decide ((e :: []).length + ([] : List Keyword).length + (if ([] : List Keyword).isEmpty then 0 else 1) < 30)) = true := by rfl)
    (hfew2 : ((backTo cpos2 (starEach (.Call (.Attribute (.Name x p) "pop" apos) [e] [] cpos :: []) X.env)).all (fun x => !x.1) && (backToKw cpos2 (keywordEach [] X.env)).all (fun x => x.1.isSome) && decide ((Expr.Call (.Attribute (.Name x p) "pop" apos) [e] [] cpos :: []).length + ([] : List Keyword).length + (if ([] : List Keyword).isEmpty then 0 else 1) < 30)) = true := by rfl)
    (hline : (apos.endLine == cpos.line) = true := by rfl) (hline2 : (apos2.endLine == cpos2.line) = true := by rfl) (hse : starEach (e :: []) X.env = (false, eval e X.env) :: starEach [] X.env := by rfl) (hpl : (backTo cpos (starEach [] X.env)).any (·.1) = false := by rfl)
    (hse2 : starEach (.Call (.Attribute (.Name x p) "pop" apos) [e] [] cpos :: []) X.env = (false, eval (.Call (.Attribute (.Name x p) "pop" apos) [e] [] cpos) X.env) :: starEach [] X.env := by rfl) (hpl2 : (backTo cpos2 (starEach [] X.env)).any (·.1) = false := by rfl)
    (hs : swapsWith (.Call (.Attribute (.Name y q) "append" apos2) [.Call (.Attribute (.Name x p) "pop" apos) [e] [] cpos] [] cpos2) none pos.line X.env = pure false := by rfl) :
    SO X (.Expr (.Call (.Attribute (.Name y q) "append" apos2) [.Call (.Attribute (.Name x p) "pop" apos) [e] [] cpos] [] cpos2) pos :: rest) es s o := fun z Hc H vol σ I D Q =>
  ⟨_, pss_cons (ps_expr (pe_bm PySem.F.plainAttrs_list PySem.F.slot_list_append PySem.F.type_list_append mt_append (pe_var hNj hv2 hd2 hcd2)
    (pa_cons (pe_bm PySem.F.plainAttrs_list PySem.F.slot_list_pop PySem.F.type_list_pop mt_popAt (pe_var hNi hv hd hcd) (pa_cons wE_ok pa_nil hse) hbase hfew hline hse hpl) pa_nil hse2) hbase2 hfew2 hline2 hse2 hpl2) hs) wB_ok, by
    obtain ⟨u, hu, ru⟩ := I.en.slot ho2
    obtain ⟨w, hw, rw'⟩ := I.en.slot ho
    cases ru with
    | @own a2 vs2 _ m2 kr2 =>
      cases rw' with
      | @own a vs _ m kr =>
        refine ⟨_, hu, .inl ⟨rfl, vs2, .inl (.inl (I.at_.v _ m2))⟩, _, hw, .inl ⟨rfl, vs, .inl (.inl (I.at_.v _ m))⟩, h _ σ H I.en I.at_ _ fun v H1 e1 a1 v1 => ?_⟩
        cases v1
        have k1 := kr.mono e1
        have kl : vs.length = ds.length := k1.length
        have klt := (List.getElem?_eq_some_iff.mp hk).1
        obtain ⟨g, hg, hgd⟩ := k1.get k d hk
        obtain ⟨vol', I', re⟩ := I.writeR ho hw m e1 a1 (k1.erase k)
        have ho3 : (es.set i (.own (ds.eraseIdx k)))[j]? = some (.own fs) := by rw [List.getElem?_set_ne hij]; exact ho2
        obtain ⟨u', hu', ru'⟩ := I'.en.slot ho3
        rw [hu] at hu'
        cases hu'
        cases ru' with
        | @own _ vs3 _ m3 kr3 =>
          refine ⟨a, vs, (k : Int), k, g, rfl, rfl, a1.v _ m, by omega, by omega, six_nat (by omega), hg, ?_⟩
          obtain ⟨vol'', I''⟩ := I'.write ho3 hu m3 (.refl _) I'.at_ (kr3.app (.cons (hgd.re re) .nil))
          exact ⟨a2, vs3, g, rfl, rfl, I'.at_.v _ m3, by rw [kr3.length]; exact Nat.lt_of_lt_of_le hl (by decide), kk z Hc _ vol'' σ I'' D Q⟩⟩
end
end DL


set_option Elab.async false
set_option linter.all false
set_option maxRecDepth 100000
namespace DL
open PySem PySem.Spec PyProof.Rows L2 PySem.Calls
variable [TabT]
/-! ### sorted(set(xs)), xs a list of ints -/
/-- a new empty set -/
abbrev eset (w : World) : Obj := { cls := .type "set", dict := none, data := .set #[] 0 (.fresh 0 0 (!w.params.followText "set-order")) }
section
variable {P : Program} {w : World} {A : Around} {E : Value → Shared → Prop} {s : Shared}
/-- what set.__init__ leaves -/
def Filled (w : World) (s : Shared) (ns : List Int) (r : Value) (s2 : Shared) : Prop := r = .none ∧ ∃ h' tk c, s2 = { s with heap := h', toks := tk } ∧ SetR w h' s.heap.objs.size (fun j => decide (j ∈ ns)) c ∧ c ≤ ns.length ∧ ∀ b o, s.heap.get? b = some o → h'.get? b = some o
theorem init_lst {l : Addr} {items : Array Value} {ns : List Int} (hh : A.handled = none) (hl : s.heap.IsList l items) (hit : IntsAre items.toList ns) (hb : ns.length + 1 < scanBound) :
    codeAny (model P w) A (.builtin "set.__init__" ⟨[.ref s.heap.objs.size, .ref l], []⟩) (wants (Filled w s ns) E) { s with heap := s.heap.push (eset w) } := by
  have sz : items.size = ns.length := by have q := IntsAre.length hit; rw [Array.length_toList] at q; exact q
  have z1 : (s.heap.push (eset w)).objs.size = s.heap.objs.size + 1 := Heap.size_push ..
  have hS : (s.heap.push (eset w)).get? s.heap.objs.size = some (eset w) := Heap.get?_push_size _ rfl
  have hlS : l < s.heap.objs.size := by obtain ⟨o, ho, _⟩ := hl; exact Heap.lt_size ho
  refine codeAny_builtin F.entry_set_init ?_
  obtain ⟨⟨oc, od, odt, osl⟩, hol, hcl, nl, hdl⟩ := hl
  simp only at hcl hdl
  subst hcl; subst hdl
  have hol' : (s.heap.push (eset w)).get? l = some { cls := .type "list", dict := od, data := .seq items nl, slots := osl } := Heap.get?_push_of_some _ hol
  have hsls := F.sub_list_set
  have hslf := F.sub_list_frozenset
  have hne : (Value.type "list" == Value.type "dict") = false := by decide
  have hl1 : (s.heap.push (eset w)).IsList l items := ⟨_, hol', rfl, nl, rfl⟩
  unfold Builtin.«set.__init__» noKeywords Builtin.Frozenset.updateFrom
  generalize hPI : pyIter = PI
  wp_walk
  subst hPI
  refine wpAny_pyIter_list hl1 (wpAny_bind (wpAny_runValue ?_))
  have neI : l ≠ (s.heap.push (eset w)).objs.size := by rw [z1]; exact Nat.ne_of_lt (Nat.lt_succ_of_lt hlS)
  have sf : s.heap.objs.size ∉ [(s.heap.push (eset w)).objs.size, l] := fun hm => by
    rcases List.mem_cons.mp hm with e | e
    · rw [z1] at e; exact absurd e (Nat.ne_of_lt (Nat.lt_succ_self _))
    · exact Nat.ne_of_gt hlS (List.mem_singleton.mp e)
  refine set_update_ints ((Walks.list (by first | exact hh | (unfold Around.under; exact hh) | simp [Around.under, hh]) _ l neI items).toS) s.heap.objs.size sf ns sz hb (fun i v hv => ?_) (items.size - 0) 0 _ (by omega) (Nat.zero_le _) ⟨⟨_, Heap.get?_push_size _ rfl, rfl, rfl⟩, (hl1.push _)⟩ ?_ ?_
  · have hi : i < ns.length := by rw [← sz]; exact (Array.getElem?_eq_some_iff.mp hv).1
    obtain ⟨t, e⟩ := PyProof.Rows.IntsAre.int_at hit i v (by rw [Array.getElem?_toList]; exact hv)
    exact ⟨ns[i], t, List.getElem?_eq_getElem hi, by rw [e, List.getD_eq_getElem?_getD, List.getElem?_eq_getElem hi] <;> rfl⟩
  · exact ⟨0, Nat.le_refl 0, setR_new_at (Heap.get?_push_of_some _ hS)⟩
  · intro s' c hm hc hR
    obtain ⟨h', g2, d2, t2, o2⟩ := s'
    obtain rfl : g2 = s.gens := hm.gens
    obtain rfl : d2 = s.drawn := hm.drawn
    obtain rfl : o2 = s.os := hm.os
    show wpAny _ _ _ _ _ _
    refine wpAny_pure (wpAny_pure ⟨rfl, h', t2, c, rfl, hR, by rw [← sz]; exact hc, fun b o e => ?_⟩)
    have b0 := Heap.lt_size e
    exact hm.heap b o (fun m2 => by
      rcases List.mem_cons.mp m2 with e | e
      · exact Nat.ne_of_lt b0 e
      · rw [z1] at e; exact absurd (List.mem_singleton.mp e) (Nat.ne_of_lt (Nat.lt_succ_of_lt b0))) (Heap.get?_push_of_some _ (Heap.get?_push_of_some _ e))
theorem call_set_lst {l : Addr} {items : Array Value} {ns : List Int} {Q : Value → Shared → Prop} (hh : A.handled = none) (hl : s.heap.IsList l items) (hit : IntsAre items.toList ns) (hb : ns.length + 1 < scanBound)
    (h : ∀ (h' : Heap) (tk c : Nat), SetR w h' s.heap.objs.size (fun j => decide (j ∈ ns)) c → c ≤ ns.length → (∀ b o, s.heap.get? b = some o → h'.get? b = some o) → Q (.ref s.heap.objs.size) { s with heap := h', toks := tk }) : wpAny (model P w) A (call (.type "set") [.ref l]) Q E s := by
  obtain ⟨c, tl, hmro⟩ := F.called_set.mro
  have m := F.called_set.made; have su := F.called_set.sub; have n1 := F.called_set.notType; have n2 := F.called_set.canCreate; have n3 := F.typeCall_set_1 (.ref l)
  refine wpAny_call (codeAny_of_tree (wpAny_pure ⟨Code.quiet_builtin _ (by decide +kernel), codeAny_builtin F.entry_type_call ?_⟩))
  rw [Around.under_plain (weight_type_call_type "set" [.ref l] []) rfl]
  repeat (any_goals (first | assumption | wp_step))
  refine codeAny_mono (code_set_led1 (.ref l) (E := E) (Q₁ := fun v s1 => v = .ref s.heap.objs.size ∧ s1 = { s with heap := s.heap.push (eset w) }) ⟨rfl, rfl⟩) fun r s1 q => ?_
  cases r with
  | error e => exact q
  | ok fl =>
    cases fl with
    | ret v =>
      obtain ⟨rfl, rfl⟩ := q
      have hT : Shared.TypeIs { s with heap := s.heap.push (eset w) } (.ref s.heap.objs.size) "set" := ⟨_, Heap.get?_push_size _ rfl, rfl⟩
      have li := F.called_set.init.lookup; have bi := F.called_set.init.bind (.ref s.heap.objs.size)
      repeat (any_goals (first | assumption | wp_step))
      refine codeAny_mono (codeAny_call_builtin_code (R := wants (Filled w s ns) E) (plainId_quiet F.called_set.init.plain _) (check_set_init_1 hT (init_lst (by simp [hh]) hl hit hb))) fun r s2 q2 => ?_
      cases r with
      | error e => exact q2
      | ok fl =>
        cases fl with
        | ret v =>
          obtain ⟨rfl, h', tk, c, rfl, R, cl, k⟩ := q2
          repeat (any_goals (first | assumption | wp_step))
          exact h _ _ _ R cl k
        | _ => exact q2.elim
    | _ => exact q.elim
end
section
variable {X : Cx} {z : Z} {es : List Sl} {s s1 : S} {a : Expr} {p p1 p2 p3 pos : Pos}
def rSetL (K : PySem.W.Frag) (w : World) : List V → Hp → VK → Prop := fun vs H Q => ∃ (l : Addr) (ns : List Int), vs = [.ref l] ∧ SqL K H l (ns.map V.int) ∧ ns.length ≤ 1000 ∧ ∀ (p : Addr) (c : Nat), H p = none → c ≤ ns.length → Q (.ref p) (upd H p (SetO w p (fun j => decide (j ∈ ns)) c))
theorem cr_setL (hc : X.calm = true) : CallR X (.type "set") (rSetL X.K X.w) := by
  intro pins s σ H vs us Q I r h
  obtain ⟨l, ns, rfl, hq, hl, q⟩ := h
  rw [Vals.ref1 r]
  obtain ⟨its, rv, pl, hz⟩ := I.list hq
  refine call_set_lst (I.ok.hd hc) pl.isList (ns := ns) (by simpa using rv.ints) (by unfold scanBound; omega) fun h' tk c R cl k => ?_
  exact ⟨.ref _, upd H s.heap.objs.size (SetO X.w s.heap.objs.size (fun j => decide (j ∈ ns)) c), I.laid (t' := tk) k (Nat.le_refl _) (setO_new R), rfl, q _ c (I.hok.fresh (Nat.le_refl _)) cl⟩
/-- two risen lists of the same members are one -/
theorem risen_eq : ∀ {a b : List Int}, a.Pairwise (· < ·) → b.Pairwise (· < ·) → (∀ k, k ∈ a ↔ k ∈ b) → a = b
  | [], [], _, _, _ => rfl
  | [], y :: b, _, _, h => absurd ((h y).mpr (List.mem_cons_self ..)) (by simp)
  | x :: a, [], _, _, h => absurd ((h x).mp (List.mem_cons_self ..)) (by simp)
  | x :: a, y :: b, ha, hb, h => by
    obtain ⟨a1, a2⟩ := List.pairwise_cons.mp ha
    obtain ⟨b1, b2⟩ := List.pairwise_cons.mp hb
    have e : x = y := by
      rcases List.mem_cons.mp ((h x).mp (List.mem_cons_self ..)) with e | m
      · exact e
      · rcases List.mem_cons.mp ((h y).mpr (List.mem_cons_self ..)) with e | m2
        · exact e.symm
        · have := a1 y m2
          have := b1 x m
          omega
    subst e
    rw [risen_eq a2 b2 fun k => ⟨fun m => by
      rcases List.mem_cons.mp ((h k).mp (List.mem_cons_of_mem _ m)) with e | m'
      · have := a1 k m
        omega
      · exact m', fun m => by
      rcases List.mem_cons.mp ((h k).mpr (List.mem_cons_of_mem _ m)) with e | m'
      · have := b1 k m
        omega
      · exact m'⟩]
theorem DaAll.ints {H : Hp} : ∀ {vs : List V} {ns : List Int}, DaAll z H vs (ns.map PyData.int) → vs = ns.map V.int
  | _, [], .nil => rfl
  | _, _ :: _, .cons h r => by
    cases h
    rw [DaAll.ints r]
    rfl
theorem daAll_ints {H : Hp} : ∀ ns : List Int, DaAll z H (ns.map V.int) (ns.map PyData.int)
  | [] => .nil
  | n :: ns => .cons (.int n) (daAll_ints ns)
/-- sorted(set(xs)), xs a risen list -/
theorem ev_sortSet {ns : List Int} (hc : X.calm = true) (hm : X.mg "sorted" = none) (hm2 : X.mg "set" = none) (hr : ns.Pairwise (· < ·)) (hl : ns.length < 64) (ha : EV X z a es s (.list (ns.map .int)) s1) (hg : Gl X "sorted" := by rfl) (hg2 : Gl X "set" := by rfl)
    (h1 : starEach [.Call (.Name "set" p) [a] [] p1] X.env = (false, eval (.Call (.Name "set" p) [a] [] p1) X.env) :: starEach [] X.env := by rfl) (h2 : starEach [a] X.env = (false, eval a X.env) :: starEach [] X.env := by rfl)
    (h3 : (backTo p1 (starEach [] X.env)).any (·.1) = false := by rfl) (h4 : (backTo pos (starEach [] X.env)).any (·.1) = false := by rfl) :
    EV X z (.Call (.Name "sorted" p2) [.Call (.Name "set" p) [a] [] p1] [] pos) es s (.list (ns.map .int)) s1 :=
  .mk (pe_callB (cr_sortedSet hc) hg hm (by decide +kernel) (pa_cons (pe_callTy (cr_setL hc) hg2 hm2 (by decide +kernel) (pa_cons wE_ok pa_nil h2) (by decide) (by decide) h2 h3) pa_nil h1) (by decide) (by decide) h1 h4) fun σ H en at_ Q q => ha σ H en at_ _ fun v H1 e1 a1 v1 => by
    cases v1 with
    | lst n e r =>
      have hv := r.ints
      subst hv
      refine ⟨_, ns, rfl, .inl (.inl e), by omega, fun b c hb hcl => ⟨b, _, c, rfl, upd_same, by omega, fun ns' b2 hp hk hln hb2 => ?_⟩⟩
      have eq : ns' = ns := risen_eq hp hr fun k => by rw [hk k]; exact decide_eq_true_iff
      subst eq
      have k2 : Ez z H1 (upd (upd H1 b (SetO X.w b (fun j => decide (j ∈ ns')) c)) b2 (.lst (ns'.map V.int))) := (Ez.new hb).trans (.new hb2)
      exact q _ _ (e1.trans k2) ((a1.new hb).new hb2) (.lst ((a1.new hb).fresh hb2) upd_same (daAll_ints ns'))
end
end DL


set_option Elab.async false
set_option linter.all false
set_option maxRecDepth 100000
namespace DL
open PySem PySem.Spec PyProof.Rows L2
variable [TabT]
/-! ### dicts from integers to data -/
mutual
theorem Da.rn {z z' : Z} {H H' : Hp} (k : ∀ a o, Fz z a → H a = some o → ((∃ xs, o = .lst xs) ∨ ∃ xs, o = .tup xs) → Fz z' a ∧ H' a = some o) : ∀ {v : V} {d : PyData}, Da z H v d → nod d = true → Da z' H' v d
  | _, _, .non, _ => .non
  | _, _, .bl b, _ => .bl b
  | _, _, .int i, _ => .int i
  | _, _, .str x, _ => .str x
  | _, _, .dkv _ _ _ _ _, q => by simp [nod] at q
  | _, _, .odd _ _ _, q => by simp [nod] at q
  | _, _, .lst n h r, q => .lst (k _ _ n h (.inl ⟨_, rfl⟩)).1 (k _ _ n h (.inl ⟨_, rfl⟩)).2 (DaAll.rn k r (by simpa [nod] using q))
  | _, _, .tup n h r, q => .tup (k _ _ n h (.inr ⟨_, rfl⟩)).1 (k _ _ n h (.inr ⟨_, rfl⟩)).2 (DaAll.rn k r (by simpa [nod] using q))
theorem DaAll.rn {z z' : Z} {H H' : Hp} (k : ∀ a o, Fz z a → H a = some o → ((∃ xs, o = .lst xs) ∨ ∃ xs, o = .tup xs) → Fz z' a ∧ H' a = some o) : ∀ {vs : List V} {ds : List PyData}, DaAll z H vs ds → nodAll ds = true → DaAll z' H' vs ds
  | _, _, .nil, _ => .nil
  | _, _, .cons h r, q => by
    simp only [nodAll, Bool.and_eq_true] at q
    exact .cons (Da.rn k h q.1) (DaAll.rn k r q.2)
end
/-- the slots without dicts -/
def lkS : Sl → Sl
  | .val d => if nod d = true then .val d else .un
  | .dice => .dice
  | .raw v => .raw v
  | _ => .un
def lk (es : List Sl) : List Sl := es.map lkS
theorem lk_len {es : List Sl} : (lk es).length = es.length := List.length_map ..
theorem En.lk {z z' : Z} {H H' : Hp} (hd : z'.dice = z.dice) (k : ∀ a o, Fz z a → H a = some o → ((∃ xs, o = .lst xs) ∨ ∃ xs, o = .tup xs) → Fz z' a ∧ H' a = some o) : ∀ {σ : L2.St} {es : List Sl}, En z H σ es → En z' H' σ (DL.lk es)
  | _, _, .nil => .nil
  | _, _, .cons h r => .cons (by
      cases h with
      | fk r => exact .un
      | fns n h r => exact .un
      | un => exact .un
      | val d =>
        rename_i d0
        show SlR z' H' _ (if nod d0 = true then .val d0 else .un)
        split
        · rename_i hn
          exact .val (d.rn k hn)
        · exact .un
      | dice e => exact .dice (hd.trans e)
      | raw => exact .raw
      | own m q => exact .un
      | dct m e q => exact .un
      | exc q => exact .un) (En.lk hd k r)
theorem zip_inj {α β : Type} : ∀ {a c : List α} {b d : List β}, a.length = b.length → c.length = d.length → a.zip b = c.zip d → a = c ∧ b = d
  | [], [], [], [], _, _, _ => ⟨rfl, rfl⟩
  | [], _ :: _, [], _ :: _, _, _, h => by simp at h
  | _ :: _, [], _ :: _, [], _, _, h => by simp at h
  | x :: a, y :: c, u :: b, v :: d, h1, h2, h => by
    simp only [List.zip_cons_cons, List.cons.injEq, Prod.mk.injEq] at h
    obtain ⟨⟨rfl, rfl⟩, h⟩ := h
    obtain ⟨rfl, rfl⟩ := zip_inj (by simpa using h1) (by simpa using h2) h
    exact ⟨rfl, rfl⟩
  | [], [], _ :: _, _, h1, _, _ => by simp at h1
  | [], [], [], _ :: _, _, h2, _ => by simp at h2
  | [], _ :: _, _ :: _, _, h1, _, _ => by simp at h1
  | [], _ :: _, [], [], _, h2, _ => by simp at h2
  | _ :: _, [], [], _, h1, _, _ => by simp at h1
  | _ :: _, [], _ :: _, _ :: _, _, h2, _ => by simp at h2
  | _ :: _, _ :: _, [], _, h1, _, _ => by simp at h1
  | _ :: _, _ :: _, _ :: _, [], _, h2, _ => by simp at h2
theorem map_inj_int : ∀ {a b : List Int}, a.map PyData.int = b.map PyData.int → a = b
  | [], [], _ => rfl
  | [], _ :: _, h => by simp at h
  | _ :: _, [], h => by simp at h
  | x :: a, y :: b, h => by
    simp only [List.map_cons, List.cons.injEq, PyData.int.injEq] at h
    rw [h.1, map_inj_int h.2]
/-- the datum of a dict -/
def dD (ks : List Int) (ds : List PyData) : PyData := .dict ((ks.map PyData.int).zip ds)
/-- what stands behind it -/
theorem Da.dict {z : Z} {H : Hp} {v : V} {ks : List Int} {ds : List PyData} (hl : ks.length = ds.length) (h : Da z H v (dD ks ds)) : ∃ a kvs, v = .ref a ∧ Fz z a ∧ H a = some (.dK kvs) ∧ kvs.map (·.1) = ks.map Sum.inl ∧ DaAll z H (kvs.map (·.2)) ds := by
  unfold dD at h
  cases h with
  | @dkv a kvs ks' ds' _ n h k r e =>
    have l2 := congrArg List.length k
    have l3 := r.length
    rw [List.length_map, List.length_map] at l2
    rw [List.length_map] at l3
    obtain ⟨e1, e2⟩ := zip_inj (by rw [List.length_map, hl]) (by rw [List.length_map]; omega) e
    rw [map_inj_int e1, e2]
    exact ⟨a, kvs, rfl, n, h, k, r⟩
  | odd n h r =>
    generalize hz : (ks.map PyData.int).zip ds = l at r
    cases ks with
    | nil => subst hz; cases r
    | cons k ks =>
      cases ds with
      | nil => subst hz; cases r
      | cons d ds => cases r <;> simp at hz
section
variable {X : Cx} {z : Z} {es : List Sl} {s s1 s2 : S} {iter elt a b e : Expr} {pos p p1 p2 p3 p4 p5 : Pos} {ks : List Int} {ds : List PyData}
theorem cr_lenD : CallR X (.builtin "len") (fun xs H Q => ∃ a kvs, xs = [V.ref a] ∧ H a = some (.dK kvs) ∧ Q (.int kvs.length) H) := by
  intro pins s σ H xs us Q I r h
  obtain ⟨a, kvs, rfl, e, q⟩ := h
  obtain ⟨u, rfl, rx⟩ := vals1 r
  cases rx
  exact d_len I (.inl e) fun t s' I' => ⟨.int _, H, I', ⟨t, rfl⟩, q⟩
theorem rb_lenD (hl : ks.length = ds.length) : RB z s (fun xs H Q => ∃ a kvs, xs = [V.ref a] ∧ H a = some (.dK kvs) ∧ Q (.int kvs.length) H) [dD ks ds] (.int ks.length) := fun vs H at_ h Q q => by
  cases h with
  | cons h r =>
    cases r
    obtain ⟨a, kvs, rfl, n, ha, hk, hr⟩ := h.dict hl
    have l2 := congrArg List.length hk
    rw [List.length_map, List.length_map] at l2
    refine ⟨a, kvs, rfl, ha, ?_⟩
    rw [l2]
    exact q _ H (.refl H) at_ (.int _)
/-- d[k] -/
theorem ev_dget {k : Int} {i : Nat} {d : PyData} (hu : X.A.units + 64 < cLine) (hl : ks.length = ds.length) (nd : ks.Nodup) (ha : EV X z a es s (dD ks ds) s1) (hb : EV X z b es s1 (.int k) s2) (hk : ks[i]? = some k) (hd : ds[i]? = some d) (hs : NoSl b := by intro _ _; rfl) : EV X z (.Subscript a b pos) es s d s2 :=
  .mk (pe_dget (by omega) wE_ok wE_ok hs) fun σ H en at_ Q q => by
    refine ha σ H en at_ _ fun v H1 e1 a1 v1 => ?_
    refine hb σ H1 (en.mono e1) a1 _ fun y H2 e2 a2 v2 => ?_
    cases v2
    obtain ⟨x, kvs, rfl, n, hx, hks, hr⟩ := (v1.mono e2).dict hl
    obtain ⟨v, hv, hvd⟩ := hr.get i d hd
    have hkey : (kvs.map (·.1))[i]? = some (.inl k) := by rw [hks, List.getElem?_map, hk]; rfl
    have hval : valV kvs (Sum.inl k) = some v := by
      clear hr hx v1
      have nd2 : (kvs.map (·.1)).Nodup := by
        rw [hks]
        exact List.Pairwise.map _ (fun a b h e => h (by injection e)) nd
      clear hks hl nd hk hd
      induction kvs generalizing i with
      | nil => simp at hv
      | cons q r ih =>
        rw [List.map_cons] at nd2 hkey hv
        have nd3 := List.nodup_cons.mp nd2
        cases i with
        | zero =>
          rw [List.getElem?_cons_zero] at hkey hv
          rw [valV_pos (Option.some.inj hkey), Option.some.inj hv]
        | succ i =>
          rw [List.getElem?_cons_succ] at hkey hv
          rw [valV_neg (fun e => nd3.1 (by rw [e]; exact List.mem_of_getElem? hkey))]
          exact ih hv hkey nd3.2
    exact ⟨x, v, rfl, by rw [← hval]; exact DGet.k (k := Sum.inl k) hx, q v H2 (e1.trans e2) a2 hvd⟩
/-! sorted(d) -/
def ins (x : Int) : List Int → List Int
  | [] => [x]
  | y :: l => if x ≤ y then x :: y :: l else y :: ins x l
def srt : List Int → List Int
  | [] => []
  | x :: l => ins x (srt l)
theorem ins_perm (x : Int) : ∀ l, (ins x l).Perm (x :: l)
  | [] => .refl _
  | y :: l => by
    rw [ins]
    split
    · exact .refl _
    · exact ((ins_perm x l).cons y).trans (.swap x y l)
theorem srt_perm : ∀ l, (srt l).Perm l
  | [] => .refl _
  | x :: l => (ins_perm x _).trans ((srt_perm l).cons x)
theorem ins_up (x : Int) : ∀ l : List Int, l.Pairwise (· ≤ ·) → (ins x l).Pairwise (· ≤ ·)
  | [], _ => by rw [ins]; exact List.pairwise_singleton ..
  | y :: l, h => by
    rw [ins]
    have h1 := List.pairwise_cons.mp h
    split
    · rename_i hx
      refine List.pairwise_cons.mpr ⟨fun u hu => ?_, h⟩
      rcases List.mem_cons.mp hu with rfl | hu
      · exact hx
      · exact Int.le_trans hx (h1.1 u hu)
    · rename_i hx
      refine List.pairwise_cons.mpr ⟨fun u hu => ?_, ins_up x l h1.2⟩
      rcases List.mem_cons.mp ((ins_perm x l).mem_iff.mp hu) with rfl | hu
      · omega
      · exact h1.1 u hu
theorem srt_up : ∀ l, (srt l).Pairwise (· ≤ ·)
  | [] => .nil
  | x :: l => ins_up x _ (srt_up l)
theorem up_one : ∀ {a b : List Int}, a.Perm b → a.Pairwise (· ≤ ·) → b.Pairwise (· ≤ ·) → a = b
  | [], b, h, _, _ => (List.nil_perm.mp h).symm
  | x :: a, [], h, _, _ => absurd h.length_eq (by simp)
  | x :: a, y :: b, h, h1, h2 => by
    have p1 := List.pairwise_cons.mp h1
    have p2 := List.pairwise_cons.mp h2
    have e : x = y := by
      have m1 : x ∈ y :: b := h.mem_iff.mp (List.mem_cons_self ..)
      have m2 : y ∈ x :: a := h.mem_iff.mpr (List.mem_cons_self ..)
      have l1 : y ≤ x := by
        rcases List.mem_cons.mp m1 with e | m
        · omega
        · exact p2.1 x m
      have l2 : x ≤ y := by
        rcases List.mem_cons.mp m2 with e | m
        · omega
        · exact p1.1 y m
      omega
    subst e
    rw [up_one (List.Perm.cons_inv h) p1.2 p2.2]
theorem rb_sortD (hl : ks.length = ds.length) (h64 : ks.length < 64) : RB z s (fun xs H Q => ∃ (a : Addr) (kvs : List (Key × V)) (ks : List Int), xs = [.ref a] ∧ Rd H a (.dK kvs) ∧ kvs.map (·.1) = ks.map Sum.inl ∧ ks.length < 64 ∧
    ∀ (ys : List Int) (p : Addr), ys.Perm ks → ys.Pairwise (· ≤ ·) → H p = none → Q (.ref p) (upd H p (.lst (ys.map V.int)))) [dD ks ds] (.list ((srt ks).map .int)) := fun vs H at_ h Q q => by
  cases h with
  | cons h r =>
    cases r
    obtain ⟨a, kvs, rfl, n, ha, hk, hr⟩ := h.dict hl
    refine ⟨a, kvs, ks, rfl, .inl ha, hk, h64, fun ys p hp hu hn => ?_⟩
    rw [up_one (hp.trans (srt_perm ks).symm) hu (srt_up ks)]
    exact q _ _ (.new hn) (at_.new hn) (.lst (at_.fresh hn) upd_same (daAll_ints _))
/-! [e for x, y in d.items()] -/
theorem lcI_tree {i j k : Nat} {scope : Scope} (hjk : j ≠ k) (f : Nat → PyData) (hl : ks.length = ds.length) (hb : ks.length ≤ 100000) (hnd : ∀ d ∈ ds, nod d = true) (hnf : ∀ q, nod (f q) = true)
    (He : ∀ (m : Nat) (t : Int) (d : PyData), ks[m]? = some t → ds[m]? = some d → ∀ z' : Z, Blk X scope fun Y => EV Y z' elt (((lk es).set j (.val (.int t))).set k (.val d)) s (f m) s) (h : es[i]? = some (.val (dD ks ds))) :
    ∀ σ H, En z H σ es → At z H s → ∀ Q : VK, (∀ v H2, Ez z H H2 → At z H2 s → Da z H2 v (.list ((List.range ks.length).map f)) → Q v H2) → tLockE (tLc (iItems (tVar i)) (gTup X.K 2 (gCons (gName j) (gCons (gName k) gNil))) tYes (tEl X scope elt) [j, k]) σ H Q := fun σ H en at_ Q q => by
    obtain ⟨y0, hy, r0⟩ := en.slot h
    cases r0 with
    | val v0 =>
      obtain ⟨a, kvs, rfl, fa, ha, hk, hr⟩ := v0.dict hl
      have l2 := congrArg List.length hk
      rw [List.length_map, List.length_map] at l2
      refine ⟨a, .dK kvs, ha, True.intro, fun od => ?_⟩
      have na : z.dice ≠ some a := fa.1.1
      have at2 : At z (upd H a (.frz od (.dK kvs))) s := by
        refine ⟨fun b hb => ?_, fun w hw => ?_, at_.n, fun w hw => ?_⟩
        · rw [upd_ne (fun e => na (by rw [← e]; exact hb))]
          exact at_.d b hb
        · rw [upd_ne (fun e => fa.2 w.2 (by rw [← e]; exact hw))]
          exact at_.v w hw
        · obtain ⟨ps, h1, h2, h3⟩ := at_.t w hw
          refine ⟨ps, ?_, h2, fun pos cv hc => ?_⟩
          · show upd H a _ w.1 = _
            rw [upd_ne (fun e => fa.1.2 w.2 (by rw [← e]; exact hw))]
            exact h1
          · obtain ⟨c, e1, e2⟩ := h3 pos cv hc
            refine ⟨c, e1, ?_⟩
            rw [upd_ne (fun e => by
              rw [e, ha] at e2
              unfold LamX.CodeO at e2
              cases e2)]
            exact e2
      have kk : ∀ b o, Fz z b → H b = some o → ((∃ xs, o = .lst xs) ∨ ∃ xs, o = .tup xs) → Fz z b ∧ upd H a (.frz od (.dK kvs)) b = some o := fun b o fb hb ho => ⟨fb, by
        rw [upd_ne (fun e => by
          rw [e, ha] at hb
          cases hb
          rcases ho with ⟨_, ho⟩ | ⟨_, ho⟩ <;> cases ho)]
        exact hb⟩
      have en2 : En z (upd H a (.frz od (.dK kvs))) σ (lk es) := En.lk rfl kk en
      refine ⟨.ref a, hy, a, od, kvs, rfl, upd_same, fun D hD => ?_⟩
      have g1 : ∀ m, m < ks.length → ks[m]? = some (ks.getD m 0) := fun m hm => by
        rw [List.getD_eq_getElem?_getD, List.getElem?_eq_getElem hm]
        rfl
      have g2 : ∀ m, m < ks.length → ds[m]? = some (ds.getD m .none) := fun m hm => by
        rw [List.getD_eq_getElem?_getD, List.getElem?_eq_getElem (by omega)]
        rfl
      refine lc_two (K := X.K) (walk_items (d := a) (o := od) (kvs := kvs)) (fun _ => s) (fun _ => s) en2 at2 hD hjk (fun m => .int (ks.getD m 0)) (fun m => ds.getD m .none) (fun H' e => e a _ fa upd_same) (fun m w H' H2 hm eH hY => ?_) (by omega) (fun _ => true) (fun m => (List.range m).map f) rfl
        (fun z' m hm σ H en at_ Q q => q H (.refl H) at_) (fun z' m hm _ => ⟨f m, by rw [List.range_succ, List.map_append]; rfl, fun σ H en at_ Q q s0 H0 C cl fp => He m _ _ (g1 m (by omega)) (g2 m (by omega)) z' s0 H0 C cl fp σ H en at_ Q q⟩) (fun m _ h => by cases h) (fun H' e a2 d2 => ?_)
      · obtain ⟨T, u, v, rfl, nT, rfl, hu, hv⟩ := hY
        have hm' : m < ks.length := by omega
        refine ⟨T, u, v, rfl, .inl (.inl upd_same), .inr ⟨nT, rfl⟩, ?_, ?_⟩
        · have hu2 : (kvs.map (·.1))[m]?.map kV = some u := by
            rw [List.getElem?_map, Option.map_map]
            exact hu
          rw [hk, List.getElem?_map, g1 m hm'] at hu2
          rw [← Option.some.inj hu2]
          exact .int _
        · obtain ⟨v', hv', hd⟩ := hr.get m _ (g2 m hm')
          rw [List.getElem?_map] at hv'
          have e3 : v' = v := Option.some.inj (hv'.symm.trans hv)
          rw [← e3]
          exact hd.rn kk (hnd _ (List.mem_of_getElem? (g2 m hm')))
      · have hfr : H' a = some (.frz od (.dK kvs)) := e a _ fa upd_same
        refine ⟨hfr, ?_⟩
        rw [l2] at d2
        refine q _ _ (fun b o fb hb => ?_) ?_ ?_
        · by_cases e4 : b = a
          · rw [e4, ha] at hb
            rw [e4, upd_same]
            exact hb
          · rw [upd_ne e4]
            exact e b o fb (by rw [upd_ne e4]; exact hb)
        · refine ⟨fun b hb => ?_, fun w hw => ?_, a2.n, fun w hw => ?_⟩
          · rw [upd_ne (fun e => na (by rw [← e]; exact hb))]
            exact a2.d b hb
          · rw [upd_ne (fun e => fa.2 w.2 (by rw [← e]; exact hw))]
            exact a2.v w hw
          · obtain ⟨ps, h1, h2, h3⟩ := a2.t w hw
            refine ⟨ps, ?_, h2, fun pos cv hc => ?_⟩
            · show upd H' a _ w.1 = _
              rw [upd_ne (fun e => fa.1.2 w.2 (by rw [← e]; exact hw))]
              exact h1
            · obtain ⟨c, e1, e2⟩ := h3 pos cv hc
              refine ⟨c, e1, ?_⟩
              rw [upd_ne (fun e => by
                rw [e, hfr] at e2
                unfold LamX.CodeO at e2
                cases e2)]
              exact e2
        · refine d2.rn (fun b o fb hb ho => ⟨fb, ?_⟩) ?_
          · rw [upd_ne (fun e => by
              rw [e, hfr] at hb
              cases hb
              rcases ho with ⟨_, ho⟩ | ⟨_, ho⟩ <;> cases ho)]
            exact hb
          · show nodAll _ = true
            generalize List.range ks.length = L
            induction L with
            | nil => rfl
            | cons m L ih =>
              show (nod (f m) && nodAll (L.map f)) = true
              rw [hnf m, ih]
              rfl
theorem ev_lcI {i j k : Nat} {n x y : Str} {scope : Scope} {kt : Nat} (hc : X.calm = true) (hN : X.N.Nodup) (hjk : j ≠ k) (f : Nat → PyData) (hl : ks.length = ds.length) (hb : ks.length ≤ 100000) (hnd : ∀ d ∈ ds, nod d = true) (hnf : ∀ q, nod (f q) = true) (hB : BlkOk X.N X.env.scope scope [(x, j), (y, k)])
    (hg : PgIn X scope (.Tuple [.Name x p, .Name y p1] kt p2) (gTup X.K 2 (gCons (gName j) (gCons (gName k) gNil))))
    (He : ∀ (m : Nat) (t : Int) (d : PyData), ks[m]? = some t → ds[m]? = some d → ∀ z' : Z, Blk X scope fun Y => EV Y z' elt (((lk es).set j (.val (.int t))).set k (.val d)) s (f m) s)
    (h : es[i]? = some (.val (dD ks ds)) := by rfl) (hNi : X.N[i]? = some n := by rfl) (hv : Vis X.env.scope n := by first | exact Or.inl rfl | exact Or.inr (Or.inl rfl) | exact Or.inr (Or.inr rfl)) (hdb : (n == ("__debug__" : Str)) = false := by decide) (hcd : (n == ("__classdict__" : Str)) = false := by decide)
    (hbase : attributeBase (.Name n p3) "items" X.env (eval (.Name n p3) X.env) = eval (.Name n p3) X.env := by rfl) (hline : (p4.endLine == p5.line) = true := by rfl) (hs : ∀ v, foldedSetIterable (.Call (.Attribute (.Name n p3) "items" p4) [] [] p5) X.env v = pure v := by intro _; rfl) :
    EV X z (.ListComp elt [{ target := .Tuple [.Name x p, .Name y p1] kt p2, iter := .Call (.Attribute (.Name n p3) "items" p4) [] [] p5, ifs := [], is_async := 0 }] scope pos) es s (.list ((List.range ks.length).map f)) s :=
    .mk (pe_lock (pe_lc (own := [(x, j), (y, k)]) hc hN (pi_items (pe_var hNi hv hdb hcd) hbase hline) hB hg (fun _ _ _ _ _ => pts_nil) tEl_ok hs)) (lcI_tree hjk f hl hb hnd hnf He h)
theorem et_chainT {c : Expr} {i j l : Int} (ha : EV X z a es s (.int i) s1) (hb : EV X z b es s1 (.int j) s2) (hc : EV X z c es s2 (.int l) s2) (hm : lastMarks [.LtE, .LtE] [b, c] = false := by with_unfolding_all rfl) : ET X z (.Compare a [.LtE, .LtE] [b, c] pos) es s (decide (i ≤ j) && decide (j ≤ l)) s2 :=
  fun σ H en at_ Q q => ⟨_, pt_chain op_le op_le wE_ok wE_ok wE_ok hm, ha σ H en at_ _ fun x H1 e1 a1 x1 => hb σ H1 (en.mono e1) a1 _ fun y H2 e2 a2 y2 => by
    cases x1
    cases y2
    refine ⟨i, j, rfl, rfl, decide (i ≤ j), rfl, ?_⟩
    cases hk : decide (i ≤ j) with
    | true =>
      refine iteT (hc σ H2 (en.mono (e1.trans e2)) a2 _ fun w H3 e3 a3 w3 => ?_)
      cases w3
      exact ⟨j, l, rfl, rfl, _, rfl, by rw [hk] at q; exact q H3 ((e1.trans e2).trans e3) a3⟩
    | false => exact iteF ⟨_, rfl, by rw [hk] at q; exact q H2 (e1.trans e2) a2⟩⟩
end
end DL


set_option Elab.async false
set_option linter.all false
set_option maxRecDepth 100000
namespace DL
open PySem PySem.Spec PyProof.Rows L2
variable [TabT]
/-! ### a dict of one's own: made, lent, written -/
theorem ex_app {M : Model} {Γ : _} {env : Env} {r : List Stmt} {Q : Flow → _ → Shared → Prop} {E : Value → _ → Shared → Prop} : ∀ (l : List Stmt) p s, Sem.wp M Γ (execs l env) (fun f p' s' => match f with | .next => Sem.wp M Γ (execs r env) Q E p' s' | f => Q f p' s') E p s → Sem.wp M Γ (execs (l ++ r) env) Q E p s
  | [], p, s, h => h
  | st :: l, p, s, h => by
    rw [execs_cons, Sem.wp_bind'] at h
    rw [List.cons_append, execs_cons, Sem.wp_bind']
    refine Sem.wp_mono M Γ _ (fun f p' s' h' => ?_) (fun _ _ _ h' => h') _ _ h
    cases f with
    | next => exact ex_app l p' s' h'
    | ret v => exact h'
    | brk => exact h'
    | cont => exact h'
theorem wb_app {X : Cx} {a b : List Stmt} {D : Ends} {σ : L2.St} {H : Hp} (h : wB X a { D with nx := wB X b D } σ H) : wB X (a ++ b) D σ H := by
  refine ⟨fun D σ H => wB X a { D with nx := wB X b D } σ H, ⟨fun pins s σ H D I h => ?_⟩, h⟩
  intro Γ p hΓ
  refine ex_app a p s (Sem.wp_mono _ Γ _ (fun f p' s' h' => ?_) (fun _ _ _ h' => h') _ _ ((wB_ok (X := X) (st := a)).run pins s σ H _ I h Γ p hΓ))
  cases f with
  | next =>
    obtain ⟨σ', H', I', q⟩ := h'
    exact (wB_ok (X := X) (st := b)).run pins s' σ' H' D I' q Γ p' hΓ
  | ret v => exact h'
  | brk => exact h'
  | cont => exact h'
/-- the other dicts of one's own put aside -/
def unS : Sl → Sl
  | .dct _ _ _ => .un
  | e => e
def unD (es : List Sl) : List Sl := es.map unS
section
variable {X : Cx} {z : Z} {es es2 : List Sl} {s s1 s2 s3 s4 : S} {a b e e1 : Expr} {pos pos2 p1 p2 p3 p4 px : Pos} {ks : List Int} {ds : List PyData} {d d1 : PyData} {o : Out} {rest mid : List Stmt}
/-- what is lent is data meanwhile -/
theorem lend_tree {T : TE} (i : Nat) {p : Addr} (h : es[i]? = some (.dct p ks ds)) (he : ∀ z' σ H, En z' H σ ((unD es).set i (.val (dD ks ds))) → At z' H s → ∀ Q : VK, (∀ v H2, Ez z' H H2 → At z' H2 s1 → Da z' H2 v d → Q v H2) → T σ H Q) (hn : nod d = true) :
    ∀ σ H, En z H σ es → At z H s → ∀ Q : VK, (∀ v H2, Ez z H H2 → At z H2 s1 → Da z H2 v d → Q v H2) → T σ H Q := fun σ H en at_ Q q => by
  obtain ⟨y, hy, r⟩ := en.slot h
  cases r with
  | @dct _ kvs _ _ m hk hr =>
    have hp : H p = some (.dK kvs) := at_.v _ m
    let z' : Z := ⟨z.dice, z.vol.filter fun q => decide (q.1 ≠ p)⟩
    have inn : ∀ q, q ∈ z.vol → q.1 ≠ p → q ∈ z'.vol := fun q hq ne => List.mem_filter.mpr ⟨hq, by simpa using ne⟩
    have out : ∀ q, q ∈ z'.vol → q ∈ z.vol := fun q hq => (List.mem_filter.mp hq).1
    have re : ∀ b u, Fz z b → H b = some u → Fz z' b ∧ H b = some u := fun b u fb hb => ⟨⟨fb.1, fun o mo => fb.2 o (out _ mo)⟩, hb⟩
    have fp : Fz z' p := ⟨⟨(at_.n _ m).1, at_.tab_far2 hp (.dK kvs)⟩, fun o mo => by
      have := (List.mem_filter.mp mo).2
      simp at this⟩
    have hl : i < es.length := (List.getElem?_eq_some_iff.mp h).1
    have en' : En z' H σ ((unD es).set i (.val (dD ks ds))) := by
      refine En.by_slots (by rw [List.length_set]; unfold unD; rw [List.length_map]; exact en.length) fun j x f hx hf => ?_
      by_cases hj : i = j
      · subst hj
        rw [List.getElem?_set_self (by unfold unD; rw [List.length_map]; exact hl)] at hf
        cases hf
        rw [hy] at hx
        cases hx
        exact .val (.dkv fp hp hk (hr.re re) rfl)
      · rw [List.getElem?_set_ne hj] at hf
        unfold unD at hf
        rw [List.getElem?_map] at hf
        cases hg : es[j]? with
        | none => rw [hg] at hf; cases hf
        | some g =>
          rw [hg] at hf
          cases Option.some.inj hf
          obtain ⟨y2, hy2, rr⟩ := en.slot hg
          rw [hx] at hy2
          cases hy2
          cases rr with
          | fk r => exact .fk (r.re re)
          | fns n h r => exact .fns (re _ _ n h).1 (re _ _ n h).2 (fun q hq => (r q hq).re re)
          | un => exact .un
          | val v => exact .val (v.re re)
          | dice v => exact .dice v
          | raw => exact .raw
          | dct _ _ _ => exact .un
          | exc v => exact .exc (v.re re)
          | @own b us gs mm kk =>
            have nb : b ≠ p := fun e => by
              have h1 : H b = some (.lst us) := at_.v _ mm
              rw [e, hp] at h1
              cases h1
            exact .own (inn _ mm nb) (kk.re re)
    have at' : At z' H s := ⟨at_.d, fun w hw => at_.v w (out w hw), fun w hw => at_.n w (out w hw), at_.t⟩
    refine he z' σ H en' at' _ fun v H1 k1 a1 v1 => ?_
    have hp1 : H1 p = some (.dK kvs) := k1 p _ fp hp
    refine q v H1 (fun b u fb hb => k1 b u (re b u fb hb).1 hb) ⟨a1.d, fun w hw => ?_, at_.n, a1.t⟩ (Da.rn (z := z') (z' := z) (H := H1) (H' := H1) (fun b u fb hb ho => ⟨⟨fb.1, fun o mo => ?_⟩, hb⟩) v1 hn)
    · by_cases e : w.1 = p
      · have h0 := at_.v w hw
        rw [e, hp] at h0
        rw [e, hp1]
        exact h0
      · exact a1.v w (inn w hw e)
    · by_cases e : b = p
      · rw [e, hp1] at hb
        cases hb
        rcases ho with ⟨_, ho⟩ | ⟨_, ho⟩ <;> cases ho
      · exact fb.2 o (inn _ mo e)
theorem ev_lend (i : Nat) {p : Addr} (h : es[i]? = some (.dct p ks ds)) (he : ∀ z', EV X z' e ((unD es).set i (.val (dD ks ds))) s d s1) (hn : nod d = true) : EV X z e es s d s1 := lend_tree i h he hn
/-- a list of pairs, seen as a dict's entries -/
theorem pairs_kvs {H : Hp} : ∀ {xs : List V} {ks : List Int} {ds : List PyData}, ks.length = ds.length → DaAll z H xs ((ks.zip ds).map fun q => .tuple [.int q.1, q.2]) → ∃ (ps : List Addr) (kvs : List (Key × V)), xs = ps.map V.ref ∧ Paired (fun p kv => SqT X.K H p [kV kv.1, kv.2]) ps kvs ∧ kvs.map (·.1) = ks.map Sum.inl ∧ DaAll z H (kvs.map (·.2)) ds
  | _, [], [], _, .nil => ⟨[], [], rfl, .nil, rfl, .nil⟩
  | _, k :: ks, d :: ds, hl, h => by
    rw [List.zip_cons_cons, List.map_cons] at h
    cases h with
    | cons h1 h2 =>
      obtain ⟨ps, kvs, rfl, hp, hk, hr⟩ := pairs_kvs (by simpa using hl) h2
      cases h1 with
      | @tup t us _ ft ht rt =>
        cases rt with
        | cons r1 rt =>
          cases rt with
          | cons r2 rt =>
            cases rt
            cases r1
            rename_i v2
            exact ⟨t :: ps, (Sum.inl k, v2) :: kvs, rfl, .cons (.inl (.inl ht)) hp, by rw [List.map_cons, hk]; rfl, .cons r2 hr⟩
  | _, [], _ :: _, hl, _ => by simp at hl
  | _, _ :: _, [], hl, _ => by simp at hl
theorem merge_new : ∀ {kvs acc : List (Key × V)}, ((acc ++ kvs).map (·.1)).Nodup → mergeK acc kvs = acc ++ kvs
  | [], acc, _ => by rw [List.append_nil]; rfl
  | q :: kvs, acc, h => by
    have e : acc ++ q :: kvs = (acc ++ [q]) ++ kvs := by rw [List.append_assoc]; rfl
    have hv : valV acc q.1 = none := by
      cases hh : valV acc q.1 with
      | none => rfl
      | some u =>
        have : (acc.any fun kv => decide (kv.1 = q.1)) = true := by rw [valV_any, hh]; rfl
        obtain ⟨w, hw, hq⟩ := List.any_eq_true.mp this
        rw [List.map_append] at h
        exact absurd (of_decide_eq_true hq) ((List.nodup_append.mp h).2.2 w.1 (List.mem_map.mpr ⟨w, hw, rfl⟩) q.1 (by simp))
    show mergeK (putK acc q.1 q.2) kvs = _
    rw [putK_new q.2 hv, e]
    rw [e] at h
    exact merge_new h
theorem sr_own (i : Nat) {x : Str} {k : Int} {kk : Nat} {pos3 pk ps px2 : Pos} {es3 : Addr → List Sl} (hc : X.calm = true) (hu : X.A.units + 64 < cLine) (hN : X.N.Nodup) (hm : X.mg "dict" = none)
    (ha : EV X z a es s (.list ((ks.zip ds).map fun q => .tuple [.int q.1, q.2])) s1) (hl : ks.length = ds.length) (nd : ks.Nodup) (hb : ks.length < 1000)
    (hmid : ∀ p z', SR X z' mid (es.set i (.dct p ks ds)) s1 (.nx (es3 p) s2)) (h2 : ∀ p, (es3 p)[i]? = some (.dct p ks ds)) (he1 : ∀ p z', EV X z' e1 (es3 p) s2 d1 s3)
    (hret : ∀ p z', EV X z' e ((unD (es3 p)).set i (.dct p (ks ++ [k]) (ds ++ [d1]))) s3 d s4) (hk : k ∉ ks)
    (hsp : rest = mid ++ [.Assign [.Subscript (.Name x px2) (.Constant (.int k) kk pk) ps] e1 pos2, .Return (some e) pos3])
    (hi : X.N[i]? = some x := by rfl) (hx : Loc X.env.scope x := by first | exact Or.inl rfl | exact Or.inr rfl)
    (hs : swapsWith (.Call (.Name "dict" p1) [a] [] p2) (some (.Name x px)) pos.line X.env = pure false := by rfl) (hf : X.fn x = true ∨ X.env.scope.names.lookup x = some .local := by first | exact .inl rfl | exact .inr rfl)
    (hg : Gl X "dict" := by rfl) (hst : starEach [a] X.env = (false, eval a X.env) :: starEach [] X.env := by rfl) (hpl : (backTo p2 (starEach [] X.env)).any (·.1) = false := by rfl)
    (hv : Vis X.env.scope x := by first | exact Or.inl rfl | exact Or.inr (Or.inl rfl) | exact Or.inr (Or.inr rfl)) (hdb : (x == ("__debug__" : Str)) = false := by decide) (hcd : (x == ("__classdict__" : Str)) = false := by decide)
    (hs2 : swapsWith e1 (some (.Subscript (.Name x px2) (.Constant (.int k) kk pk) ps)) pos2.line X.env = pure false := by rfl) :
    SR X z (.Assign [.Name x px] (.Call (.Name "dict" p1) [a] [] p2) pos :: rest) es s (.rt d s4) := fun σ H en at_ D q => by
  subst hsp
  refine ⟨_, pss_cons (ps_set hN hi hx (pe_callTy (call_dictP hc) hg hm (by decide +kernel) (pa_cons wE_ok pa_nil hst) (by decide) (by decide) hst hpl) hs hf) wB_ok, ha σ H en at_ _ fun v H1 e1' a1 v1 => ?_⟩
  cases v1 with
  | @lst b xs _ fb hb1 r =>
    obtain ⟨ps', kvs, rfl, hp, hkeys, hr⟩ := pairs_kvs (X := X) hl r
    have l2 := congrArg List.length hkeys
    rw [List.length_map, List.length_map] at l2
    have ndk : (kvs.map (·.1)).Nodup := by
      rw [hkeys]
      exact List.Pairwise.map _ (fun a b h e => h (by injection e)) nd
    refine ⟨b, ps', kvs, rfl, .inl (.inl hb1), hp, fun p hp0 => ?_⟩
    rw [merge_new (acc := []) (by rw [List.nil_append]; exact ndk), List.nil_append]
    have fp := a1.fresh hp0
    let z1 : Z := z.add p (.dK kvs)
    have far : ∀ c u, Fz z c → H1 c = some u → Fz z1 c ∧ upd H1 p (.dK kvs) c = some u := fun c u fc hcu => ⟨fc.to_add (ne_of_none hcu hp0), by rw [upd_ne (ne_of_none hcu hp0)]; exact hcu⟩
    have en1 : En z1 (upd H1 p (.dK kvs)) (σ.set i (some (.ref p))) (es.set i (.dct p ks ds)) := (En.re (z := z) (z' := z1) rfl (fun q h => List.mem_cons_of_mem _ h) far (en.mono e1')).set i (.dct (List.mem_cons_self ..) hkeys (hr.re far))
    have at1 : At z1 (upd H1 p (.dK kvs)) s1 := by
      refine ⟨fun c hcd2 => ?_, fun w hw => ?_, fun w hw => ?_, tabs_new a1.t hp0⟩
      · rw [upd_ne (ne_of_none (a1.d c hcd2) hp0)]
        exact a1.d c hcd2
      · rcases List.mem_cons.mp hw with e | hw
        · rw [e]
          exact upd_same
        · rw [upd_ne (ne_of_none (a1.v w hw) hp0)]
          exact a1.v w hw
      · rcases List.mem_cons.mp hw with e | hw
        · rw [e]
          exact ⟨fp.1.1, .dK kvs⟩
        · exact a1.n w hw
    refine wb_app (hmid p z1 _ _ en1 at1 { D with nx := wB X _ D } fun σ3 H3 e3 a3 en3 => ?_)
    have up3 : ∀ c u, Fz z c → H c = some u → c ≠ p ∧ H3 c = some u := fun c u fc hcu => by
      have h1 := e1' c u fc hcu
      have ne := ne_of_none h1 hp0
      exact ⟨ne, e3 c u (fc.to_add ne) (by rw [upd_ne ne]; exact h1)⟩
    refine ⟨_, pss_cons (ps_dput (by omega) (pe_var hi hv hdb hcd) (wE_ok (e := .Constant (.int k) kk pk)) (wE_ok (e := e1)) hs2) (pss_one (ps_ret (wE_ok (e := e)))), ?_⟩
    refine he1 p z1 σ3 H3 en3 a3 _ fun v4 H4 e4 a4 v4d => ?_
    have en4 := en3.mono e4
    obtain ⟨y, hy, r3⟩ := en4.slot (h2 p)
    cases r3 with
    | @dct _ kvs3 _ _ m3 hk3 hr3 =>
      have hp4 : H4 p = some (.dK kvs) := a4.v (p, .dK kvs) (List.mem_cons_self ..)
      have eq3 : kvs3 = kvs := by
        have h5 := a4.v _ m3
        rw [hp4] at h5
        injection Option.some.inj h5 with h6
        exact h6.symm
      subst eq3
      refine ⟨_, hy, ?_⟩
      refine ev_int (X := X) (z := z1) (es := es3 p) (s := s3) (i := k) σ3 H4 en4 a4 _ fun u5 H5 e5 a5 v5 => ?_
      cases v5
      have en5 := en4.mono e5
      have hp5 : H5 p = some (.dK kvs3) := a5.v (p, .dK kvs3) (List.mem_cons_self ..)
      have hval : valV kvs3 (Sum.inl k) = none := by
        cases hh : valV kvs3 (Sum.inl k) with
        | none => rfl
        | some u =>
          have : (kvs3.any fun kv => decide (kv.1 = Sum.inl k)) = true := by rw [valV_any, hh]; rfl
          obtain ⟨w, hw, hq⟩ := List.any_eq_true.mp this
          have mm : w.1 ∈ ks.map (Sum.inl : Int → Key) := by rw [← hkeys]; exact List.mem_map.mpr ⟨w, hw, rfl⟩
          rw [of_decide_eq_true hq] at mm
          obtain ⟨k', hk', e'⟩ := List.mem_map.mp mm
          injection e' with e'
          exact absurd (e' ▸ hk') hk
      refine ⟨p, _, rfl, DPut.k (k := Sum.inl k) hp5 (by rw [sizeLine_eq]; omega), ?_⟩
      rw [putK_new v4 hval]
      let z2 : Z := z.add p (.dK (kvs3 ++ [(Sum.inl k, v4)]))
      have re : ∀ c u, Fz z1 c → H5 c = some u → Fz z2 c ∧ upd H5 p (.dK (kvs3 ++ [(Sum.inl k, v4)])) c = some u := fun c u fc hcu => by
        obtain ⟨f1, ne⟩ := fc.of_add
        exact ⟨f1.to_add ne, by rw [upd_ne ne]; exact hcu⟩
      have at2 : At z2 (upd H5 p (.dK (kvs3 ++ [(Sum.inl k, v4)]))) s3 := by
        refine ⟨fun c hcd2 => ?_, fun w hw => ?_, fun w hw => ?_, ?_⟩
        · rw [upd_ne (fun e => fp.1.1 (by rw [← e]; exact hcd2))]
          exact a5.d c hcd2
        · rcases List.mem_cons.mp hw with e | hw
          · rw [e]
            exact upd_same
          · rw [upd_ne (fun e => fp.2 w.2 (by rw [← e]; exact hw))]
            exact a5.v w (List.mem_cons_of_mem _ hw)
        · rcases List.mem_cons.mp hw with e | hw
          · rw [e]
            exact ⟨fp.1.1, .dK _⟩
          · exact a5.n w (List.mem_cons_of_mem _ hw)
        · intro w hw
          obtain ⟨qs, t1, t2, t3⟩ := a5.t w hw
          refine ⟨qs, ?_, t2, fun pos cv hc => ?_⟩
          · show upd H5 p _ w.1 = _
            rw [upd_ne (fun e => fp.1.2 w.2 (by rw [← e]; exact hw))]
            exact t1
          · obtain ⟨c, u1, u2⟩ := t3 pos cv hc
            refine ⟨c, u1, ?_⟩
            rw [upd_ne (fun e => by
              rw [e, hp5] at u2
              unfold LamX.CodeO at u2
              cases u2)]
            exact u2
      have hl3 : i < (es3 p).length := (List.getElem?_eq_some_iff.mp (h2 p)).1
      have en2 : En z2 (upd H5 p (.dK (kvs3 ++ [(Sum.inl k, v4)]))) σ3 ((unD (es3 p)).set i (.dct p (ks ++ [k]) (ds ++ [d1]))) := by
        refine En.by_slots (by rw [List.length_set]; unfold unD; rw [List.length_map]; exact en5.length) fun j w f hw hf => ?_
        by_cases hj : i = j
        · subst hj
          rw [List.getElem?_set_self (by unfold unD; rw [List.length_map]; exact hl3)] at hf
          cases hf
          rw [hy] at hw
          cases hw
          refine .dct (List.mem_cons_self ..) (by rw [List.map_append, List.map_append, hkeys]; rfl) ?_
          rw [List.map_append]
          exact ((hr3.mono e5).re re).app (.cons ((v4d.mono e5).re re) .nil)
        · rw [List.getElem?_set_ne hj] at hf
          unfold unD at hf
          rw [List.getElem?_map] at hf
          cases hg2 : (es3 p)[j]? with
          | none => rw [hg2] at hf; cases hf
          | some g =>
            rw [hg2] at hf
            cases Option.some.inj hf
            obtain ⟨y2, hy2, rr⟩ := en5.slot hg2
            rw [hw] at hy2
            cases hy2
            cases rr with
            | fk r => exact .fk (r.re re)
            | fns n h r => exact .fns (re _ _ n h).1 (re _ _ n h).2 (fun q hq => (r q hq).re re)
            | un => exact .un
            | val v => exact .val (v.re re)
            | dice v => exact .dice v
            | raw => exact .raw
            | dct _ _ _ => exact .un
            | exc v => exact .exc (v.re re)
            | @own b us gs mm kk =>
              have nb : b ≠ p := fun e => by
                have h1 : H5 b = some (.lst us) := a5.v _ mm
                rw [e, hp5] at h1
                cases h1
              refine .own ?_ (kk.re re)
              rcases List.mem_cons.mp mm with e | mm
              · exact absurd (congrArg Prod.fst e) nb
              · exact List.mem_cons_of_mem _ mm
      refine hret p z2 σ3 _ en2 at2 _ fun v6 H6 e6 a6 v6d => ?_
      refine q v6 H6 (fun c u fc hcu => ?_) ⟨a6.d, fun w hw => a6.v w (List.mem_cons_of_mem _ hw), fun w hw => a6.n w (List.mem_cons_of_mem _ hw), a6.t⟩ (v6d.re fun c u fc hcu => ⟨fc.of_add.1, hcu⟩)
      obtain ⟨ne, h3⟩ := up3 c u fc hcu
      have f1 : Fz z1 c := fc.to_add ne
      exact e6 c u (fc.to_add ne) (by rw [upd_ne ne]; exact e5 c u f1 (e4 c u f1 h3))
end
end DL


set_option Elab.async false
set_option linter.all false
set_option maxRecDepth 100000
namespace DL
open PySem PySem.Spec PyProof.Rows L2
variable [TabT]
section
variable {X : Cx} {z : Z} {es : List Sl} {s s1 : S} {iter elt cond : Expr} {pos spos py p p1 p2 p3 p4 p5 : Pos} {ks : List Int} {ds : List PyData} {o : Out} {rest : List Stmt}
/-- v = [e for x, y in own dict.items()] -/
theorem sr_lcI (i : Nat) {j k l : Nat} {n x y v : Str} {scope : Scope} {kt : Nat} {p0 : Addr} (hc : X.calm = true) (hN : X.N.Nodup) (hjk : j ≠ k) (f : Nat → PyData) (hl : ks.length = ds.length) (hb : ks.length ≤ 100000) (hnd : ∀ d ∈ ds, nod d = true) (hnf : ∀ q, nod (f q) = true) (hB : BlkOk X.N X.env.scope scope [(x, j), (y, k)])
    (hg : PgIn X scope (.Tuple [.Name x p, .Name y p1] kt p2) (gTup X.K 2 (gCons (gName j) (gCons (gName k) gNil))))
    (He : ∀ (m : Nat) (t : Int) (d : PyData), ks[m]? = some t → ds[m]? = some d → ∀ z' : Z, Blk X scope fun Y => EV Y z' elt (((lk ((unD es).set i (.val (dD ks ds)))).set j (.val (.int t))).set k (.val d)) s (f m) s)
    (h : es[i]? = some (.dct p0 ks ds)) (kk : SR X z rest (es.set l (.val (.list ((List.range ks.length).map f)))) s o)
    (hi : X.N[l]? = some v := by rfl) (hy : List.lookup v X.env.scope.names = some NameKind.local := by rfl) (hNi : X.N[i]? = some n := by rfl) (hv : Vis X.env.scope n := by first | exact Or.inl rfl | exact Or.inr (Or.inl rfl) | exact Or.inr (Or.inr rfl)) (hdb : (n == ("__debug__" : Str)) = false := by decide) (hcd : (n == ("__classdict__" : Str)) = false := by decide)
    (hbase : attributeBase (.Name n p3) "items" X.env (eval (.Name n p3) X.env) = eval (.Name n p3) X.env := by rfl) (hline : (p4.endLine == p5.line) = true := by rfl) (hs : ∀ v, foldedSetIterable (.Call (.Attribute (.Name n p3) "items" p4) [] [] p5) X.env v = pure v := by intro _; rfl)
    (hsw : swapsWith (.ListComp elt [{ target := .Tuple [.Name x p, .Name y p1] kt p2, iter := .Call (.Attribute (.Name n p3) "items" p4) [] [] p5, ifs := [], is_async := 0 }] scope pos) (some (.Name v py)) spos.line X.env = pure true := by exact sw_true rfl rfl rfl (by decide +kernel)) :
    SR X z (.Assign [.Name v py] (.ListComp elt [{ target := .Tuple [.Name x p, .Name y p1] kt p2, iter := .Call (.Attribute (.Name n p3) "items" p4) [] [] p5, ifs := [], is_async := 0 }] scope pos) spos :: rest) es s o := fun σ H en at_ D q => by
  have hn : nod (.list ((List.range ks.length).map f)) = true := by
    show nodAll _ = true
    generalize List.range ks.length = L
    induction L with
    | nil => rfl
    | cons m L ih =>
      show (nod (f m) && nodAll (L.map f)) = true
      rw [hnf m, ih]
      rfl
  have hlen : i < (unD es).length := by
    unfold unD
    rw [List.length_map]
    exact (List.getElem?_eq_some_iff.mp h).1
  exact ⟨_, pss_cons (ps_lock (ps_setLc (i := l) (own := [(x, j), (y, k)]) hc hN hi hy hsw (pi_items (pe_var hNi hv hdb hcd) hbase hline) hB hg (fun _ _ _ _ _ => pts_nil) tEl_ok hs)) wB_ok,
    lend_tree (d := .list ((List.range ks.length).map f)) i h (fun z' => lcI_tree (z := z') hjk f hl hb hnd hnf He (List.getElem?_set_self hlen)) hn σ H en at_ (fun v H2 => wB X rest D (σ.set l (some v)) H2) fun v H2 e2 a2 v2 => kk _ H2 ((en.mono e2).set l (.val v2)) a2 D (q.mono e2)⟩
/-- [e for x, y in a list of pairs if c], where c never holds -/
theorem ev_lcP0 {j k : Nat} {x y : Str} {scope : Scope} {kt : Nat} (hc : X.calm = true) (hN : X.N.Nodup) (hjk : j ≠ k) (ps : List (PyData × PyData)) (hit : EV X z iter es s (.list (ps.map fun q => .tuple [q.1, q.2])) s) (hl : ps.length ≤ 100000) (hB : BlkOk X.N X.env.scope scope [(x, j), (y, k)])
    (hg : PgIn X scope (.Tuple [.Name x p, .Name y p1] kt p2) (gTup X.K 2 (gCons (gName j) (gCons (gName k) gNil))))
    (Ht : ∀ q ∈ ps, ∀ z' : Z, Blk X scope fun Y => ET Y z' cond ((es.set j (.val q.1)).set k (.val q.2)) s false s) (hs : ∀ x, foldedSetIterable iter X.env x = pure x := by intro _; rfl) :
    EV X z (.ListComp elt [{ target := .Tuple [.Name x p, .Name y p1] kt p2, iter := iter, ifs := [cond], is_async := 0 }] scope pos) es s (.list []) s :=
  .mk (pe_lc (own := [(x, j), (y, k)]) hc hN (pi_list wE_ok) hB hg tTs_ok (tEl_ok (elt := elt)) hs) fun σ H en at_ Q q => by
    refine hit σ H en at_ _ fun v H1 e1 a1 v1 => ?_
    cases v1 with
    | @lst a xs _ fa ha r =>
      have hx : xs.length = ps.length := by rw [r.length, List.length_map]
      have g : ∀ i, i < xs.length → ps[i]? = some (ps.getD i (.none, .none)) := fun i hi => by
        rw [List.getD_eq_getElem?_getD, List.getElem?_eq_getElem (by omega)]
        rfl
      refine ⟨a, rfl, ⟨xs, .inl (.inl ha)⟩, fun D hD => ?_⟩
      refine lc_two (K := X.K) (walk_list (K := X.K) (a := a) (xs := xs)) (fun _ => s) (fun _ => s) (en.mono e1) a1 hD hjk (fun i => (ps.getD i (.none, .none)).1) (fun i => (ps.getD i (.none, .none)).2) (fun H' e => .inl (.inl (e a _ fa ha))) (fun i x H' H2 hi eH hy => ?_) (by omega) (fun _ => false) (fun _ => []) rfl
        (fun z' i hi σ H en at_ Q q s0 H0 C cl fp => Ht _ (List.mem_of_getElem? (g i hi)) z' s0 H0 C cl fp σ H en at_ Q q) (fun z' i hi h => by cases h) (fun i _ _ => ⟨rfl, rfl⟩) (fun H' e a2 d2 => ?_)
      · obtain ⟨d, hd, hv⟩ := r.getV i x hy.2
        rw [List.getElem?_map, g i hi] at hd
        have e0 : PyData.tuple [(ps.getD i (.none, .none)).1, (ps.getD i (.none, .none)).2] = d := Option.some.inj hd
        subst e0
        cases hv with
        | @tup t us _ ft ht rt =>
          cases rt with
          | cons h1 rt =>
            cases rt with
            | cons h2 rt =>
              cases rt
              exact ⟨t, _, _, rfl, .inl (.inl (by rw [hy.1]; exact eH t _ ft ht)), .inl hy.1, h1, h2⟩
      · exact q _ H' (e1.trans e) a2 d2
end
end DL


set_option Elab.async false
set_option linter.all false
set_option maxRecDepth 100000
namespace DL
open PySem PySem.Spec PyProof.Rows L2
variable [TabT]
section
variable {X : Cx} {z : Z} {es : List Sl} {s s1 s2 : S} {iter elt cond a b c e : Expr} {ds : List PyData} {o : Out} {rest body : List Stmt} {pos p p1 p2 p3 p4 apos : Pos}
theorem ev_lcP1 {j k : Nat} {x y : Str} {scope : Scope} {kt : Nat} (hc : X.calm = true) (hN : X.N.Nodup) (hjk : j ≠ k) (ps : List (PyData × PyData)) (f : PyData × PyData → PyData) (hit : EV X z iter es s (.list (ps.map fun q => .tuple [q.1, q.2])) s) (hl : ps.length ≤ 100000) (hB : BlkOk X.N X.env.scope scope [(x, j), (y, k)])
    (hg : PgIn X scope (.Tuple [.Name x p, .Name y p1] kt p2) (gTup X.K 2 (gCons (gName j) (gCons (gName k) gNil))))
    (Ht : ∀ q ∈ ps, ∀ z' : Z, Blk X scope fun Y => ET Y z' cond ((es.set j (.val q.1)).set k (.val q.2)) s true s) (He : ∀ q ∈ ps, ∀ z' : Z, Blk X scope fun Y => EV Y z' elt ((es.set j (.val q.1)).set k (.val q.2)) s (f q) s) (hs : ∀ x, foldedSetIterable iter X.env x = pure x := by intro _; rfl) :
    EV X z (.ListComp elt [{ target := .Tuple [.Name x p, .Name y p1] kt p2, iter := iter, ifs := [cond], is_async := 0 }] scope pos) es s (.list (ps.map f)) s :=
  .mk (pe_lc (own := [(x, j), (y, k)]) hc hN (pi_list wE_ok) hB hg tTs_ok (tEl_ok (elt := elt)) hs) fun σ H en at_ Q q => by
    refine hit σ H en at_ _ fun v H1 e1 a1 v1 => ?_
    cases v1 with
    | @lst a xs _ fa ha r =>
      have hx : xs.length = ps.length := by rw [r.length, List.length_map]
      have g : ∀ i, i < xs.length → ps[i]? = some (ps.getD i (.none, .none)) := fun i hi => by
        rw [List.getD_eq_getElem?_getD, List.getElem?_eq_getElem (by omega)]
        rfl
      refine ⟨a, rfl, ⟨xs, .inl (.inl ha)⟩, fun D hD => ?_⟩
      refine lc_two (K := X.K) (walk_list (K := X.K) (a := a) (xs := xs)) (fun _ => s) (fun _ => s) (en.mono e1) a1 hD hjk (fun i => (ps.getD i (.none, .none)).1) (fun i => (ps.getD i (.none, .none)).2) (fun H' e => .inl (.inl (e a _ fa ha))) (fun i x H' H2 hi eH hy => ?_) (by omega) (fun _ => true) (fun i => (ps.take i).map f) rfl
        (fun z' i hi σ H en at_ Q q s0 H0 C cl fp => Ht _ (List.mem_of_getElem? (g i hi)) z' s0 H0 C cl fp σ H en at_ Q q) (fun z' i hi _ => ⟨f (ps.getD i (.none, .none)), by rw [List.take_add_one, g i hi, List.map_append]; rfl, fun σ H en at_ Q q s0 H0 C cl fp => He _ (List.mem_of_getElem? (g i hi)) z' s0 H0 C cl fp σ H en at_ Q q⟩) (fun i _ h => by cases h) (fun H' e a2 d2 => ?_)
      · obtain ⟨d, hd, hv⟩ := r.getV i x hy.2
        rw [List.getElem?_map, g i hi] at hd
        have e0 : PyData.tuple [(ps.getD i (.none, .none)).1, (ps.getD i (.none, .none)).2] = d := Option.some.inj hd
        subst e0
        cases hv with
        | @tup t us _ ft ht rt =>
          cases rt with
          | cons h1 rt =>
            cases rt with
            | cons h2 rt =>
              cases rt
              exact ⟨t, _, _, rfl, .inl (.inl (by rw [hy.1]; exact eH t _ ft ht)), .inl hy.1, h1, h2⟩
      · rw [hx, List.take_length] at d2
        exact q _ H' (e1.trans e) a2 d2
/-- sorted(a list of ints) -/
theorem rb_sortL {ns : List Int} (h : ns.length < 64) : RB z s (rSorted X.K) [.list (ns.map .int)] (.list ((srt ns).map .int)) := fun vs H at_ h0 Q q => by
  cases h0 with
  | cons h1 r =>
    cases r
    cases h1 with
    | lst n e r =>
      have hv := r.ints
      subst hv
      refine ⟨_, ns, rfl, .inl (.inl e), h, fun ys p hp hu hn => ?_⟩
      rw [up_one (hp.trans (srt_perm ns).symm) hu (srt_up ns)]
      exact q _ _ (.new hn) (at_.new hn) (.lst (at_.fresh hn) upd_same (daAll_ints _))
end
end DL


set_option Elab.async false
set_option linter.all false
set_option maxRecDepth 100000
set_option maxHeartbeats 2000000
namespace DL
open PySem PySem.Spec PyProof.Rows L2
variable [TabT]
/-! ### {True: i} -/
theorem dictB_any {P P' : Program} {w w' : World} {h : Heap} {a : Addr} {k : Bool} {v : Value} (x : h.DictOf (PpSet.boolK P w) a [(k, v)]) : h.DictOf (PpSet.boolK P' w') a [(k, v)] := by
  obtain ⟨o, es, ep, h1, h2, h3, h4, h5, h6⟩ := x
  refine ⟨o, es, ep, h1, h2, h3, h4, ?_, h6⟩
  generalize es.toList = l at h5
  cases h5 with
  | cons e1 e2 r =>
    cases r
    exact .cons e1 e2 .nil
theorem boolD_ok {P : Program} {w : World} {H : Hp} {h : Heap} {a : Addr} {k : Bool} {i : Int} {t : Tok} (hs : (a == sysModules) = false) (x : h.DictOf (PpSet.boolK P w) a [(k, .int i t)]) : ObjOk P w H h a (BoolD a k i) := by
  obtain ⟨o, es, ep, h1, _⟩ := id x
  refine ⟨⟨hs, t, fun P w => dictB_any x⟩, ⟨o, h1⟩, fun ha hb ⟨q1, t, q⟩ st => ⟨q1, t, fun P w => ?_⟩⟩
  obtain ⟨o, es, ep, h1, r⟩ := q P w
  exact ⟨o, es, ep, st _ h1, r⟩
section
variable {X : Cx} {pins : List (Addr × Obj)} {σ : L2.St} {H : Hp} {s : Shared} {a : Addr} {k : Bool} {i : Int}
theorem boolD_get (I : Inv X pins σ H s) (e : H a = some (BoolD a k i)) : (a == sysModules) = false ∧ ∃ t, s.heap.DictOf (PpSet.boolK X.prog X.w) a [(k, .int i t)] := by
  obtain ⟨⟨h1, t, h2⟩, _⟩ := I.hok a _ e
  exact ⟨h1, t, h2 _ _⟩
/-- {True: 1} -/
theorem pe_dispB {e1 e2 : Expr} {pos : Pos} (h1 : PE X e1 (tC (.bl k))) (h2 : PE X e2 (tC (.int i))) : PE X (.Dict [some e1] [e2] pos) (fun σ H Q => ∀ p, H p = none → Q (.ref p) (upd H p (BoolD p k i))) := by
  refine ⟨fun pins s σ H Q I q => ?_⟩
  have hn := I.hok.fresh (Nat.le_refl s.heap.objs.size)
  have I1 := I.laid (a := s.heap.objs.size) (o := .dK []) (h' := s.heap.push { cls := .type "dict", data := .dict #[] }) (t' := s.toks) (fun _ _ q => Heap.get?_push_of_some _ q) (Nat.le_refl _) (dk_empty s.heap I.big)
  have hs : (s.heap.objs.size == sysModules) = false := beq_eq_false_iff_ne.mpr (Ne.symm (Nat.ne_of_lt I.big))
  refine wpAny_Dict_walk (knd := PpSet.boolK X.prog X.w) rfl rfl (by simp) (by show 1 ≤ 15; decide) (thn ((pps_cons h1 h2 pps_nil).run pins _ σ _ (fun ps H2 => ps = [(.bl k, .int i)] ∧ H2 = upd H s.heap.objs.size (.dK [])) I1 ⟨rfl, rfl⟩) fun ws s2 ⟨ps, H2, I2, rel, ep, eH⟩ => ?_)
  subst ep eH
  cases rel with
  | @cons a b as bs hh t =>
    cases t
    obtain ⟨b1, b2⟩ := b
    obtain ⟨r1, r2⟩ := hh
    obtain rfl : b1 = Value.bool k := r1
    obtain ⟨t, rfl⟩ : ∃ t, b2 = Value.int i t := r2
    have e : upd H s.heap.objs.size (.dK []) s.heap.objs.size = some (.dK []) := upd_same
    obtain ⟨z, hd, vs0, r0, dd⟩ := dk_of I2.hok e
    cases r0
    have dd2 : s2.heap.DictOf (PpSet.boolK X.prog X.w) s.heap.objs.size [] := by
      obtain ⟨o, es, ep, q1, q2, q3, q4, q5, q6⟩ := dd
      have hes : es = #[] := by
        have : es.toList = [] := by
          generalize es.toList = l at q5
          cases q5
          rfl
        exact Array.toList_eq_nil_iff.mp this
      subst hes
      exact ⟨o, #[], ep, q1, q2, q3, fun e he => by simp at he, .nil, List.nodup_nil⟩
    refine ⟨[(k, .int i t)], ⟨PpSet.boolK_is _ _ k, rfl, True.intro⟩, dd2, fun h' dd' sb => ⟨.ref s.heap.objs.size, upd H s.heap.objs.size (BoolD s.heap.objs.size k i), ?_, rfl, q _ hn⟩⟩
    have he : ∃ q, h'.get? s.heap.objs.size = some q := let ⟨q, _, _, hq, _⟩ := dd'; ⟨q, hq⟩
    have I3 := d_write (ob := BoolD s.heap.objs.size k i) (t' := s2.toks + [(Value.bool k, Value.int i t)].length) I2 (by rw [e]; exact True.intro) sb he (boolD_ok hs (show h'.DictOf (PpSet.boolK X.prog X.w) s.heap.objs.size [(k, .int i t)] from dd'))
    rw [upd_upd] at I3
    exact I3
/-- len of such a dict -/
theorem cr_lenB : CallR X (.builtin "len") (fun xs H Q => ∃ a k i, xs = [V.ref a] ∧ H a = some (BoolD a k i) ∧ Q (.int 1) H) := by
  intro pins s σ H xs us Q I r h
  obtain ⟨a, k, i, rfl, e, q⟩ := h
  obtain ⟨u, rfl, rx⟩ := vals1 r
  cases rx
  obtain ⟨hs, t, dd⟩ := boolD_get I e
  exact call_len_dict hs dd (by simp) ⟨.int _, H, I.tok _, ⟨_, rfl⟩, q⟩
/-- isinstance(it, dict) -/
theorem cr_isiB : CallR X (.builtin "isinstance") (fun xs H Q => ∃ a k i, xs = [V.ref a, .ty "dict"] ∧ H a = some (BoolD a k i) ∧ Q (.bl true) H) := by
  intro pins s σ H xs us Q I r h
  obtain ⟨a, k, i, rfl, e, q⟩ := h
  obtain ⟨u1, u2, rfl, r1, r2⟩ := vals2 r
  cases r1
  obtain rfl : u2 = Value.type "dict" := r2
  obtain ⟨hs, t, o, es, ep, h1, h2, _⟩ := boolD_get I e
  refine PySem.W.kia_one PySem.W.kitx_dict I.kIn ⟨o, h1, h2.1⟩ (b := true) ?_ (fun z => nomatch z) fun tk => ⟨.bl true, H, I.tok tk, rfl, q⟩
  unfold PySem.W.kitOne
  rw [if_pos (beq_self_eq_true _)]
/-! its items, the dict locked -/
def ItB (d : Addr) (o : Obj) (k : Bool) (i : Int) : It :=
  ⟨fun n H => H d = some (.frz o (BoolD d k i)) ∧ n < 1, fun n H x H' => ∃ T, x = .ref T ∧ H T = none ∧ H' = upd H T (.tup [.bl k, .int i]), fun n H => H d = some (.frz o (BoolD d k i)) ∧ 1 ≤ n⟩
theorem boolD_frz {d : Addr} {o : Obj} (I : Inv X pins σ H s) (h : H d = some (.frz o (BoolD d k i))) :
    (d == sysModules) = false ∧ s.heap.get? d = some o ∧ o.ExactDict ∧ ∃ (es : Array DictEntry) (ep : Nat) (t : Tok), o.data = .dict es ep ∧ s.heap.DictAt (PpSet.boolK X.prog X.w) d [(k, .int i t)] ep := by
  obtain ⟨hd, ⟨hs, t, q⟩, _⟩ := I.hok d _ h
  obtain ⟨o', es, ep, ho, hx, hdt, r⟩ := q X.prog X.w
  rw [hd] at ho
  cases ho
  exact ⟨hs, hd, hx, es, ep, t, hdt, o, es, hd, hx, hdt, r⟩
end
section
variable {P : Program} {w : World} {K : PySem.W.Frag} {d : Addr} {o : Obj} {es : Array DictEntry} {ep : Nat} {k : Bool} {i : Int}
theorem turn_itemsB {elts : List Expr} {kk : Nat} {tpos : Pos} (it : Addr) (hod : o.data = .dict es ep) :
    Turn P w K (.Tuple elts kk tpos) (ItB d o k i) [it] it (fun n h => ∃ ok ov, IsItemIter h it d n 1 ep ok ov) where
  mem := by simp
  obj := fun n h st b hb => by
    have e : b = it := by simpa using hb
    subst e
    obtain ⟨ok, ov, e⟩ := st
    exact ⟨_, e, fun v z => nomatch z⟩
  keep := fun n h h' st k => let ⟨ok, ov, e⟩ := st; ⟨ok, ov, k it (by simp) _ e⟩
  item := by
    intro X hP hw hK hc n pins s σ H E I hf st hg
    subst hP hw hK
    obtain ⟨hd, hi⟩ := hg
    obtain ⟨hs, hgd, hx, es', ep', t, hdt, hm⟩ := boolD_frz I hd
    obtain ⟨rfl, rfl⟩ := dict_ep hod hdt
    have n0 : n = 0 := by omega
    subst n0
    obtain ⟨ok, ov, he⟩ := st
    have hlt : it < s.heap.objs.size := Heap.lt_size he
    refine wpAny_pyNext_items_item (kvs := [(k, .int i t)]) he hm rfl fun key h' hkey ho hT hz hk => ?_
    refine ⟨_, rfl, wpAny_letOwnedTupleGo_items (s := { s with heap := h' }) ho fun h'' he' sb => ?_⟩
    have hT2 : h''.get? s.heap.objs.size = some { cls := .type "tuple", data := .seq #[key, .int i t] } := (sb.2 _ (Nat.ne_of_gt hlt)).trans hT
    have new : ObjOk X.prog X.w (upd H s.heap.objs.size (.tup [.bl k, .int i])) h'' s.heap.objs.size (.tup [.bl k, .int i]) :=
      ⟨by show 2 ≤ sizeLine; decide, [key, .int i t], .cons (show key = Value.bool k from PpSet.isB_shape hkey) (.cons ⟨t, rfl⟩ .nil), ⟨_, hT2, rfl, _, rfl⟩⟩
    have I1 : Inv X pins σ (upd H s.heap.objs.size (.tup [.bl k, .int i])) { s with heap := h'' } :=
      I.turnedNew (t' := s.toks) (ch := [it]) (fun b ob hb e => (sb.2 b (by simpa using hb)).trans (hk b ob (by simpa using hb) e)) hf (Nat.le_refl _) new
    refine ⟨.ref s.heap.objs.size, _, I1, rfl, ⟨_, rfl, I.hok.fresh (Nat.le_refl _), rfl⟩, ⟨key, .int i t, he'⟩, fun b hb => ?_⟩
    have e : b = it := by simpa using hb
    rw [e, upd_ne (Nat.ne_of_lt hlt)]
    exact (hf it (by simp)).1
  done := by
    intro X hP hw hK hc n pins s σ H E I hf st hg
    subst hP hw hK
    obtain ⟨hd, hi⟩ := hg
    obtain ⟨f0, f1, f2, f3, f4, f5⟩ := hf it (by simp)
    obtain ⟨hs, hgd, hx, es', ep', t, hdt, hm⟩ := boolD_frz I hd
    obtain ⟨rfl, rfl⟩ := dict_ep hod hdt
    obtain ⟨ok, ov, he⟩ := st
    exact wpAny_pyNext_items_end (kvs := [(k, .int i t)]) (I.ok.hd hc) he hm (List.getElem?_eq_none (by simpa using hi)) fun h' eb => ⟨rfl, I.turned (t' := s.toks) (fun b ob hb e => eb b ob hb e) f0 f1 f3 f4 f5⟩
  self := fun A n s Q E st h => let ⟨_, _, e⟩ := st; PySem.W.kcp_self e h
theorem walk_itemsB : Walk (ItB d o k i) 1 (fun H => H d = some (.frz o (BoolD d k i))) (YPair (fun _ => some (.bl k)) (fun _ => some (.int i))) := by
  refine ⟨fun _ _ hi q => ⟨q, hi⟩, fun _ q => ⟨q, Nat.le_refl _⟩, fun n H x H' _ _ y => ?_⟩
  obtain ⟨T, h2, h3, h4⟩ := y
  exact ⟨T, .bl k, .int i, h2, h3, h4, rfl, rfl⟩
end
section
variable {X : Cx} {e : Expr} {td : TE} {apos cpos : Pos}
def iItemsB (td : TE) : TI := fun σ H R => td σ H fun x H1 => ∃ d o k i, x = .ref d ∧ H1 d = some (.frz o (BoolD d k i)) ∧ R (ItB d o k i) H1
theorem pi_itemsB {elts : List Expr} {kk : Nat} {tpos : Pos} (he : PE X e td) (hbase : attributeBase e "items" X.env (eval e X.env) = eval e X.env := by rfl) (hline : (apos.endLine == cpos.line) = true := by rfl) :
    PI X (.Tuple elts kk tpos) (.Call (.Attribute e "items" apos) [] [] cpos) (iItemsB td) := by
  refine ⟨fun pins s σ H R I h => ?_⟩
  refine wpAny_Call_method (T := "dict") (id := "dict.items") hbase rfl hline PySem.F.plainAttrs_dict PySem.F.slot_dict_items PySem.F.type_dict_items (thn (he.run pins s σ H _ I h) fun u s1 ⟨x, H1, I1, rx, d, o, k, i, ex, hd, q⟩ => ?_)
  subst ex
  obtain rfl : u = Value.ref d := rx
  obtain ⟨hs, hgd, hx, es, ep, t, hdt, hm⟩ := boolD_frz I1 hd
  refine ⟨hm.dictOf.typeIs, hm.dictOf.mapOf.noDict, ?_⟩
  have I2 : Inv X pins σ H1 { s1 with heap := s1.heap.push { cls := .type "dict_items", data := .fields #[.ref d] } } := I1.kept (t' := s1.toks) fun b ob q => Heap.get?_push_of_some _ q
  have fin : wpAny (model X.prog X.w) X.A (pyIter (.ref s1.heap.objs.size)) (PIE X pins σ (.Tuple elts kk tpos) R) X.xe { s1 with heap := s1.heap.push { cls := .type "dict_items", data := .fields #[.ref d] } } := by
    refine wpAny_pyIter_items (d := d) (knd := PpSet.boolK X.prog X.w) ⟨_, Heap.get?_push_size _ rfl, rfl, rfl⟩ (hm.push _) (pi_one (tk := s1.toks) I2 _ (turn_itemsB _ hdt) ⟨.none, .none, ?_⟩ q)
    exact Heap.get?_push_size _ rfl
  show wpAny _ _ (callWith cpos (.builtin "dict.items") [.ref d] [] []) _ X.xe s1
  exact method_meetsIn PySem.F.slot_dict_items PySem.F.entry_dict_items rfl (PySem.evalArgs_none ⟨rfl, hm.dictOf.typeIs, PySem.F.args_dict_items_1 _, _, meets_dict_items (PpSet.boolK X.prog X.w) d hs, ⟨_, hm.dictOf⟩, fin⟩)
end
end DL


set_option Elab.async false
set_option linter.all false
set_option maxRecDepth 100000
set_option maxHeartbeats 4000000
namespace DL
open PySem PySem.Spec PyProof.Rows L2 LamX
variable [TabT]
theorem tabs_at {T : List (Addr × Str)} {H : Hp} {p : Addr} {u o : HO} (t : LamX.Tabs T H) (h : H p = some u) (n1 : ∀ ps, u ≠ .tbl ps) (n2 : ∀ c q, u ≠ LamX.CodeO c q) : LamX.Tabs T (upd H p o) := fun w hw => by
  obtain ⟨ps, h1, h2, h3⟩ := t w hw
  refine ⟨ps, ?_, h2, fun pos cv hc => ?_⟩
  · rw [upd_ne (fun e => by rw [e, h] at h1; exact n1 ps (Option.some.inj h1))]
    exact h1
  · obtain ⟨c, e1, e2⟩ := h3 pos cv hc
    refine ⟨c, e1, ?_⟩
    rw [upd_ne (fun e => by rw [e, h] at e2; exact n2 _ _ (Option.some.inj e2))]
    exact e2
/-! ### {k: v, ..} -/
inductive KXG : List Int → List (Option Expr) → Prop
  | nil : KXG [] []
  | cons {k : Int} {j : Nat} {p : Pos} {ks : List Int} {es : List (Option Expr)} : KXG ks es → KXG (k :: ks) (some (.Constant (.int k) j p) :: es)
def trsOfG (X : Cx) : List Int → List Expr → List (TE × TE)
  | k :: ks, e :: es => (tC (.int k), wE X e) :: trsOfG X ks es
  | _, _ => []
theorem pps_ofG {X : Cx} {pos : Pos} : ∀ {ks : List Int} {keys : List (Option Expr)} {es : List Expr}, KXG ks keys → keys.length = es.length → PPs X pos keys es (trsOfG X ks es)
  | _, _, [], .nil, _ => pps_nil
  | _, _, e :: es, .cons h, hl => pps_cons pe_int wE_ok (pps_ofG h (by simpa using hl))
theorem KXG.some {ks : List Int} {keys : List (Option Expr)} (h : KXG ks keys) : keys.all (·.isSome) = true ∧ keys.length = ks.length := by
  induction h with
  | nil => exact ⟨rfl, rfl⟩
  | cons h ih => exact ⟨by simpa using ih.1, by simp [ih.2]⟩
def EPsG (X : Cx) (z : Z) (xs : List Expr) (es : List Sl) (s : S) (ks : List Int) (ds : List PyData) : Prop := ∀ σ H, En z H σ es → At z H s → ∀ Q : List (V × V) → Hp → Prop, (∀ vs H2, Ez z H H2 → At z H2 s → DaAll z H2 vs ds → Q ((ks.map V.int).zip vs) H2) → tPairs (trsOfG X ks xs) σ H Q
section
variable {X : Cx} {z : Z} {es : List Sl} {s : S} {e : Expr} {xs : List Expr} {k : Int} {ks : List Int} {d : PyData} {ds : List PyData} {pos : Pos} {keys : List (Option Expr)}
theorem ep_nilG : EPsG X z [] es s [] [] := fun σ H en at_ Q q => q [] H (.refl H) at_ .nil
theorem ep_consG (hv : EV X z e es s d s) (hr : EPsG X z xs es s ks ds) : EPsG X z (e :: xs) es s (k :: ks) (d :: ds) := fun σ H en at_ Q q =>
  hv σ H en at_ _ fun v H1 e1 a1 v1 => hr σ H1 (en.mono e1) a1 _ fun vs H2 e2 a2 v2 => q (v :: vs) H2 (e1.trans e2) a2 (.cons (v1.mono e2) v2)
theorem ev_dspG (hk : KXG ks keys) (nd : ks.Nodup) (n0 : keys ≠ []) (n15 : ks.length ≤ 15) (hl : ks.length = ds.length) (lv : keys.length = xs.length) (h : ∀ z, EPsG X z xs es s ks ds) : EV X z (.Dict keys xs pos) es s (dD ks ds) s :=
  .mk (pe_disp (pps_ofG hk lv) hk.some.1 lv n0 (by rw [hk.some.2]; exact n15)) fun σ H en at_ Q q p hp => by
    have re : ∀ (b : Addr) (u : HO), Fz z b → H b = some u → Fz (z.add p (.dK [])) b ∧ upd H p (.dK []) b = some u := fun b u fb hb => by
      have nb := ne_of_none hb hp
      exact ⟨fb.to_add nb, by rw [upd_ne nb]; exact hb⟩
    have en' : En (z.add p (.dK [])) (upd H p (.dK [])) σ es := En.re (z := z) (z' := z.add p (.dK [])) rfl (fun q m => List.mem_cons_of_mem _ m) re en
    have at' : At (z.add p (.dK [])) (upd H p (.dK [])) s := by
      refine ⟨fun b hb => ?_, fun q hq => ?_, fun q hq => ?_, tabs_new at_.t hp⟩
      · rw [upd_ne (ne_of_none (at_.d b hb) hp)]
        exact at_.d b hb
      · rcases List.mem_cons.mp hq with e | m
        · rw [e]
          exact upd_same
        · rw [upd_ne (ne_of_none (at_.v q m) hp)]
          exact at_.v q m
      · rcases List.mem_cons.mp hq with e | m
        · rw [e]
          refine ⟨fun hd => ?_, .dK []⟩
          have := at_.d p hd
          rw [this] at hp
          cases hp
        · exact at_.n q m
    refine h (z.add p (.dK [])) σ _ en' at' _ fun vs H2 e2 a2 v2 => ?_
    have l2 := v2.length
    have lz : (ks.map V.int).length = vs.length := by rw [List.length_map, hl, l2]
    have kv1 : ∀ (ks : List Int) (vs : List V), ks.length = vs.length → (ks.map V.int).zip vs = ((ks.map Sum.inl).zip vs).map fun kv : Key × V => (kV kv.1, kv.2) := by
      intro ks
      induction ks with
      | nil => intro vs h; rfl
      | cons k ks ih =>
        intro vs h
        cases vs with
        | nil => rfl
        | cons v vs =>
          simp only [List.map_cons, List.zip_cons_cons]
          rw [ih vs (by simpa using h)]
          rfl
    have kf : ∀ (ks : List Int) (vs : List V), ks.length = vs.length → ((ks.map Sum.inl).zip vs).map (fun kv : Key × V => kv.1) = ks.map Sum.inl ∧ ((ks.map Sum.inl).zip vs).map (fun kv : Key × V => kv.2) = vs := by
      intro ks vs h
      exact ⟨List.map_fst_zip (by rw [List.length_map]; omega), List.map_snd_zip (by rw [List.length_map]; omega)⟩
    have lk : ks.length = vs.length := by omega
    obtain ⟨k1, k2⟩ := kf ks vs lk
    have nb : ∀ b o, Fz z b → H b = some o → b ≠ p := fun b o _ hb => ne_of_none hb hp
    have ez : Ez z H (upd H2 p (.dK ((ks.map Sum.inl).zip vs))) := fun b o fb hb => by
      rw [upd_ne (nb b o fb hb)]
      exact e2 b o (re b o fb hb).1 (re b o fb hb).2
    have atn : At z (upd H2 p (.dK ((ks.map Sum.inl).zip vs))) s := by
      refine ⟨fun b hb => ?_, fun q hq => ?_, at_.n, tabs_at a2.t (a2.v (p, HO.dK []) (List.mem_cons_self ..)) (fun ps e => by cases e) (fun c q e => by unfold LamX.CodeO at e; cases e)⟩
      · rw [upd_ne (ne_of_none (at_.d b hb) hp)]
        exact a2.d b hb
      · rw [upd_ne (ne_of_none (at_.v q hq) hp)]
        exact a2.v q (List.mem_cons_of_mem _ hq)
    have fp : Fz z p := at_.fresh hp
    refine ⟨a2.v (p, HO.dK []) (List.mem_cons_self ..), (ks.map Sum.inl).zip vs, kv1 ks vs lk, ?_, ?_⟩
    · rw [List.length_zip, List.length_map]
      omega
    · have nd2 : ((([] : List (Key × V)) ++ (ks.map Sum.inl).zip vs).map (fun q : Key × V => q.1)).Nodup := by
        rw [List.nil_append]
        show (((ks.map Sum.inl).zip vs).map (fun kv : Key × V => kv.1)).Nodup
        rw [k1]
        exact List.Pairwise.map (R := fun a b : Int => a ≠ b) _ (fun a b h e => h (by injection e)) nd
      rw [merge_new nd2, List.nil_append]
      refine q (.ref p) _ ez atn (.dkv fp upd_same k1 ?_ rfl)
      show DaAll z _ (((ks.map Sum.inl).zip vs).map fun kv : Key × V => kv.2) ds
      rw [k2]
      refine v2.re fun b o fb hb => ?_
      have fb' : Fz z b ∧ b ≠ p := fb.of_add
      exact ⟨fb'.1, by rw [upd_ne fb'.2]; exact hb⟩
end

/-! ### one entry whose key is no integer -/
section
variable {X : Cx} {z : Z} {es : List Sl} {s : S} {pos p1 p2 : Pos} {j1 j2 : Nat}
theorem ev_dspS {x : Str} {i : Int} : EV X z (.Dict [some (.Constant (.str x) j1 p1)] [.Constant (.int i) j2 p2] pos) es s (.dict [(.str x, .int i)]) s :=
  .mk (pe_disp (pps_cons pe_str pe_int pps_nil) rfl rfl (by simp) (by show 1 ≤ 15; decide)) fun σ H en at_ Q q p hp => by
    show upd H p (.dK []) p = some (.dK []) ∧ _
    refine ⟨upd_same, [(Sum.inr x, V.int i)], rfl, by show 1 ≤ 15; decide, ?_⟩
    rw [upd_upd]
    exact q _ _ (.new hp) (at_.new hp) (.odd (at_.fresh hp) upd_same (.txt x i))
theorem ev_dspB {k : Bool} {i : Int} : EV X z (.Dict [some (.Constant (.bool k) j1 p1)] [.Constant (.int i) j2 p2] pos) es s (.dict [(.bool k, .int i)]) s :=
  .mk (pe_dispB pe_bl pe_int) fun σ H en at_ Q q p hp => q _ _ (.new hp) (at_.new hp) (.odd (at_.fresh hp) upd_same (.tru k i))
end
theorem boolD_ne (P : Program) (w : World) {a c : Addr} {k : Bool} {i : Int} {q : Str} : BoolD a k i ≠ CodeO c q := fun e => by
  unfold BoolD CodeO at e
  injection e with e
  let junk : Obj := { cls := .none, data := .fields #[] }
  let ob : Obj := { cls := .none, data := .fields #[.none, .str q 0] }
  let h : Heap := { objs := (Array.replicate c junk).push ob }
  have all : ∀ b o, h.get? b = some o → ∃ vs, o.data = .fields vs := fun b o g => by
    unfold Heap.get? at g
    have hb : h.objs[b]? = some ob ∨ h.objs[b]? = some junk ∨ h.objs[b]? = none := by
      show ((Array.replicate c junk).push ob)[b]? = _ ∨ _
      rw [Array.getElem?_push, Array.size_replicate]
      by_cases e1 : b = c
      · rw [if_pos e1]
        exact .inl rfl
      · rw [if_neg e1, Array.getElem?_replicate]
        by_cases e2 : b < c
        · rw [if_pos e2]
          exact .inr (.inl rfl)
        · rw [if_neg e2]
          exact .inr (.inr rfl)
    rcases hb with e | e | e
    · rw [e] at g
      cases g
      exact ⟨_, rfl⟩
    · rw [e] at g
      cases g
      exact ⟨_, rfl⟩
    · rw [e] at g
      cases g
  have atC : h.get? c = some ob := by
    unfold Heap.get?
    show (match ((Array.replicate c junk).push ob)[c]? with | some ⟨_, _, .freed, _⟩ => none | x => x) = _
    rw [Array.getElem?_push, Array.size_replicate, if_pos rfl]
  have holds : ∃ (oc : Obj) (vs : Array Value) (t : Tok), h.get? c = some oc ∧ oc.data = .fields vs ∧ vs[1]? = some (.str q t) := ⟨ob, _, 0, atC, rfl, rfl⟩
  have e2 := congrFun e h
  rw [← e2] at holds
  obtain ⟨_, t, hq⟩ := holds
  obtain ⟨o, es, ep, h1, _, h3, _⟩ := hq P w
  obtain ⟨vs, hv⟩ := all _ _ h1
  rw [h3] at hv
  cases hv
end DL


set_option Elab.async false
set_option linter.all false
set_option maxRecDepth 100000
set_option maxHeartbeats 4000000
namespace DL
open PySem PySem.Spec PyProof.Rows L2 LamX
variable [TabT]
section
variable {X : Cx} {z : Z} {es : List Sl} {s : S} {elt : Expr}
/-- [e for x, y in d.items()], d with one entry whose key is no integer -/
theorem lcO_tree {i0 j k : Nat} {scope : Scope} {u0 : HO} {J : Obj → It} {wi : TI} {ku vu : V} {kd vd y : PyData} {a : Addr} (hjk : j ≠ k) (nl : ∀ xs, u0 ≠ .lst xs) (nt : ∀ xs, u0 ≠ .tup xs) (nb : ∀ ps, u0 ≠ .tbl ps) (nc : ∀ c q, u0 ≠ CodeO c q) (mu : Mut (some u0))
    (wk : ∀ od, Walk (J od) 1 (fun H => H a = some (.frz od u0)) (YPair (fun _ => some ku) (fun _ => some vu))) (hk : ∀ z H, Da z H ku kd) (hv : ∀ z H, Da z H vu vd) (hw : ∀ od σ H R, σ[i0]? = some (some (.ref a)) → H a = some (.frz od u0) → R (J od) H → wi σ H R) (hny : nod y = true)
    (He : ∀ z' : Z, Blk X scope fun Y => EV Y z' elt (((lk es).set j (.val kd)).set k (.val vd)) s y s) :
    ∀ σ H, En z H σ es → At z H s → σ[i0]? = some (some (.ref a)) → Fz z a → H a = some u0 → ∀ Q : VK, (∀ v H2, Ez z H H2 → At z H2 s → Da z H2 v (.list [y]) → Q v H2) → tLockE (tLc wi (gTup X.K 2 (gCons (gName j) (gCons (gName k) gNil))) tYes (tEl X scope elt) [j, k]) σ H Q := fun σ H en at_ hy fa ha Q q => by
  refine ⟨a, u0, ha, mu, fun od => ?_⟩
  have na : z.dice ≠ some a := fa.1.1
  have tb : ∀ {H : Hp} {o : HO}, Tabs TabT.T H → H a = some u0 → Tabs TabT.T (upd H a o) := fun t h => tabs_at t h nb nc
  have at2 : At z (upd H a (.frz od u0)) s := by
    refine ⟨fun b hb => ?_, fun w hw => ?_, at_.n, tb at_.t ha⟩
    · rw [upd_ne (fun e => na (by rw [← e]; exact hb))]
      exact at_.d b hb
    · rw [upd_ne (fun e => fa.2 w.2 (by rw [← e]; exact hw))]
      exact at_.v w hw
  have kk : ∀ b o, Fz z b → H b = some o → ((∃ xs, o = .lst xs) ∨ ∃ xs, o = .tup xs) → Fz z b ∧ upd H a (.frz od u0) b = some o := fun b o fb hb ho => ⟨fb, by
    rw [upd_ne (fun e => by
      rw [e, ha] at hb
      have hb := Option.some.inj hb
      rcases ho with ⟨xs, ho⟩ | ⟨xs, ho⟩
      · exact nl xs (hb.trans ho)
      · exact nt xs (hb.trans ho))]
    exact hb⟩
  have en2 : En z (upd H a (.frz od u0)) σ (lk es) := En.lk rfl kk en
  refine hw od σ _ _ hy upd_same (fun D hD => ?_)
  refine lc_two (K := X.K) (wk od) (fun _ => s) (fun _ => s) en2 at2 hD hjk (fun _ => kd) (fun _ => vd) (fun H' e => e a _ fa upd_same) (fun m w H' H2 hm eH hY => ?_) (by decide) (fun _ => true) (fun m => (List.range m).map fun _ => y) rfl
    (fun z' m hm σ H en at_ Q q => q H (.refl H) at_) (fun z' m hm _ => ⟨y, by rw [List.range_succ, List.map_append]; rfl, fun σ H en at_ Q q s0 H0 C cl fp => He z' s0 H0 C cl fp σ H en at_ Q q⟩) (fun m _ h => by cases h) (fun H' e a2 d2 => ?_)
  · obtain ⟨T, u, v, rfl, nT, rfl, hu, hv2⟩ := hY
    cases Option.some.inj hu
    cases Option.some.inj hv2
    exact ⟨T, ku, vu, rfl, .inl (.inl upd_same), .inr ⟨nT, rfl⟩, hk _ _, hv _ _⟩
  · have hfr : H' a = some (.frz od u0) := e a _ fa upd_same
    refine ⟨hfr, ?_⟩
    refine q _ _ (fun b o fb hb => ?_) ?_ ?_
    · by_cases e4 : b = a
      · rw [e4, ha] at hb
        rw [e4, upd_same]
        exact hb
      · rw [upd_ne e4]
        exact e b o fb (by rw [upd_ne e4]; exact hb)
    · refine ⟨fun b hb => ?_, fun w hw => ?_, a2.n, tabs_at a2.t hfr (fun ps e => by cases e) (fun c q e => by unfold CodeO at e; cases e)⟩
      · rw [upd_ne (fun e => na (by rw [← e]; exact hb))]
        exact a2.d b hb
      · rw [upd_ne (fun e => fa.2 w.2 (by rw [← e]; exact hw))]
        exact a2.v w hw
    · refine d2.rn (fun b o fb hb ho => ⟨fb, ?_⟩) ?_
      · rw [upd_ne (fun e => by
          rw [e, hfr] at hb
          cases hb
          rcases ho with ⟨_, ho⟩ | ⟨_, ho⟩ <;> cases ho)]
        exact hb
      · show (nod y && nodAll []) = true
        rw [hny]
        rfl
end
end DL


set_option Elab.async false
set_option linter.all false
set_option maxRecDepth 100000
set_option maxHeartbeats 4000000
namespace DL
open PySem PySem.Spec PyProof.Rows L2 LamX
variable [TabT]
theorem zip_str {ks : List Int} {ds : List PyData} {t : Str} {v : PyData} (h : [(PyData.str t, v)] = (ks.map PyData.int).zip ds) : False := by
  cases ks with
  | nil => cases h
  | cons k ks =>
    cases ds with
    | nil => cases h
    | cons d ds => simp at h
theorem zip_bool {ks : List Int} {ds : List PyData} {t : Bool} {v : PyData} (h : [(PyData.bool t, v)] = (ks.map PyData.int).zip ds) : False := by
  cases ks with
  | nil => cases h
  | cons k ks =>
    cases ds with
    | nil => cases h
    | cons d ds => simp at h
section
variable {X : Cx} {z : Z} {es : List Sl} {s : S} {elt : Expr} {p p1 p2 p3 p4 p5 pos : Pos}
theorem ev_lcOS {i j k : Nat} {n x y : Str} {scope : Scope} {kt : Nat} {t : Str} {v : Int} {r : PyData} (hc : X.calm = true) (hN : X.N.Nodup) (hjk : j ≠ k) (hny : nod r = true) (hB : BlkOk X.N X.env.scope scope [(x, j), (y, k)])
    (hg : PgIn X scope (.Tuple [.Name x p, .Name y p1] kt p2) (gTup X.K 2 (gCons (gName j) (gCons (gName k) gNil))))
    (He : ∀ z' : Z, Blk X scope fun Y => EV Y z' elt (((lk es).set j (.val (.str t))).set k (.val (.int v))) s r s)
    (h : es[i]? = some (.val (.dict [(.str t, .int v)])) := by rfl) (hNi : X.N[i]? = some n := by rfl) (hv : Vis X.env.scope n := by first | exact Or.inl rfl | exact Or.inr (Or.inl rfl) | exact Or.inr (Or.inr rfl)) (hdb : (n == ("__debug__" : Str)) = false := by decide) (hcd : (n == ("__classdict__" : Str)) = false := by decide)
    (hbase : attributeBase (.Name n p3) "items" X.env (eval (.Name n p3) X.env) = eval (.Name n p3) X.env := by rfl) (hline : (p4.endLine == p5.line) = true := by rfl) (hs : ∀ v, foldedSetIterable (.Call (.Attribute (.Name n p3) "items" p4) [] [] p5) X.env v = pure v := by intro _; rfl) :
    EV X z (.ListComp elt [{ target := .Tuple [.Name x p, .Name y p1] kt p2, iter := .Call (.Attribute (.Name n p3) "items" p4) [] [] p5, ifs := [], is_async := 0 }] scope pos) es s (.list [r]) s :=
  .mk (pe_lock (pe_lc (own := [(x, j), (y, k)]) hc hN (pi_items (pe_var hNi hv hdb hcd) hbase hline) hB hg (fun _ _ _ _ _ => pts_nil) tEl_ok hs)) fun σ H en at_ Q q => by
    obtain ⟨w, hy, r0⟩ := en.slot h
    cases r0 with
    | val v0 =>
      cases v0 with
      | dkv _ _ _ _ e => exact (zip_str e).elim
      | @odd a o _ fa ha od =>
        cases od with
        | txt =>
          refine lcO_tree (i0 := i) (u0 := .dK [(Sum.inr t, .int v)]) (J := fun od => Iti a od [(Sum.inr t, .int v)]) (wi := iItems (tVar i)) (ku := .str t) (vu := .int v) (kd := .str t) (vd := .int v) hjk (fun _ e => by cases e) (fun _ e => by cases e) (fun _ e => by cases e) (fun _ _ e => by unfold CodeO at e; cases e) True.intro (fun od => ?_) (fun _ _ => .str t) (fun _ _ => .int v) (fun od σ H R h1 h2 h3 => ⟨.ref a, h1, a, od, _, rfl, h2, h3⟩) hny He σ H en at_ hy fa ha Q q
          have wi := walk_items (d := a) (o := od) (kvs := [(Sum.inr t, V.int v)])
          refine ⟨fun m H hm g => wi.goes m H hm g, fun H g => wi.stops H g, fun m H x H' hm g y => ?_⟩
          have m0 : m = 0 := by omega
          subst m0
          exact wi.yields 0 H x H' hm g y
theorem ev_lcOB {i j k : Nat} {n x y : Str} {scope : Scope} {kt : Nat} {t : Bool} {v : Int} {r : PyData} (hc : X.calm = true) (hN : X.N.Nodup) (hjk : j ≠ k) (hny : nod r = true) (hB : BlkOk X.N X.env.scope scope [(x, j), (y, k)])
    (hg : PgIn X scope (.Tuple [.Name x p, .Name y p1] kt p2) (gTup X.K 2 (gCons (gName j) (gCons (gName k) gNil))))
    (He : ∀ z' : Z, Blk X scope fun Y => EV Y z' elt (((lk es).set j (.val (.bool t))).set k (.val (.int v))) s r s)
    (h : es[i]? = some (.val (.dict [(.bool t, .int v)])) := by rfl) (hNi : X.N[i]? = some n := by rfl) (hv : Vis X.env.scope n := by first | exact Or.inl rfl | exact Or.inr (Or.inl rfl) | exact Or.inr (Or.inr rfl)) (hdb : (n == ("__debug__" : Str)) = false := by decide) (hcd : (n == ("__classdict__" : Str)) = false := by decide)
    (hbase : attributeBase (.Name n p3) "items" X.env (eval (.Name n p3) X.env) = eval (.Name n p3) X.env := by rfl) (hline : (p4.endLine == p5.line) = true := by rfl) (hs : ∀ v, foldedSetIterable (.Call (.Attribute (.Name n p3) "items" p4) [] [] p5) X.env v = pure v := by intro _; rfl) :
    EV X z (.ListComp elt [{ target := .Tuple [.Name x p, .Name y p1] kt p2, iter := .Call (.Attribute (.Name n p3) "items" p4) [] [] p5, ifs := [], is_async := 0 }] scope pos) es s (.list [r]) s :=
  .mk (pe_lock (pe_lc (own := [(x, j), (y, k)]) hc hN (pi_itemsB (pe_var hNi hv hdb hcd) hbase hline) hB hg (fun _ _ _ _ _ => pts_nil) tEl_ok hs)) fun σ H en at_ Q q => by
    obtain ⟨w, hy, r0⟩ := en.slot h
    cases r0 with
    | val v0 =>
      cases v0 with
      | dkv _ _ _ _ e => exact (zip_bool e).elim
      | @odd a o _ fa ha od =>
        cases od with
        | tru =>
          exact lcO_tree (i0 := i) (u0 := BoolD a t v) (J := fun od => ItB a od t v) (wi := iItemsB (tVar i)) (ku := .bl t) (vu := .int v) (kd := .bool t) (vd := .int v) hjk (fun _ e => by unfold BoolD at e; cases e) (fun _ e => by unfold BoolD at e; cases e) (fun _ e => by unfold BoolD at e; cases e) (fun _ _ => boolD_ne X.prog X.w) True.intro (fun od => walk_itemsB) (fun _ _ => .bl t) (fun _ _ => .int v) (fun od σ H R h1 h2 h3 => ⟨.ref a, h1, a, od, t, v, rfl, h2, h3⟩) hny He σ H en at_ hy fa ha Q q
/-- len of such dicts -/
theorem rb_lenOS {t : Str} {v : Int} : RB z s (fun xs H Q => ∃ a kvs, xs = [V.ref a] ∧ H a = some (.dK kvs) ∧ Q (.int kvs.length) H) [.dict [(.str t, .int v)]] (.int 1) := fun vs H at_ h Q q => by
  cases h with
  | cons h r =>
    cases r
    cases h with
    | dkv _ _ _ _ e => exact (zip_str e).elim
    | @odd a o _ fa ha od =>
      cases od with
      | txt => exact ⟨a, _, rfl, ha, q _ H (.refl H) at_ (.int _)⟩
theorem rb_lenOB {t : Bool} {v : Int} : RB z s (fun xs H Q => ∃ a k i, xs = [V.ref a] ∧ H a = some (BoolD a k i) ∧ Q (.int 1) H) [.dict [(.bool t, .int v)]] (.int 1) := fun vs H at_ h Q q => by
  cases h with
  | cons h r =>
    cases r
    cases h with
    | dkv _ _ _ _ e => exact (zip_bool e).elim
    | @odd a o _ fa ha od =>
      cases od with
      | tru => exact ⟨a, _, _, rfl, ha, q _ H (.refl H) at_ (.int _)⟩
end
end DL


set_option Elab.async false
set_option linter.all false
set_option maxRecDepth 100000
namespace DL
open PySem PySem.Spec PyProof.Rows L2 LamX
variable [TabT]
section
variable {X : Cx} {z : Z} {es : List Sl} {s s1 : S} {a : Expr} {p1 p2 : Pos} {ks : List Int} {ds : List PyData}
/-- dict(a list of pairs) -/
theorem ev_dictP (hc : X.calm = true) (hm : X.mg "dict" = none) (ha : EV X z a es s (.list ((ks.zip ds).map fun q => .tuple [.int q.1, q.2])) s1) (hl : ks.length = ds.length) (nd : ks.Nodup) (hb : ks.length < 1000)
    (hg : Gl X "dict" := by rfl) (hst : starEach [a] X.env = (false, eval a X.env) :: starEach [] X.env := by rfl) (hpl : (backTo p2 (starEach [] X.env)).any (·.1) = false := by rfl) : EV X z (.Call (.Name "dict" p1) [a] [] p2) es s (dD ks ds) s1 :=
  .mk (pe_callTy (call_dictP hc) hg hm (by decide +kernel) (pa_cons wE_ok pa_nil hst) (by decide) (by decide) hst hpl) fun σ H en at_ Q q => ha σ H en at_ _ fun v H1 e1 a1 v1 => by
    cases v1 with
    | @lst b xs _ fb hb1 r =>
      obtain ⟨ps', kvs, rfl, hp, hkeys, hr⟩ := pairs_kvs (X := X) hl r
      have ndk : (kvs.map (·.1)).Nodup := by
        rw [hkeys]
        exact List.Pairwise.map _ (fun a b h e => h (by injection e)) nd
      refine ⟨b, ps', kvs, rfl, .inl (.inl hb1), hp, fun p hp0 => ?_⟩
      rw [merge_new (acc := []) (by rw [List.nil_append]; exact ndk), List.nil_append]
      exact q (.ref p) _ (e1.trans (.new hp0)) (a1.new hp0) (.dkv (a1.fresh hp0) upd_same hkeys (hr.mono (.new hp0)) rfl)
end
end DL


set_option Elab.async false
set_option linter.all false
set_option maxRecDepth 100000
/-! ### errors as values: what stands at an address is an error of an own class -/
namespace PySem.W
open PySem PySem.Spec PySem.Calls PyProof.Rows
section
variable {prog : Program} {w : World} {B : Around} {E : Value → Shared → Prop} {s : Shared} {K : Frag} {a C : Addr} {ob : Obj} {od : Option Obj}
/-- a data descriptor is found whatever the instance's dict holds -/
theorem found_desc {n : Str} {f gt : Value} (isC : (clsIn K C).isSome = true) (h1 : findIn K (.ref C) n = some (some f)) (h2 : specialIn K f "__get__" = some (some gt)) (h3 : takesIn K f = some true) :
    findObj K C od n = some (.bind gt f) := by
  rcases Option.isSome_iff_exists.mp isC with ⟨cd, e⟩
  simp [findObj, e, h1, h2, h3]
/-- e.__class__ of an error, with a dict or without -/
theorem err_class {Q : Option Value → Shared → Prop} (T : L2.ExcC K C) (X : K.In s.heap) (I : InstAt s.heap a ob C od) (told : Q (some (.ref C)) { s with toks := s.toks + 1 }) :
    wpAny (model prog w) B (getAttr? (.ref a) "__class__") Q E s := by
  have isC : (clsIn K C).isSome = true := by
    rcases any_some T.hd with ⟨cd, e, _⟩
    rw [e]
    rfl
  rcases s with ⟨hp, gs, dr, tk, os⟩
  have kind := I.type (M := model prog w)
  have get := looks_findIn (M := model prog w) X T.hg
  have hook := looks_findIn (M := model prog w) X T.hk
  have desc := looks_find (M := model prog w) X I (found_desc (od := od) isC T.ha T.hn T.ht)
  have base : Looks (model prog w) hp (isInstance (.ref a) (.type "BaseException")) true := kind.andThen (looks_subIn X T.hs)
  have other : (onTheHeap (Value.ref C) && Value.builtin "BaseException.__getattribute__" == Value.builtin "object.__getattribute__") = false := by
    have : (Value.builtin "BaseException.__getattribute__" == Value.builtin "object.__getattribute__") = false := by decide +kernel
    rw [this]
    rfl
  have heap0 : (false && onTheHeap (Value.builtin "BaseException.__getattribute__")) = false := rfl
  unfold getAttr? getAttrBy? getAttrBy
  apply wpAny_bind
  apply wpAny_mkText
  apply wpAny_bind
  apply wpAny_attempt
  apply wpAny_holding
  apply wpAny_bind
  apply kind.at
  apply wpAny_bind
  apply get.at
  show wpAny _ _ (if (onTheHeap (Value.ref C) && Value.builtin "BaseException.__getattribute__" == Value.builtin "object.__getattribute__") = true then _ else _) _ _ _
  rw [other]
  rw [if_neg Bool.false_ne_true]
  unfold getAttrByItsOwn
  unfold hookBefore
  apply wpAny_bind
  rw [if_pos (show onTheHeap (Value.ref C) = true from rfl)]
  apply hook.at
  apply wpAny_bind
  apply wpAny_attempt
  apply wpAny_holding
  unfold callGetattribute
  rw [heap0]
  rw [if_neg Bool.false_ne_true]
  unfold boundAndCalled
  rw [PySem.F.excAttr_ValueError.ga.bind (.ref a)]
  apply wpAny_bind
  apply wpAny_pure
  show wpAny _ _ (call (.builtin "BaseException.__getattribute__") [.ref a, .str "__class__" tk]) _ _ _
  apply wpAny_call
  refine codeAny_call_builtin PySem.F.excAttr_ValueError.ga.plain PySem.F.entry_bexc_ga (@check_slot (model prog w) _ _ ⟨hp, gs, dr, tk + 1, os⟩ "BaseException.__getattribute__" "BaseException" "__getattribute__" (.ref a)
    [.str "__class__" tk] [] _ (by decide +kernel) (by decide +kernel) base (PySem.F.args_bexc_ga (.ref a) (.str "__class__" tk)) ?_)
  unfold Builtin.«object.__getattribute__»
  apply wpAny_bind
  refine wpAny_of_eq (a := ((Value.ref a : Value), [Value.str "__class__" tk])) ?_ ?_
  · first
      | rfl
      | simp only [slotArgs]; rfl
  apply wpAny_bind
  apply wpAny_pure
  apply wpAny_bind
  apply kind.at
  apply wpAny_bind
  apply desc.at
  show wpAny _ _ (holding [Value.builtin "object.__class__"] (call (.builtin "getset_descriptor.__get__") [.builtin "object.__class__", .ref a, .ref C]) >>= ret) _ _ _
  apply wpAny_bind
  apply wpAny_holding
  apply wpAny_call
  refine class_get (s := ⟨hp, gs, dr, tk + 1, os⟩) (ox := ob) (od := od) X I T.hm ?_
  apply wpAny_pure
  show wpAny _ _ (handedOut (.ref C)) _ _ _
  rw [handedOut_of (v := .ref C) rfl]
  first
    | exact wpAny_pure (wpAny_pure told)
    | exact wpAny_pure told
    | exact wpAny_pure (wpAny_bind (wpAny_pure (wpAny_pure told)))
/-- what isinstance asks of an error -/
theorem kit_err (T : L2.ExcC K C) : KitX K (.ref a) (.ref C) (fun h => ∃ ob od, InstAt h a ob C od) := by
  have isType : ∀ (M : Model) (h : Heap), K.In h → Looks M h (isType (.ref C)) true := fun M h X => by
    rcases any_some T.hd with ⟨cd, e, _⟩
    unfold clsIn at e
    split at e
    · rename_i found
      intro B Q E s keep q
      unfold isType loadHead
      apply wpAny_bind
      exact wpAny_loadPart (keep _ _ (X _ _ found)) (wpAny_pure q)
    · cases e
  refine { ty := fun _ _ _ I => ?_, it := fun M h X _ => isType M h X, ne := fun h tp dd its n sl X at_ => ?_, ca := fun X I k => ?_ }
  · rcases I with ⟨ob, od, I⟩
    exact I.type
  · cases same : ((Value.ref C : Value) == .ref tp) with
    | false => rfl
    | true =>
      rcases any_some T.hd with ⟨cd, e2, _⟩
      unfold clsIn at e2
      split at e2
      · rename_i found
        have there := X _ _ found
        rw [Value.ref.inj (beq_iff_eq.mp same)] at there
        rw [at_] at there
        cases there
      · cases e2
  · rcases I with ⟨ob, od, I⟩
    exact err_class T X I k
end
end PySem.W
namespace DL
open PySem PySem.Spec PyProof.Rows L2
variable [TabT]
/-- what the state says of a: an error of the class at C stands there -/
def IsErr (H : Hp) (a C : Addr) : Prop := ∀ (P : Program) (w : World) (h : Heap), HOk P w H h → ∃ ob od, PySem.W.InstAt h a ob C od
/-- isinstance(e, c) -/
def rIsX (K : PySem.W.Frag) : List V → Hp → VK → Prop := fun xs H Q => ∃ (a C : Addr) (c : V) (cv : Value) (b : Bool), xs = [.ref a, c] ∧ IsErr H a C ∧ ExcC K C ∧ (∀ u, RelV c u → u = cv) ∧ PySem.W.kitOne K (.ref C) cv = some b ∧ Q (.bl b) H
theorem cr_isX {X : Cx} : CallR X (.builtin "isinstance") (rIsX X.K) := by
  intro pins s σ H xs us Q I r h
  obtain ⟨a, C, c, cv, b, rfl, ie, T, hc, ek, q⟩ := h
  obtain ⟨u1, u2, rfl, r1, r2⟩ := vals2 r
  obtain rfl : u1 = Value.ref a := r1
  obtain rfl : u2 = cv := hc _ r2
  exact PySem.W.kia_one (PySem.W.kit_err T) I.kIn (ie X.prog X.w s.heap I.hok) ek (fun z => nomatch z) fun tk => ⟨.bl b, H, I.kept (t' := tk) fun _ _ z => z, rfl, q⟩
end DL


set_option Elab.async false
set_option linter.all false
set_option maxRecDepth 100000
namespace DL
open PySem PySem.Spec PyProof.Rows L2 Builtin Builtin.ObjectAttr
variable [TabT]
/-! ### own exception classes over any built-in class of errors, with one field -/
/-- what the text says of the class: bmB is the built-in class's mro -/
structure OxC (K : PySem.W.Frag) (C : Addr) (newId : String) (bmB : List Value) (f : Str) : Prop where
  cls : ∃ nm q N bs bm sn sub ab col dd k0 k1 k2 k3 k5, K.lookup C = some (excClassObj nm q C N bs bm true sn sub ab col dd k0 k1 k2 k3 k5 newId) ∧ PySem.W.excTail bmB bm = true
  sa : PySem.W.findIn K (.ref C) "__setattr__" = some (some (.builtin "object.__setattr__"))
  no : PySem.W.findIn K (.ref C) f = some none
  exC : PySem.W.subIn K (.ref C) (.type "BaseException") = some true
  tyC : PySem.W.typeIn K (.ref C) = some (.type "type")
  kC : PySem.W.keepIn K (.ref C) = true
section
variable {X : Cx} {pins : List (Addr × Obj)} {σ : L2.St} {H : Hp} {s : Shared} {a C : Addr} {f : Str} {y : V} {u : Value} {Q : Unit → Shared → Prop} {E : Value → Shared → Prop} {A : Around} {newId B : String} {bmB : List Value}
/-- self.f = y in __init__ -/
theorem ox_store (T : OxC X.K C newId bmB f) (SF : StoreFacts B bmB "object.__setattr__" "object") (I : Inv X pins σ H s) (e : H a = some (exo a C none)) (ry : RelV y u)
    (h : ∀ dx s', H dx = none → dx ≠ a → Inv X pins σ (upd (upd H dx (exd dx [(f, y)])) a (exo a C (some dx))) s' → Q () s') : wpAny (model X.prog X.w) A (setAttr (.ref a) f u) Q E s := by
  obtain ⟨nm, q, N, bs, bm, sn, sub, ab, col, dd, k0, k1, k2, k3, k5, hC, ht⟩ := T.cls
  have hcl : PySem.W.clsIn X.K C = some { name := nm, bases := bs, mro := .ref C :: bm, ns := N, qualname := q, hasDict := true, slotNames := sn, subclasses := sub, abstract := ab, collection := col, hasDel := false } := by unfold PySem.W.clsIn; rw [hC] <;> rfl
  have ov : PySem.W.excOver X.K C bmB = true := by
    unfold PySem.W.excOver
    rw [hcl]
    show (C == C && PySem.W.excTail bmB bm) = true
    rw [ht, Bool.and_true]
    exact beq_self_eq_true C
  have tk : PySem.W.takerIn X.K C f = some none := by
    unfold PySem.W.takerIn
    rw [T.no]
    rfl
  obtain ⟨t1, ho⟩ := exo_at I.hok e
  obtain ⟨hp, g, d, t, os⟩ := s
  have xs : a ≠ hp.objs.size := Nat.ne_of_lt (Heap.lt_size ho)
  have lk : PySem.W.Looks (model X.prog X.w) hp (classData C) _ := PySem.W.looks_clsIn I.kIn hcl
  refine PySem.W.set_plain I.kIn (od := none) ⟨ho, rfl, rfl, trivial⟩ T.sa (PySem.W.osa_openX SF I.kIn (od := none) ⟨ho, rfl, rfl, trivial⟩ ov tk fun onT => ?_)
  show wpAny _ _ (storeInOwnDict (.ref a) (.ref C) _ f u onT) _ _ _
  unfold storeInOwnDict ownDictForStores
  repeat (first | with_reducible refine PySem.HandSPX.store_in_new ?_ ?_ | with_reducible refine wpAny_loadPart_at ho ?_ | with_reducible refine lk.at ?_ | wp_step)
  · exact ⟨_, #[], _, (Heap.get?_update_ne _ _ _ _ xs.symm).trans (Heap.get?_push_at rfl rfl), rfl, fun e he => absurd he (by simp), fun _ => rfl⟩
  · intro h' tk' hn sb
    have k : ∀ b o, b ≠ a → hp.get? b = some o → h'.get? b = some o := fun b o nb eb => (sb.2 b (Nat.ne_of_lt (Heap.lt_size eb))).trans ((Heap.get?_update_ne _ _ _ _ nb).trans (Heap.get?_push_of_some _ eb))
    have hx : h'.get? a = some ({ cls := .ref C, dict := some hp.objs.size, data := .fields #[.ref t1, .none, .none, .none, .bool false, .none] } : Obj) := (sb.2 a xs).trans (Heap.get?_update_self _ (Heap.get?_push_of_some _ ho) rfl)
    have nd : H hp.objs.size = none := I.hok.fresh (Nat.le_refl _)
    have below : ∀ {b : Addr} {o : Obj}, hp.get? b = some o → b ≠ hp.objs.size := fun eb => Nat.ne_of_lt (Heap.lt_size eb)
    have na : ∀ {b : Addr}, H b = none → b ≠ a := fun nb z => by
      rw [z, e] at nb
      cases nb
    have U : Un X.fs [] H (upd (upd H hp.objs.size (exd hp.objs.size [(f, y)])) a (exo a C (some hp.objs.size))) hp h' := {
      keep := fun b o eb nb _ _ => k b o (na nb) eb
      slot := fun b o eb nb _ _ => ⟨o.slots, k b o (na nb) eb⟩
      free := fun b o eb nb _ => by rw [upd_ne (na nb), upd_ne (below eb)]; exact nb
      there := fun b o eb _ => by
        by_cases hb : b = a
        · exact ⟨_, by rw [hb]; exact hx⟩
        · exact ⟨o, k b o hb eb⟩
      tups := fun b ys eb => by rw [upd_ne (at_ne e eb exo_tup), upd_ne (ne_of_none eb nd)]; exact eb
      frzs := fun b o v eb => by rw [upd_ne (at_ne e eb exo_frz), upd_ne (ne_of_none eb nd)]; exact eb
      tbls := fun b ps eb => ⟨#[], by rw [upd_ne (at_ne e eb exo_tbl), upd_ne (ne_of_none eb nd), eb]; simp⟩ }
    refine h hp.objs.size _ nd xs.symm (I.un (t' := tk') U fun b o eb => ?_)
    by_cases hb : b = a
    · rw [hb, upd_same] at eb
      cases eb
      rw [hb]
      exact exo_ok hx
    · rw [upd_ne hb] at eb
      by_cases hd : b = hp.objs.size
      · rw [hd, upd_same] at eb
        cases eb
        rw [hd]
        exact exd_ok hn (relO_put (fs := []) ry fun _ => True.intro)
      · rw [upd_ne hd] at eb
        refine (I.hok b o eb).stay (fun c v hc z => k c v ?_ z) (fun c hc => ?_) fun c ys hc => ?_
        · rcases hc with hc | hc
          · rw [hc]
            exact hb
          · exact at_ne e hc exo_own
        · rw [upd_ne (at_ne e hc exo_own), upd_ne (ne_of_none hc nd)]
          exact hc
        · rw [upd_ne (at_ne e hc exo_tup), upd_ne (ne_of_none hc nd)]
          exact hc
end
end DL


set_option Elab.async false
set_option linter.all false
set_option maxRecDepth 100000
namespace DL
open PySem PySem.Spec PyProof.Rows L2
variable [TabT]
/-! ### __init__, making, raising -/
section
variable {X : Cx} {o e : Expr} {es : List Expr} {to te : TE} {ta : TA} {f : Str} {C : Addr} {p p' pos : Pos} {newId B initId : String} {bmB : List Value}
/-- self.f = e, in the __init__ of the class at C -/
def tOx (C : Addr) (f : Str) (to te : TE) : TS := fun D σ H => te σ H fun y H1 => to σ H1 fun x H2 => ∃ a : Addr, x = .ref a ∧ H2 a = some (exo a C none) ∧ ∀ dx, H2 dx = none → dx ≠ a → D.nx σ (upd (upd H2 dx (exd dx [(f, y)])) a (exo a C (some dx)))
theorem ps_ox (T : OxC X.K C newId bmB f) (SF : StoreFacts B bmB "object.__setattr__" "object") (ho : PE X o to) (he : PE X e te) (hs : swapsWith e (some (.Attribute o f p')) pos.line X.env = pure false := by rfl) : PS X (.Assign [.Attribute o f p'] e pos) (tOx C f to te) := by
  refine ⟨fun pins s σ H D I h => plainObj_wpAny_Assign_Attribute (thn (he.run pins s σ H _ I h) fun v s1 ⟨y, H1, I1, r1, q1⟩ => thn (ho.run pins s1 σ H1 _ I1 q1) fun u s2 ⟨x, H2, I2, r2, a, ex, ea, q⟩ => ?_) hs⟩
  subst ex
  obtain rfl : u = Value.ref a := r2
  exact ox_store T SF I2 ea r1 fun dx s' n ne J => ⟨σ, _, J, q dx n ne⟩
/-- an __init__ that keeps its one argument -/
def spI (C : Addr) (f : Str) : Sp := fun vs H Q _ => ∃ (a : Addr) (v : V), vs = [.ref a, v] ∧ H a = some (exo a C none) ∧ ∀ dx, H dx = none → dx ≠ a → Q .non (upd (upd H dx (exd dx [(f, v)])) a (exo a C (some dx)))
theorem pmk_ox {CX : CXT} {x : Str} {fI : Addr} {k : Nat} {fd : FuncData} {ps : List Str} {sp : Sp} (T : OxC X.K C newId bmB f) (FB : ExcBaseFacts B newId initId bmB) (iC : PySem.W.findIn X.K (.ref C) "__init__" = some (some (.ref fI))) (tI : PySem.W.typeIn X.K (.ref fI) = some (.type "function"))
    (F1 : FnOk X.prog X.w X.K X.mg X.base CX k fI fd ps sp) (hr : Room (k + 1) X.A) (hb : Binds X.K fd ps []) (hx : Passes CX X (fun _ _ _ => False)) (hg : Gl X x) (hm : X.mg x = some (.ref C)) (ha : PA X (e :: es) ta)
    (hdb : (x == ("__debug__" : Str)) = false := by decide) (he : starEach (e :: es) X.env = (false, eval e X.env) :: starEach es X.env := by rfl) (hpl : (backTo pos (starEach es X.env)).any (·.1) = false := by rfl) :
    PMk X (.Call (.Name x p) (e :: es) [] pos) (tMkO C sp [] ta) := by
  intro pins s σ H Q I h
  obtain ⟨_, _, _, _, bm, _, _, _, _, _, _, _, _, _, _, hC, ht⟩ := T.cls
  refine wpAny_Call_Name_kw (ld_glob I hg hm (PySem.W.callWith_K (h₀ := X.base) I.ok.mod.kin T.kC (thn (ha.run pos pins s σ H _ I h) fun us s1 ⟨vs, H1, I1, r1, hz, q1⟩ => ⟨I1.kIn, ?_⟩) he hpl) hdb)
  show wpAny _ _ (call (.ref C) us) _ _ _
  obtain ⟨hp, g, dr, tk, os⟩ := s1
  let hp2 := (hp.push (PySem.W.kdv_tup us)).push (PySem.HandSPX.excO C hp.objs.size)
  have le1 : hp.objs.size ≤ hp.objs.size + 1 := Nat.le_succ _
  have q2 := q1 (hp.objs.size + 1) (I1.hok.fresh le1)
  have up : ∀ b o, hp.get? b = some o → hp2.get? b = some o := fun b o e => Heap.get?_push_of_some _ (Heap.get?_push_of_some _ e)
  have at2 : hp2.get? (hp.objs.size + 1) = some (PySem.HandSPX.excO C hp.objs.size) := by heap_get
  have J : Inv X pins σ (upd H1 (hp.objs.size + 1) (exo (hp.objs.size + 1) C none)) ⟨hp2, g, dr, tk, os⟩ := I1.laid (t' := tk) up le1 (exo_ok at2)
  have rv : Vals (V.ref (hp.objs.size + 1) :: (vs ++ [])) (Value.ref (hp.objs.size + 1) :: (us ++ [])) := .cons rfl (r1.append .nil)
  have ln : (Value.ref (hp.objs.size + 1) :: us ++ []).length = ps.length := (rv.length.symm.trans (F1.len _ _ _ _ q2))
  have sz : us.length ≤ sizeLine := by rw [← Paired.length r1, sizeLine_eq]; omega
  refine wpAny_call (PySem.HandSPX.call_own FB (fun Y => PySem.W.excTail_contains Y bm ht) (I1.kIn _ _ hC) (PySem.W.looks_findIn I1.kIn iC) (fun self => PySem.W.bind_fn I1.kIn self tI) sz (codeAny_mono (F1.run _ X.stack _ _ ⟨Value.ref (hp.objs.size + 1) :: us, []⟩ _ _ _ (fun _ _ _ => False) (hr.make C us []) (J.env0.make C us []) (hb _ (Value.ref (hp.objs.size + 1) :: us) J.kIn ln) rv q2) fun r s' hq => ?_))
  cases r with
  | error er => exact hx pins σ _ _ er s' J hq
  | ok fl =>
    cases fl with
    | ret u =>
      obtain ⟨v, H2, o2, b2, un, ok2, ru, ev, dx, fs, ea, ed, nd, q3⟩ := hq
      subst ev
      obtain ⟨h2, g2, d2, t2, o3⟩ := s'
      exact ⟨ru, mk_end (raises_own T.exC T.tyC) I1 le1 up un ok2 o2 b2 ea ed nd q3⟩
    | _ => exact hq.elim
end
/-- the heap behind: all that was there stands -/
theorem Ez.all {z : Z} {H H' : Hp} (h : ∀ b o, H b = some o → H' b = some o) : Ez z H H' := fun b o _ e => h b o e
theorem At.all {z : Z} {H H' : Hp} {s : S} (A : At z H s) (h : ∀ b o, H b = some o → H' b = some o) : At z H' s := ⟨fun a e => h a _ (A.d a e), fun p m => h p.1 _ (A.v p m), A.n, A.t.ext h⟩
def EM (X : Cx) (z : Z) (e : Expr) (es : List Sl) (s : S) (x : XD) (s' : S) : Prop := ∀ σ H, En z H σ es → At z H s → ∀ Q : XK, (∀ cls dx H', Ez z H H' → At z H' s' → En z H' σ es → XR z H' cls dx x → Q cls dx H') → ∃ t, PMk X e t ∧ t σ H Q
/-- what is told of an own class of errors with one field: its address, its __init__ -/
structure OxI (X : Cx) (x : Str) (C : Addr) (f : Str) (B newId initId : String) (bmB : List Value) : Prop where
  T : OxC X.K C newId bmB f
  FB : ExcBaseFacts B newId initId bmB
  I : ∃ fI fd ps, PySem.W.findIn X.K (.ref C) "__init__" = some (some (.ref fI)) ∧ PySem.W.typeIn X.K (.ref fI) = some (.type "function") ∧ FnOk X.prog X.w X.K X.mg X.base CX0 1 fI fd ps (spI C f) ∧ Binds X.K fd ps []
  m : X.mg x = some (.ref C)
section
variable {X : Cx} {z : Z} {es : List Sl} {s s1 s2 : S} {e : Expr} {d : PyData} {C : Addr} {f x : Str} {B newId initId : String} {bmB : List Value} {p p2 pos : Pos} {o : Out} {rest body els : List Stmt} {W : WX} {xd : XD} {c : Expr}
theorem em_ox (O : OxI X x C f B newId initId bmB) (hr : Room 2 X.A) (h : EV X z e es s d s1) (hg : Gl X x := by rfl) (hdb : (x == ("__debug__" : Str)) = false := by decide) (he : starEach [e] X.env = (false, eval e X.env) :: starEach [] X.env := by rfl) (hpl : (backTo pos (starEach [] X.env)).any (·.1) = false := by rfl) :
    EM X z (.Call (.Name x p) [e] [] pos) es s (.wf C f d) s1 := fun σ H en at_ Q q => by
  obtain ⟨fI, fd, ps, i1, i2, F, b⟩ := O.I
  refine ⟨_, pmk_ox (CX := CX0) O.T O.FB i1 i2 F hr b (fun _ _ _ _ _ _ _ h => h.elim) hg O.m (pa_cons wE_ok pa_nil he) hdb he hpl, h σ H en at_ _ fun v H1 e1 a1 v1 => ⟨by show 1 ≤ 1000; omega, fun a na => ⟨a, v, rfl, upd_same, fun dx nd ne => ⟨rfl, dx, [(f, v)], upd_same, by rw [upd_ne ne, upd_same], by rw [upd_ne ne] at nd; exact nd, ?_⟩⟩⟩⟩
  rw [upd_ne ne] at nd
  have keep : ∀ b o, H1 b = some o → (upd (del (upd (upd (upd H1 a (exo a C none)) dx (exd dx [(f, v)])) a (exo a C (some dx))) a) dx (.xd [(f, v)])) b = some o := fun b o eb => by
    have ba := ne_of_none eb na
    rw [upd_ne (ne_of_none eb nd), del_ne ba, upd_ne ba, upd_ne (ne_of_none eb nd), upd_ne ba]
    exact eb
  exact q _ _ _ (e1.trans (.all keep)) (a1.all keep) (en.mono (e1.trans (.all keep))) ⟨rfl, dx, v, rfl, a1.fresh nd, upd_same, v1.mono (.all keep)⟩
theorem em_pl {m : Str} {j} (F : ExcBaseFacts B newId initId bmB) (q : PySem.W.excIn X.K C bmB newId = true) (hm : X.mg x = some (.ref C)) (kC : PySem.W.keepIn X.K (.ref C) = true) (r : Raises X (.ref C)) (hg : Gl X x := by rfl) (hdb : (x == ("__debug__" : Str)) = false := by decide) :
    EM X z (.Call (.Name x p) [.Constant (.str m) j p2] [] pos) es s (.pl C) s := fun σ H en at_ Q k => ⟨_, pmk_own F q hm kC r hg hdb, k _ _ H (.refl H) at_ en ⟨rfl, rfl⟩⟩
def wM (X : Cx) (e : Expr) : L2.St → Hp → XK → Prop := fun σ H Q => ∃ t, PMk X e t ∧ t σ H Q
theorem wM_ok {e : Expr} : PMk X e (wM X e) := fun pins s σ H Q I ⟨t, h, q⟩ => h pins s σ H Q I q
theorem sr_raise (hc : X.calm = true) (tk : Takes X W) (h : EM X z e es s xd s1) : SR X z (.Raise (some e) none pos :: rest) es s (.ex W es xd s1) := fun σ H en at_ D q =>
  ⟨_, pss_cons (ps_raise hc tk wM_ok) wB_never, h σ H en at_ _ fun cls dx H' k a n r => q cls dx σ H' k a n r⟩
theorem so_raise (hc : X.calm = true) (tk : Takes X W) (h : ∀ z, EM X z e es s xd s1) : SO X (.Raise (some e) none pos :: rest) es s (.ex W es xd s1) := fun z Hc H vol σ I D q =>
  ⟨_, pss_cons (ps_raise hc tk wM_ok) wB_never, h _ σ H I.en I.at_ _ fun cls dx H' k a n r => q cls dx σ H' (I.ezc k) (I.atz a) (r.re fun a o f h => ⟨f.of_own.1, h⟩)⟩
/-! an expression that raises -/
def EX (X : Cx) (z : Z) (W : WX) (e : Expr) (es : List Sl) (s : S) (x : XD) (s' : S) : Prop := ∀ σ H, En z H σ es → At z H s → (∀ cls dx H', Ez z H H' → At z H' s' → En z H' σ es → XR z H' cls dx x → W cls dx σ H') → ∀ Q : VK, wE X e σ H Q
theorem sr_exprX (h : EX X z W e es s xd s1) (hs : swapsWith e none pos.line X.env = pure false := by rfl) : SR X z (.Expr e pos :: rest) es s (.ex W es xd s1) := fun σ H en at_ D q =>
  ⟨_, pss_cons (ps_expr wE_ok hs) wB_never, h σ H en at_ (fun cls dx H' k a n r => q cls dx σ H' k a n r) _⟩
theorem so_exprX (h : ∀ z, EX X z W e es s xd s1) (hs : swapsWith e none pos.line X.env = pure false := by rfl) : SO X (.Expr e pos :: rest) es s (.ex W es xd s1) := fun z Hc H vol σ I D q =>
  ⟨_, pss_cons (ps_expr wE_ok hs) wB_never, h _ σ H I.en I.at_ (fun cls dx H' k a n r => q cls dx σ H' (I.ezc k) (I.atz a) (r.re fun a o f h => ⟨f.of_own.1, h⟩)) _⟩
theorem sr_retX (h : EX X z W e es s xd s1) : SR X z (.Return (some e) pos :: rest) es s (.ex W es xd s1) := fun σ H en at_ D q =>
  ⟨_, pss_cons (ps_ret wE_ok) wB_never, h σ H en at_ (fun cls dx H' k a n r => q cls dx σ H' k a n r) _⟩
/-- if: the branch raises -/
theorem sr_ifX {fs : List Sl} (hc : ET X z c es s true s1) (h : SR X z body es s1 (.ex W fs xd s2)) : SR X z (.If c body els pos :: rest) es s (.ex W fs xd s2) := fun σ H en at_ D q =>
  ⟨_, pss_cons (ps_if wT_ok wB_ok wB_never) wB_never, hc σ H en at_ _ fun H1 e1 a1 => iteT (h σ H1 (en.mono e1) a1 _ fun cls dx σ' H' k a n r => q cls dx σ' H' (e1.trans k) a n r)⟩
theorem so_ifX {fs : List Sl} (hc : ∀ z, ET X z c es s true s1) (h : SO X body es s1 (.ex W fs xd s2)) : SO X (.If c body els pos :: rest) es s (.ex W fs xd s2) := fun z Hc H vol σ I D q =>
  ⟨_, pss_cons (ps_if wT_ok wB_ok wB_never) wB_never, hc _ σ H I.en I.at_ _ fun H1 e1 a1 => iteT (h z Hc H1 vol σ (I.step e1 a1) _ fun cls dx σ' H' k a r => q cls dx σ' H' k a r)⟩
end
/-! ### defs that may raise -/
inductive Res | ok (d : PyData) | ex (x : XD)
abbrev RelX := List Sl → S → Res → S → Prop
def spX (R : RelX) : Sp := fun vs H Q E => ∃ z as s r s', R as s r s' ∧ En z H (vs.map some) as ∧ At z H s ∧ match r with
  | .ok d => ∀ v H', Ez z H H' → At z H' s' → Da z H' v d → Q v H'
  | .ex x => ∀ cls dx H', Ez z H H' → At z H' s' → XR z H' cls dx x → E cls dx H'
def Dx (P : Program) (w : World) (K : PySem.W.Frag) (mg : Str → Option Value) (base : Heap) (k : Nat) (x : Str) (R : RelX) : Prop :=
  ∃ f fd ps, FnOk P w K mg base (L2.CX P w) k f fd ps (spX R) ∧ mg x = some (.ref f) ∧ PySem.W.keepIn K (.ref f) = true ∧ Binds K fd ps []
theorem dx_of {P : Program} {w : World} {K : PySem.W.Frag} {mg : Str → Option Value} {base : Heap} {x qual : Str} {st : Stmt} {f : Addr} {fd : FuncData} {ps : List Str} {k : Nat} {R : RelX} (F : Fun K x qual st f fd) (O : FnOk P w K mg base (L2.CX P w) k f fd ps (spX R)) (hm : mg x = some (.ref f)) (hb : Binds K fd ps []) : Dx P w K mg base k x R := ⟨f, fd, ps, O, hm, F.kp, hb⟩
section
variable {X : Cx} {z : Z} {es : List Sl} {as : List Sl} {s s1 s' : S} {e : Expr} {xs : List Expr} {p pos : Pos} {W : WX} {d : PyData} {xd : XD}
theorem ex_call {k : Nat} {x : Str} {R : RelX} (G : Dx X.prog X.w X.K X.mg X.base k x R) (tk : Takes X W) (hr : Room k X.A) (ha : EA X z (e :: xs) es s as s1) (hR : R as s1 (.ex xd) s') (hg : Gl X x := by rfl) (hdb : (x == ("__debug__" : Str)) = false := by decide)
    (he : starEach (e :: xs) X.env = (false, eval e X.env) :: starEach xs X.env := by rfl) (hpl : (backTo pos (starEach xs X.env)).any (·.1) = false := by rfl) : EX X z W (.Call (.Name x p) (e :: xs) [] pos) es s xd s' := fun σ H en at_ q Q => by
  obtain ⟨f, fd, ps, F, hm, hk, hb⟩ := G
  exact ⟨_, pe_callS F hr hg hm hk hb (passAt tk) wA_ok hdb he hpl, ha σ H en at_ _ fun vs H1 e1 a1 v1 => ⟨z, as, s1, .ex xd, s', hR, v1, a1, fun cls dx H' k a r => q cls dx H' (e1.trans k) a (en.mono (e1.trans k)) r⟩⟩
/-- such a def where it returns -/
theorem ev_callX {k : Nat} {x : Str} {R : RelX} (G : Dx X.prog X.w X.K X.mg X.base k x R) (hr : Room k X.A) (ha : EA X z (e :: xs) es s as s1) (hR : R as s1 (.ok d) s') (hg : Gl X x := by rfl) (hdb : (x == ("__debug__" : Str)) = false := by decide)
    (he : starEach (e :: xs) X.env = (false, eval e X.env) :: starEach xs X.env := by rfl) (hpl : (backTo pos (starEach xs X.env)).any (·.1) = false := by rfl) : EV X z (.Call (.Name x p) (e :: xs) [] pos) es s d s' := by
  obtain ⟨f, fd, ps, F, hm, hk, hb⟩ := G
  refine .mk (pe_callS F hr hg hm hk hb (passAt takes0) wA_ok hdb he hpl) fun σ H en at_ Q q => ha σ H en at_ _ fun vs H1 e1 a1 v1 => ⟨z, as, s1, .ok d, s', hR, v1, a1, fun v H' k a r => q v H' (e1.trans k) a r⟩
end
section
variable {P : Program} {w : World} {K : PySem.W.Frag} {mg : Str → Option Value} {base : Heap}
abbrev WE1 (E : XK) : WX := fun cls d _ H => E cls d H
theorem xok_len {R : RelX} {ps : List Str} (hl : ∀ as s r s', R as s r s' → as.length = ps.length) : ∀ vs H Q E, spX R vs H Q E → vs.length = ps.length := fun vs H Q E ⟨z, as, s, r, s', hR, en, _⟩ => by
  have := en.length
  rw [List.length_map] at this
  rw [this]
  exact hl _ _ _ _ hR
theorem okX {x qual : Str} {st : Stmt} {f : Addr} {fd : FuncData} {N ps : List Str} {k : Nat} {R : RelX} (F : Fun K x qual st f fd) (Sc : FnScope N ps (defScope st)) (hl : ∀ as s r s', R as s r s' → as.length = ps.length)
    (hb : ∀ cdv A outer s0 H0 E, Ctx (cxOf (L2.CX P w) P w K mg base N qual (defScope st) f cdv A outer s0 H0 E) k N → Takes (cxOf (L2.CX P w) P w K mg base N qual (defScope st) f cdv A outer s0 H0 E) (WE1 E) → ∀ z as s r s', R as s r s' →
      match r with
      | .ok d => SR (cxOf (L2.CX P w) P w K mg base N qual (defScope st) f cdv A outer s0 H0 E) z (defBody st) (as ++ List.replicate (N.length - as.length) .un) s (.rt d s') ∨ (d = .none ∧ ∃ es', SR (cxOf (L2.CX P w) P w K mg base N qual (defScope st) f cdv A outer s0 H0 E) z (defBody st) (as ++ List.replicate (N.length - as.length) .un) s (.nx es' s'))
      | .ex xd => ∃ es', SR (cxOf (L2.CX P w) P w K mg base N qual (defScope st) f cdv A outer s0 H0 E) z (defBody st) (as ++ List.replicate (N.length - as.length) .un) s (.ex (WE1 E) es' xd s')) :
    FnOk P w K mg base (L2.CX P w) (k + 1) f fd ps (spX R) := by
  refine F.okX Sc (xok_len hl) (fun cdv A outer s0 H0 vs Q E hr h => ?_)
  obtain ⟨z, as, s, r, s', hR, en, at_, q⟩ := h
  have e1 : vs.length = as.length := by
    have := en.length
    rwa [List.length_map] at this
  have C : Ctx (cxOf (L2.CX P w) P w K mg base N qual (defScope st) f cdv A outer s0 H0 E) k N := ⟨Sc.nd, rfl, passes_of rfl, hr, hr.units⟩
  have tk : Takes (cxOf (L2.CX P w) P w K mg base N qual (defScope st) f cdv A outer s0 H0 E) (WE1 E) := takes_of rfl rfl rfl rfl
  have en2 : En z H0 (L2.start N vs) (as ++ List.replicate (N.length - as.length) .un) := by
    unfold L2.start
    rw [e1]
    exact en.app (.uns _)
  have g := hb cdv A outer s0 H0 E C tk z as s r s' hR
  cases r with
  | ok d =>
    rcases g with g | ⟨rfl, es', g⟩
    · exact ⟨_, wB_ok, g _ H0 en2 at_ { nx := fun _ H' => Q .non H', rt := Q } fun v H' k a n => q v H' k a n⟩
    · exact ⟨_, wB_ok, g _ H0 en2 at_ { nx := fun _ H' => Q .non H', rt := Q } fun σ' H' k a n => q .non H' k a .non⟩
  | ex xd =>
    obtain ⟨es', g⟩ := g
    exact ⟨_, wB_ok, g _ H0 en2 at_ { nx := fun _ H' => Q .non H', rt := Q } fun cls dx σ' H' k a _ r => q cls dx H' k a r⟩
end
end DL


set_option Elab.async false
set_option linter.all false
set_option maxRecDepth 100000
namespace DL
open PySem PySem.Spec PyProof.Rows L2
variable [TabT]
/-! ### a class's __init__ -/
def initOf : Stmt → Stmt
  | .ClassDef _ _ _ (b :: _) _ _ _ _ _ _ _ => b
  | s => s
section
variable {P : Program} {w : World} {K : PySem.W.Frag} {mg : Str → Option Value} {base : Heap}
theorem ok_init {qual f : Str} {st : Stmt} {fI C : Addr} {fd : FuncData} {newId B : String} {bmB : List Value} {p p1 p2 pos : Pos} (F : Fun K "__init__" qual st fI fd) (Sc : FnScope ["self", f] ["self", f] (defScope st)) (T : OxC K C newId bmB f) (SF : StoreFacts B bmB "object.__setattr__" "object")
    (hB : defBody st = [.Assign [.Attribute (.Name "self" p) f p1] (.Name f p2) pos]) (hd : (f == ("__debug__" : Str)) = false := by decide) (hcd : (f == ("__classdict__" : Str)) = false := by decide)
    (hs : ∀ env : Env, swapsWith (.Name f p2) (some (.Attribute (.Name "self" p) f p1)) pos.line env = pure false := by intro _; rfl) (hv : Vis (defScope st) f := by exact Or.inl rfl) (hv2 : Vis (defScope st) "self" := by exact Or.inl rfl) :
    FnOk P w K mg base CX0 1 fI fd ["self", f] (spI C f) := by
  refine F.ok Sc (fun vs H Q E h => ?_) (fun cdv A outer s0 H0 vs Q E hr h => ?_)
  · obtain ⟨a, v, rfl, _⟩ := h
    rfl
  · obtain ⟨a, v, rfl, ha, q⟩ := h
    refine ⟨_, by rw [hB]; exact pss_one (ps_ox (C := C) T SF (pe_var (i := 0) rfl hv2 (by decide) (by decide)) (pe_var (i := 1) rfl hv hd hcd) (hs _)), ?_⟩
    exact ⟨v, rfl, .ref a, rfl, a, rfl, ha, fun dx n ne => q dx n ne⟩
theorem okOX {x qual : Str} {st : Stmt} {f : Addr} {fd : FuncData} {N ps : List Str} {k : Nat} {R : RelX} (F : Fun K x qual st f fd) (Sc : FnScope N ps (defScope st)) (hl : ∀ as s r s', R as s r s' → as.length = ps.length) (hn : ∀ as s r s', R as s r s' → ∀ ds, Sl.own ds ∉ as)
    (hb : ∀ cdv A outer s0 H0 E, Ctx (cxOf (L2.CX P w) P w K mg base N qual (defScope st) f cdv A outer s0 H0 E) k N → Takes (cxOf (L2.CX P w) P w K mg base N qual (defScope st) f cdv A outer s0 H0 E) (WE1 E) → ∀ as s r s', R as s r s' →
      match r with
      | .ok d => SO (cxOf (L2.CX P w) P w K mg base N qual (defScope st) f cdv A outer s0 H0 E) (defBody st) (as ++ List.replicate (N.length - as.length) .un) s (.rt d s')
      | .ex xd => ∃ es', SO (cxOf (L2.CX P w) P w K mg base N qual (defScope st) f cdv A outer s0 H0 E) (defBody st) (as ++ List.replicate (N.length - as.length) .un) s (.ex (WE1 E) es' xd s')) :
    FnOk P w K mg base (L2.CX P w) (k + 1) f fd ps (spX R) := by
  refine F.okX Sc (xok_len hl) (fun cdv A outer s0 H0 vs Q E hr h => ?_)
  obtain ⟨z, as, s, r, s', hR, en, at_, q⟩ := h
  have e1 : vs.length = as.length := by
    have := en.length
    rwa [List.length_map] at this
  have C : Ctx (cxOf (L2.CX P w) P w K mg base N qual (defScope st) f cdv A outer s0 H0 E) k N := ⟨Sc.nd, rfl, passes_of rfl, hr, hr.units⟩
  have tk : Takes (cxOf (L2.CX P w) P w K mg base N qual (defScope st) f cdv A outer s0 H0 E) (WE1 E) := takes_of rfl rfl rfl rfl
  have no : ∀ (i : Nat) (ds : List PyData), (as ++ List.replicate (N.length - as.length) Sl.un)[i]? ≠ some (.own ds) := fun i ds h => by
    rcases List.mem_append.mp (List.mem_of_getElem? h) with m | m
    · exact hn _ _ _ _ hR ds m
    · have := (List.mem_replicate.mp m).2
      cases this
  have I : OI z H0 H0 [] (L2.start N vs) (as ++ List.replicate (N.length - as.length) .un) s := {
    new := fun q h => by cases h
    nd := List.nodup_nil
    base := fun q h => by
      rw [at_.v q h]
      exact fun e => by cases e
    at_ := at_
    en := by
      unfold L2.start
      rw [e1]
      exact en.app (.uns _)
    ez := .refl _
    far := fun i ds p h => absurd h (no i ds)
    two := fun i j ds ds' p _ h => absurd h (no i ds) }
  have g := hb cdv A outer s0 H0 E C tk as s r s' hR
  cases r with
  | ok d => exact ⟨_, wB_ok, g z H0 H0 [] _ I { nx := fun _ H' => Q .non H', rt := Q } fun v H' k a n => q v H' k a n⟩
  | ex xd =>
    obtain ⟨es', g⟩ := g
    exact ⟨_, wB_ok, g z H0 H0 [] _ I { nx := fun _ H' => Q .non H', rt := Q } fun cls dx σ' H' k a r => q cls dx H' k a r⟩
end
/-! ### try: .. except X as n: .. -/
def clsOf : XD → Addr
  | .pl C => C
  | .wf C _ _ => C
theorem XR.cls {z : Z} {H : Hp} {cls : Value} {dx : Option Addr} : ∀ {x : XD}, XR z H cls dx x → cls = .ref (clsOf x)
  | .pl _, h => h.1
  | .wf _ _ _, h => h.1
def tbW (X : Cx) (body : List Stmt) (W : WX) : TS := fun D σ H => ∀ pn xe, Takes (X.tr pn xe) W → PassesOwn (model X.prog X.w) X.A X.env xe → wB (X.tr pn xe) body D σ H
def tsW (X : Cx) (suite : List Stmt) (a : Addr) (cls : Value) (d : Option Addr) : TS := fun D σ H => ∀ (oe : Obj) (pn : List (Addr × Obj)), Zc cls d oe → (∃ vs, oe.data = .fields vs) → wB (X.suite a ((a, oe) :: pn)) suite D σ H
section
variable {X : Cx} {z : Z} {es es1 es2 : List Sl} {s s1 s2 : S} {body suite rest : List Stmt} {b₀ : Stmt} {d : PyData} {x n f : Str} {c : Value} {i : Nat} {np p pos pos' : Pos} {xd : XD} {o : Out}
theorem tbW_ok (W : WX) (pn : List (Addr × Obj)) (xe : Value → Shared → Prop) (tk : Takes (X.tr pn xe) W) (hp : PassesOwn (model X.prog X.w) X.A X.env xe) : PSs (X.tr pn xe) body (tbW X body W) := ⟨fun pins s σ H D I h => wB_ok.run pins s σ H D I (h pn xe tk hp)⟩
theorem tsW_ok (a : Addr) (oe : Obj) (cls : Value) (d : Option Addr) (pn : List (Addr × Obj)) (hz : Zc cls d oe) (hd : ∃ vs, oe.data = .fields vs) : PSs (X.suite a ((a, oe) :: pn)) suite (tsW X suite a cls d) := ⟨fun pins s σ H D I h => wB_ok.run pins s σ H D I (h oe pn hz hd)⟩
/-- the body returns -/
theorem sr_tryOk (hN : X.N.Nodup) (hb : ∀ pn xe, PassesOwn (model X.prog X.w) X.A X.env xe → SR (X.tr pn xe) z body es s (.rt d s1)) (hc : Names X x c) (hi : X.N[i]? = some n := by rfl) (hln : X.env.kindOf n = some .local := by rfl) (hs : X.stack = X.env :: X.outer := by rfl) (hf : X.env.frame = some X.env.locals := by rfl) :
    SR X z (.Try body [.ExceptHandler (some (.Name x np)) (some n) (b₀ :: suite) pos'] [] [] pos :: rest) es s (.rt d s1) := fun σ H en at_ D q =>
  ⟨_, pss_cons (ps_try_as hs hf hN hi hln hc takes0 tbW_ok tsW_ok) wB_never, fun pn xe _ hp => hb pn xe hp σ H en at_ _ fun v H' k a n => q v H' k a n⟩
/-- the body raises, and is caught: the suite returns -/
theorem sr_tryX (hN : X.N.Nodup) (hb : ∀ pn xe W, Takes (X.tr pn xe) W → PassesOwn (model X.prog X.w) X.A X.env xe → SR (X.tr pn xe) z body es s (.ex W es1 xd s1)) (hc : Names X x c) (hm : PySem.W.exmOne X.K (.ref (clsOf xd)) c = some true)
    (hsu : ∀ (a : Addr) (oe : Obj) (cls : Value) (dx : Option Addr) (pn : List (Addr × Obj)), Zc cls dx oe → (∃ vs, oe.data = .fields vs) → SR (X.suite a ((a, oe) :: pn)) z (b₀ :: suite) (es1.set i (.exc a cls dx xd)) s1 (.rt d s2)) (hi : X.N[i]? = some n := by rfl) (hln : X.env.kindOf n = some .local := by rfl) (hs : X.stack = X.env :: X.outer := by rfl) (hf : X.env.frame = some X.env.locals := by rfl) :
    SR X z (.Try body [.ExceptHandler (some (.Name x np)) (some n) (b₀ :: suite) pos'] [] [] pos :: rest) es s (.rt d s2) := fun σ H en at_ D q =>
  ⟨_, pss_cons (ps_try_as hs hf hN hi hln hc takes0 tbW_ok tsW_ok) wB_never, fun pn xe tk hp => hb pn xe _ tk hp σ H en at_ _ fun cls dx σ' H' k a n r => by
    have ec := r.cls
    subst ec
    exact ⟨true, hm, fun _ ad na oe pn2 hz hd => hsu ad oe _ dx pn2 hz hd (σ'.set i (some (.ref ad))) H' (n.set i (.exc r)) a _ fun v H2 k2 a2 v2 => q v H2 (k.trans k2) a2 v2, fun h => by cases h⟩⟩
/-- n.f in the suite -/
theorem ev_xf {C a : Addr} {oe : Obj} {cls : Value} {dx : Option Addr} {pn : List (Addr × Obj)} (i : Nat) (T : XfC X.K C) (hno : PySem.W.findIn X.K (.ref C) f = some none) (hz : Zc cls dx oe) (hd : ∃ vs, oe.data = .fields vs) (h : es[i]? = some (.exc a cls dx (.wf C f d)) := by rfl) (hN : X.N[i]? = some n := by rfl)
    (hv : Vis X.env.scope n := by first | exact Or.inl rfl | exact Or.inr (Or.inl rfl) | exact Or.inr (Or.inr rfl)) (hdb : (n == ("__debug__" : Str)) = false := by decide) (hcd : (n == ("__classdict__" : Str)) = false := by decide) (hb : attributeBase (.Name n p) f X.env (eval (.Name n p) X.env) = eval (.Name n p) X.env := by rfl) :
    EV (X.suite a ((a, oe) :: pn)) z (.Attribute (.Name n p) f pos) es s d s := .mk (pe_xf (X := X) T hno hz hd (pe_var (X := X.suite a ((a, oe) :: pn)) (i := i) hN hv hdb hcd) hb) fun σ H en at_ Q q => by
  obtain ⟨y, hy, r⟩ := en.slot h
  cases r with
  | exc r =>
    obtain ⟨e1, pp, v, e2, fz, e3, e4⟩ := r
    refine ⟨.ref a, hy, rfl, e1, pp, [(f, v)], v, e2, e3, ?_, q v H (.refl H) at_ e4⟩
    simp [List.lookup]
end
end DL


set_option Elab.async false
set_option linter.all false
set_option maxRecDepth 100000
namespace DL
open PySem PySem.Spec PyProof.Rows L2
variable [TabT]
/-! ### what the written part says of an own class of errors with one field -/
def ClsAt (K : PySem.W.Frag) (x qual f : Str) (st : Stmt) (newId : String) (bmB : List Value) : Prop :=
  ∃ (C fI : Addr) (nm q : Str) (N : Addr) (bs : List Value) (sn : List Str) (sub : List Value) (ab : Bool) (col : Option Bool) (dd : Option Addr) (m0 m1 m2 m3 m5 : Option Value) (oc : Value) (od an : Option Addr) (sl : Array (Option Value)) (kV dc pm cd ct : Value),
    PySem.W.nsIn K mainGlobals x = some (some (.ref C)) ∧ K.lookup C = some (excClassObj nm q C N bs bmB true sn sub ab col dd m0 m1 m2 m3 m5 newId) ∧
    PySem.W.findIn K (.ref C) "__setattr__" = some (some (.builtin "object.__setattr__")) ∧ PySem.W.findIn K (.ref C) "__getattribute__" = some (some (.builtin "BaseException.__getattribute__")) ∧ PySem.W.findIn K (.ref C) "__getattr__" = some none ∧ PySem.W.findIn K (.ref C) f = some none ∧
    PySem.W.findIn K (.ref C) "__init__" = some (some (.ref fI)) ∧ PySem.W.typeIn K (.ref fI) = some (.type "function") ∧
    K.lookup fI = some ⟨oc, od, .func (PySem.W.fnOf "__init__" qual (defArgs st) (defBody st) (defScope st) .none kV dc pm an cd ct), sl⟩ ∧ PySem.W.codeIn K cd qual = true ∧ PySem.W.keepIn K (.ref fI) = true ∧
    PySem.W.keepIn K (.ref C) = true ∧ PySem.W.subIn K (.ref C) (.type "BaseException") = some true ∧ PySem.W.typeIn K (.ref C) = some (.type "type") ∧ PySem.W.hasDictIn K C = true ∧ PySem.W.isClsIn K C = true ∧ PySem.W.subIn K (.ref C) (.ref C) = some true
section
variable {K : PySem.W.Frag} {x qual f : Str} {st : Stmt} {newId : String} {bmB : List Value}
theorem ClsAt.mk' {C fI : Addr} {nm q : Str} {N : Addr} {bs : List Value} {sn : List Str} {sub : List Value} {ab : Bool} {col : Option Bool} {dd : Option Addr} {m0 m1 m2 m3 m5 : Option Value} {oc : Value} {od an : Option Addr} {sl : Array (Option Value)} {kV dc pm cd ct : Value}
    (aC : PySem.W.nsIn K mainGlobals x = some (some (.ref C))) (xL : K.lookup C = some (excClassObj nm q C N bs bmB true sn sub ab col dd m0 m1 m2 m3 m5 newId))
    (sa : PySem.W.findIn K (.ref C) "__setattr__" = some (some (.builtin "object.__setattr__"))) (ga : PySem.W.findIn K (.ref C) "__getattribute__" = some (some (.builtin "BaseException.__getattribute__"))) (gg : PySem.W.findIn K (.ref C) "__getattr__" = some none) (nb : PySem.W.findIn K (.ref C) f = some none)
    (a1 : PySem.W.findIn K (.ref C) "__init__" = some (some (.ref fI))) (t1 : PySem.W.typeIn K (.ref fI) = some (.type "function"))
    (l1 : K.lookup fI = some ⟨oc, od, .func (PySem.W.fnOf "__init__" qual (defArgs st) (defBody st) (defScope st) .none kV dc pm an cd ct), sl⟩) (c1 : PySem.W.codeIn K cd qual = true) (k1 : PySem.W.keepIn K (.ref fI) = true)
    (kC : PySem.W.keepIn K (.ref C) = true) (eC : PySem.W.subIn K (.ref C) (.type "BaseException") = some true) (tC : PySem.W.typeIn K (.ref C) = some (.type "type")) (hC : PySem.W.hasDictIn K C = true) (iC : PySem.W.isClsIn K C = true) (sC : PySem.W.subIn K (.ref C) (.ref C) = some true) : ClsAt K x qual f st newId bmB :=
  ⟨C, fI, nm, q, N, bs, sn, sub, ab, col, dd, m0, m1, m2, m3, m5, oc, od, an, sl, kV, dc, pm, cd, ct, aC, xL, sa, ga, gg, nb, a1, t1, l1, c1, k1, kC, eC, tC, hC, iC, sC⟩
/-- such an error is one of its class -/
theorem cls_own {C : Addr} (he : PySem.W.subIn K (.ref C) (.type "BaseException") = some true) (hi : PySem.W.isClsIn K C = true) (ht : PySem.W.typeIn K (.ref C) = some (.type "type")) (hs : PySem.W.subIn K (.ref C) (.ref C) = some true) : PySem.W.exmOne K (.ref C) (.ref C) = some true := by
  unfold PySem.W.isClsIn at hi
  simp [PySem.W.exmOne, PySem.W.kitCls, he, hi, ht, hs]
/-- the same, as rules want it -/
structure ClsOk (K : PySem.W.Frag) (mg : Str → Option Value) (C : Addr) (x qual f : Str) (st : Stmt) (newId : String) (bmB : List Value) : Prop where
  m : mg x = some (.ref C)
  ox : OxC K C newId bmB f
  xf : XfC K C
  ex : PySem.W.exmOne K (.ref C) (.ref C) = some true
  i : ∃ fI fd, PySem.W.findIn K (.ref C) "__init__" = some (some (.ref fI)) ∧ PySem.W.typeIn K (.ref fI) = some (.type "function") ∧ Fun K "__init__" qual st fI fd
theorem ClsAt.all {h : Heap} {mg : Str → Option Value} (D : ClsAt K x qual f st newId bmB) (X : K.In h) (G : h.Ns mainGlobals mg) (ht : PySem.W.excTail bmB bmB = true) : ∃ C, ClsOk K mg C x qual f st newId bmB := by
  obtain ⟨C, fI, nm, q, N, bs, sn, sub, ab, col, dd, m0, m1, m2, m3, m5, oc, od, an, sl, kV, dc, pm, cd, ct, aC, xL, sa, ga, gg, nb, a1, t1, l1, c1, k1, kC, eC, tC, hC, iC, sC⟩ := D
  exact ⟨C, PySem.W.mg_of X G aC, ⟨⟨nm, q, N, bs, _, sn, sub, ab, col, dd, m0, m1, m2, m3, m5, xL, ht⟩, sa, nb, eC, tC, kC⟩, ⟨ga, gg, eC, hC⟩, cls_own eC iC tC sC, fI, _, a1, t1, fun_mk l1 c1 k1⟩
/-- its calls and raises -/
theorem ClsOk.oxI {P : Program} {w : World} {mg : Str → Option Value} {base : Heap} {C : Addr} {B initId : String} {p p1 p2 pos : Pos} (T : ClsOk K mg C x qual f st newId bmB) (FB : ExcBaseFacts B newId initId bmB) (SF : StoreFacts B bmB "object.__setattr__" "object") (Sc : FnScope ["self", f] ["self", f] (defScope st))
    (hB : defBody st = [.Assign [.Attribute (.Name "self" p) f p1] (.Name f p2) pos]) (hbd : ∀ (kV doc pm : Value) (an : Option Addr) (cdv ct : Value) (us : List Value), us.length = 2 → bindArgs (PySem.W.fnOf "__init__" qual (defArgs st) (defBody st) (defScope st) .none kV doc pm an cdv ct) ⟨us, []⟩ = pure ((["self", f] : List Str).zip us))
    (hd : (f == ("__debug__" : Str)) = false := by decide) (hcd : (f == ("__classdict__" : Str)) = false := by decide) (hs : ∀ env : Env, swapsWith (.Name f p2) (some (.Attribute (.Name "self" p) f p1)) pos.line env = pure false := by intro _; rfl) (hv : Vis (defScope st) f := by exact Or.inl rfl) (hv2 : Vis (defScope st) "self" := by exact Or.inl rfl) :
    ∀ X : Cx, X.prog = P → X.w = w → X.K = K → X.mg = mg → X.base = base → OxI X x C f B newId initId bmB := fun X e1 e2 e3 e4 e5 => by
  subst e1 e2 e3 e4 e5
  obtain ⟨fI, fd, a1, t1, F⟩ := T.i
  exact ⟨T.ox, FB, ⟨fI, fd, _, a1, t1, ok_init F Sc T.ox SF hB hd hcd hs hv hv2, F.binds hbd⟩, T.m⟩
end
end DL


set_option Elab.async false
set_option linter.all false
set_option maxRecDepth 100000
namespace DL
open PySem PySem.Spec PyProof.Rows L2
variable [TabT]
section
variable {X : Cx} {z : Z} {es es1 es2 : List Sl} {s s1 s2 s3 : S} {iter elt cond a b c e : Expr} {ds fs : List PyData} {d d1 d2 d3 : PyData} {o : Out} {rest body els : List Stmt} {pos p p1 p2 p3 p4 p5 : Pos}
/-- x, y = e, e a tuple, own lists at hand -/
theorem so_unp2 (i j : Nat) {x y : Str} {kt : Nat} (hc : X.calm = true) (hN : X.N.Nodup) (h : ∀ z, EV X z e es s (.tuple [d1, d2]) s1) (k : SO X rest ((es.set i (.val d1)).set j (.val d2)) s1 o)
    (hi : X.N[i]? = some x := by rfl) (hj : X.N[j]? = some y := by rfl) (hx : Loc X.env.scope x := by first | exact Or.inl rfl | exact Or.inr rfl) (hy : Loc X.env.scope y := by first | exact Or.inl rfl | exact Or.inr rfl)
    (fx : X.fn x = true ∨ X.env.scope.names.lookup x = some .local := by first | exact .inl rfl | exact .inr rfl) (fy : X.fn y = true ∨ X.env.scope.names.lookup y = some .local := by first | exact .inl rfl | exact .inr rfl)
    (hs : swapsWithSole [.Tuple [.Name x p1, .Name y p2] kt p3] e pos.line X.env = pure false := by rfl) (hw : swappedStores [.Tuple [.Name x p1, .Name y p2] kt p3] e X.env = pure none := by rfl)
    (hn : (assignEach [.Name x p1, .Name y p2] X.env).length = 2 := by rfl) (hst : (assignEach [.Name x p1, .Name y p2] X.env).findIdx? (·.1) = none := by rfl)
    (h1 : (assignEach (.Name x p1 :: [.Name y p2]) X.env).map (·.2) = assign (.Name x p1) X.env :: (assignEach [.Name y p2] X.env).map (·.2) := by rfl) (h2 : (assignEach (.Name y p2 :: []) X.env).map (·.2) = assign (.Name y p2) X.env :: (assignEach [] X.env).map (·.2) := by rfl) :
    SO X (.Assign [.Tuple [.Name x p1, .Name y p2] kt p3] e pos :: rest) es s o := fun z Hc H vol σ I D q =>
  ⟨_, pss_cons (ps_asg wE_ok (pg_tup hc (pgs_cons (pg_name hN hi hx fx) (pgs_cons (pg_name hN hj hy fy) pgs_nil h2) h1) hn hst) hs hw) wB_ok, h _ σ H I.en I.at_ _ fun v H1 e1 a1 v1 => by
    cases v1 with
    | tup n e r =>
      cases r with
      | cons v1 r =>
        cases r with
        | cons v2 r =>
          cases r
          have w1 := I.step e1 a1
          exact ⟨_, _, rfl, .inl (.inl e), rfl, _, _, rfl, _, _, rfl, rfl, k z Hc H1 vol _ ((w1.set (.refl _) w1.at_ i v1).set (.refl _) w1.at_ j v2) D q⟩⟩
/-- list(range(n)) -/
theorem daAll_nats {H : Hp} : ∀ l : List Nat, DaAll z H (l.map fun i : Nat => V.int ((i : Nat) : Int)) (l.map fun i : Nat => PyData.int ((i : Nat) : Int))
  | [] => .nil
  | n :: ns => .cons (.int n) (daAll_nats ns)
theorem ev_listRg {n : Nat} (hc : X.calm = true) (hm : X.mg "list" = none) (hm2 : X.mg "range" = none) (hl : n ≤ 1000) (ha : EV X z a es s (.int (n : Int)) s1) (hg : Gl X "list" := by rfl) (hg2 : Gl X "range" := by rfl)
    (h1 : starEach [a] X.env = (false, eval a X.env) :: starEach [] X.env := by rfl) (h2 : starEach [.Call (.Name "range" p) [a] [] p1] X.env = (false, eval (.Call (.Name "range" p) [a] [] p1) X.env) :: starEach [] X.env := by rfl) :
    EV X z (.Call (.Name "list" p2) [.Call (.Name "range" p) [a] [] p1] [] pos) es s (.list ((List.range n).map fun i : Nat => .int ((i : Nat) : Int))) s1 :=
  .mk (pe_listRg hc hg hm (prg_1 hg2 hm2 wE_ok h1) h2) fun σ H en at_ Q q => ha σ H en at_ _ fun v H1 e1 a1 v1 => by
    cases v1
    refine ⟨(n : Int), rfl, RgOk.of_le (by omega) (by omega) (by omega) (by omega), fun b hb => ?_⟩
    have e : rgV 0 (n : Int) = (List.range n).map fun i => V.int ((i : Nat) : Int) := by
      unfold rgV
      rw [Int.sub_zero, Int.toNat_natCast]
      exact List.map_congr_left fun i _ => by rw [Int.zero_add]
    rw [e]
    exact q _ _ (e1.trans (.new hb)) (a1.new hb) (.lst (a1.fresh hb) upd_same (daAll_nats _))
/-- d not in a tuple -/
def rNotInT (K : PySem.W.Frag) : V → V → Hp → VK → Prop := fun x y H Q => ∃ d ds, Dp K H x d ∧ Dp K H y (.tuple ds) ∧ SeqAt.shaped d = true ∧ SeqAt.shaped (.tuple ds) = true ∧ Q (.bl (!ds.any fun z => PyData.eqv z d)) H
theorem op_notInDT (hu : X.A.units + 65 < cLine) : OpR X (compareOp .NotIn) (rNotInT X.K) := by
  intro pins s σ H x y v u Q I rx ry h
  obtain ⟨d, ds, hd, he, sd, se, q⟩ := h
  obtain ⟨as, r1⟩ := Dp.reads I d x v hd rx
  obtain ⟨bs, r2⟩ := Dp.reads I (.tuple ds) y u he ry
  exact SeqAt.notIn_tuple_reads r2 r1 (SeqAt.canLay_of_shaped se) (SeqAt.canLay_of_shaped sd) (room_in_shaped sd hu) ⟨.bl _, H, I, rfl, q⟩
theorem et_ninT (hu : X.A.units + 65 < cLine) (h1 : Pl d) (h2 : Pl (.tuple ds)) (ha : EV X z a es s d s1) (hb : EV X z b es s1 (.tuple ds) s2) (hm : behindInMarks .NotIn b = false := by rfl) : ET X z (.Compare a [.NotIn] [b] pos) es s (!ds.any fun z => PyData.eqv z d) s2 :=
  et_cmpR (op_notInDT hu) (fun u v H at_ hu hv Q q => ⟨d, ds, hu.dp h1.1, hv.dp h2.1, h1.2, h2.2, q _ H (.refl H) at_ (.bl _)⟩) ha hb hm
/-- for x, y in a list of pairs, own lists at hand -/
theorem so_forP (l m : Nat) {x y : Str} {kt : Nat} (hp : PassesOwn (model X.prog X.w) X.A X.env X.xe) (hc : X.calm = true) (hN : X.N.Nodup) (ps : List (PyData × PyData)) (h : ∀ z, EV X z iter es s (.list (ps.map fun q => .tuple [q.1, q.2])) s1) (E : Nat → List Sl) (T : Nat → S) (h0 : Le es (E 0)) (t0 : T 0 = s1)
    (hb : ∀ (i : Nat) q, ps[i]? = some q → SO X body (((E i).set l (.val q.1)).set m (.val q.2)) (T i) (.nx (E (i + 1)) (T (i + 1)))) (k : SO X rest (E ps.length) (T ps.length) o)
    (hg : PG X (.Tuple [.Name x p1, .Name y p2] kt p3) (gTup X.K 2 (gCons (gName l) (gCons (gName m) gNil)))) (hfo : ∀ x, foldedSetIterable iter X.env x = pure x := by intro _; rfl) :
    SO X (.For (.Tuple [.Name x p1, .Name y p2] kt p3) iter body [] pos :: rest) es s o := fun z Hc H vol σ I D q =>
  ⟨_, pss_cons (ps_for hp hc (pi_list wE_ok) hg wB_ok hfo) wB_ok, h _ σ H I.en I.at_ _ fun v H1 e1 a1 v1 => by
    cases v1 with
    | @lst a xs _ fa ha r =>
      have hx : xs.length = ps.length := by rw [r.length, List.length_map]
      obtain ⟨I2, back⟩ := (I.step e1 a1).reb
      subst t0
      refine ⟨a, rfl, ⟨xs, .inl (.inl ha)⟩, for_list (xs := xs) (fun i σ' H' => ∃ vol', OI z (cutH H1 vol) H' vol' σ' (E i) (T i)) ⟨vol, I2.le h0⟩ (fun i σ' H' _ w => ?_) (fun i x σ' H' hi w => ?_) fun σ' H' w => ?_⟩
      · obtain ⟨vol', w⟩ := w
        exact .inl (.inl (w.stillH fa ha))
      · obtain ⟨vol', w⟩ := w
        obtain ⟨d, hd, hv⟩ := r.getV i x hi
        rw [List.getElem?_map] at hd
        cases hq : ps[i]? with
        | none =>
          rw [hq] at hd
          cases hd
        | some pq =>
          rw [hq] at hd
          cases Option.some.inj hd
          have hv := w.still hv
          cases hv with
          | @tup t us _ ft ht rt =>
            cases rt with
            | cons h1 rt =>
              cases rt with
              | cons h2 rt =>
                cases rt
                have w2 := (w.set (.refl _) w.at_ l h1).set (.refl _) w.at_ m h2
                exact ⟨t, _, rfl, .inl (.inl ht), rfl, _, _, rfl, _, _, rfl, rfl, hb i pq hq z _ _ vol' _ w2 _ fun vol3 σ3 H3 I3 => ⟨vol3, I3⟩⟩
      · obtain ⟨vol', w⟩ := w
        rw [hx] at w
        exact k z Hc H' vol' σ' (back _ _ _ _ _ w) D q⟩
end
end DL


set_option Elab.async false
set_option linter.all false
set_option maxRecDepth 100000
namespace DL
open PySem PySem.Spec PyProof.Rows L2
variable [TabT]
section
variable {X : Cx} {z : Z} {es : List Sl} {s s1 s2 : S} {iter elt cond a b e : Expr} {ds fs : List PyData} {o : Out} {rest : List Stmt} {pos p p1 p2 p3 p4 : Pos} {d : PyData}
theorem filt_step {α : Type} {ds : List α} {i : Nat} {d : α} (h : ds[i]? = some d) (kb : α → Bool) : (ds.take (i + 1)).filter kb = (ds.take i).filter kb ++ if kb d then [d] else [] := by
  rw [List.take_succ, h, List.filter_append]
  congr 1
  show List.filter kb [d] = _
  cases hk : kb d
  · rw [List.filter_cons_of_neg (by rw [hk]; decide)]
    rfl
  · rw [List.filter_cons_of_pos hk]
    rfl
/-- [x for x in a list or a tuple if test], the test leaves the state -/
theorem ev_lcW (kd : Bool) {j : Nat} {x : Str} {scope : Scope} (hc : X.calm = true) (hN : X.N.Nodup) (kb : PyData → Bool) (hit : EV X z iter es s (dK kd ds) s) (hl : ds.length ≤ 100000) (hB : BlkOk X.N X.env.scope scope [(x, j)]) (hg : PgIn X scope (.Name x p) (gName j))
    (Ht : ∀ d ∈ ds, ∀ z' : Z, Blk X scope fun Y => ET Y z' cond (es.set j (.val d)) s (kb d) s) (He : ∀ d ∈ ds, ∀ z' : Z, Blk X scope fun Y => EV Y z' elt (es.set j (.val d)) s d s)
    (hs : ∀ x, foldedSetIterable iter X.env x = pure x := by intro _; rfl) :
    EV X z (.ListComp elt [{ target := .Name x p, iter := iter, ifs := [cond], is_async := 0 }] scope pos) es s (.list (ds.filter kb)) s := by
  have g1 : ∀ {xs : List V}, xs.length = ds.length → ∀ i, i < xs.length → ds[i]? = some (ds.getD i .none) := fun {xs} hx i hi => by
    rw [List.getD_eq_getElem?_getD, List.getElem?_eq_getElem (by omega)]
    rfl
  cases kd with
  | false =>
    refine .mk (pe_lc (own := [(x, j)]) hc hN (pi_list wE_ok) hB hg tTs_ok tEl_ok hs) fun σ H en at_ Q q => hit σ H en at_ _ fun v H1 e1 a1 v1 => ?_
    cases v1 with
    | @lst a xs _ fa ha r =>
      have hx : xs.length = ds.length := r.length
      refine ⟨a, rfl, ⟨xs, .inl (.inl ha)⟩, fun D hD => ?_⟩
      refine lc_gen (walk_list (K := X.K) (a := a) (xs := xs)) (fun _ => s) (fun _ => s) (en.mono e1) a1 hD (fun i => ds.getD i .none) (fun H' e => .inl (.inl (e a _ fa ha))) (fun i x H' H2 hi hy => ⟨hy.1, ?_⟩) (by omega) (fun i => kb (ds.getD i .none)) (fun i => (ds.take i).filter kb) rfl
        (fun z' i hi σ H en at_ Q q s0 H0 C cl fp => Ht _ (List.mem_of_getElem? (g1 hx i hi)) z' s0 H0 C cl fp σ H en at_ Q q) (fun z' i hi hk => ⟨_, by rw [filt_step (g1 hx i hi), if_pos hk], fun σ H en at_ Q q s0 H0 C cl fp => He _ (List.mem_of_getElem? (g1 hx i hi)) z' s0 H0 C cl fp σ H en at_ Q q⟩)
        (fun i hi h => ⟨by rw [filt_step (g1 hx i hi), if_neg (by rw [h]; decide), List.append_nil], rfl⟩) (fun H' e a2 d2 => ?_)
      · obtain ⟨d, hd, hv⟩ := r.getV i x hy.2
        rw [g1 hx i hi] at hd
        rw [Option.some.inj hd]
        exact hv
      · rw [hx, List.take_length] at d2
        exact q _ H' (e1.trans e) a2 d2
  | true =>
    refine .mk (pe_lc (own := [(x, j)]) hc hN (pi_tup wE_ok) hB hg tTs_ok tEl_ok hs) fun σ H en at_ Q q => hit σ H en at_ _ fun v H1 e1 a1 v1 => ?_
    cases v1 with
    | @tup a xs _ fa ha r =>
      have hx : xs.length = ds.length := r.length
      refine ⟨a, rfl, ⟨xs, .inl (.inl ha)⟩, fun D hD => ?_⟩
      refine lc_gen (walk_tup (K := X.K) (a := a) (xs := xs)) (fun _ => s) (fun _ => s) (en.mono e1) a1 hD (fun i => ds.getD i .none) (fun H' e => .inl (.inl (e a _ fa ha))) (fun i x H' H2 hi hy => ⟨hy.1, ?_⟩) (by omega) (fun i => kb (ds.getD i .none)) (fun i => (ds.take i).filter kb) rfl
        (fun z' i hi σ H en at_ Q q s0 H0 C cl fp => Ht _ (List.mem_of_getElem? (g1 hx i hi)) z' s0 H0 C cl fp σ H en at_ Q q) (fun z' i hi hk => ⟨_, by rw [filt_step (g1 hx i hi), if_pos hk], fun σ H en at_ Q q s0 H0 C cl fp => He _ (List.mem_of_getElem? (g1 hx i hi)) z' s0 H0 C cl fp σ H en at_ Q q⟩)
        (fun i hi h => ⟨by rw [filt_step (g1 hx i hi), if_neg (by rw [h]; decide), List.append_nil], rfl⟩) (fun H' e a2 d2 => ?_)
      · obtain ⟨d, hd, hv⟩ := r.getV i x hy.2
        rw [g1 hx i hi] at hd
        rw [Option.some.inj hd]
        exact hv
      · rw [hx, List.take_length] at d2
        exact q _ H' (e1.trans e) a2 d2
/-- [e for i, x in enumerate(a list) if test] -/
theorem ev_lcEW {j k : Nat} {x y : Str} {scope : Scope} {kt : Nat} (hc : X.calm = true) (hN : X.N.Nodup) (hm : X.mg "enumerate" = none) (hjk : j ≠ k) (kb : Nat → Bool) (f : Nat → PyData) (hit : ED X z [a] es s [.list ds] s) (hl : ds.length ≤ 100000) (hB : BlkOk X.N X.env.scope scope [(x, j), (y, k)]) (hg : PgIn X scope (.Tuple [.Name x p, .Name y p1] kt p2) (gTup X.K 2 (gCons (gName j) (gCons (gName k) gNil))))
    (Ht : ∀ (i : Nat) d, ds[i]? = some d → ∀ z' : Z, Blk X scope fun Y => ET Y z' cond ((es.set j (.val (.int (i : Int)))).set k (.val d)) s (kb i) s) (He : ∀ (i : Nat) d, ds[i]? = some d → ∀ z' : Z, Blk X scope fun Y => EV Y z' elt ((es.set j (.val (.int (i : Int)))).set k (.val d)) s (f i) s)
    (hgl : Gl X "enumerate" := by rfl) (hst : starEach [a] X.env = [(false, eval a X.env)] := by rfl) (hs : ∀ x, foldedSetIterable (.Call (.Name "enumerate" p3) [a] [] p4) X.env x = pure x := by intro _; rfl) :
    EV X z (.ListComp elt [{ target := .Tuple [.Name x p, .Name y p1] kt p2, iter := .Call (.Name "enumerate" p3) [a] [] p4, ifs := [cond], is_async := 0 }] scope pos) es s (.list (((List.range ds.length).filter kb).map f)) s := by
  have step : ∀ i, ((List.range (i + 1)).filter kb).map f = ((List.range i).filter kb).map f ++ (if kb i then [f i] else []) := fun i => by
    rw [List.range_succ, List.filter_append, List.map_append]
    congr 1
    cases hk : kb i
    · rw [List.filter_cons_of_neg (by rw [hk]; decide)]
      rfl
    · rw [List.filter_cons_of_pos hk]
      rfl
  have g1 : ∀ {xs : List V}, xs.length = ds.length → ∀ i, i < xs.length → ds[i]? = some (ds.getD i .none) := fun {xs} hx i hi => by
    rw [List.getD_eq_getElem?_getD, List.getElem?_eq_getElem (by omega)]
    rfl
  refine .mk (pe_lc (own := [(x, j), (y, k)]) hc hN (pi_enum hgl hm wA_ok hst) hB hg tTs_ok tEl_ok hs) fun σ H en at_ Q q => hit σ H en at_ _ fun vs H1 e1 a1 v1 => ?_
  cases v1 with
  | cons h1 r =>
    cases r
    cases h1 with
    | @lst a1' xs _ fa ha r1 =>
      have hx : xs.length = ds.length := r1.length
      refine ⟨a1', xs, rfl, .inl (.inl ha), fun D hD => ?_⟩
      refine lc_two (K := X.K) (walk_enum (K := X.K) (a := a1') (xs := xs)) (fun _ => s) (fun _ => s) (en.mono e1) a1 hD hjk (fun i => .int (i : Int)) (fun i => ds.getD i .none) (fun H' e => .inl (.inl (e _ _ fa ha))) (fun i x H' H2 hi eH hY => ?_) (by omega) kb (fun i => ((List.range i).filter kb).map f) rfl
        (fun z' i hi σ H en at_ Q q s0 H0 C cl fp => Ht i _ (g1 hx i hi) z' s0 H0 C cl fp σ H en at_ Q q) (fun z' i hi hk => ⟨_, by rw [step i, if_pos hk], fun σ H en at_ Q q s0 H0 C cl fp => He i _ (g1 hx i hi) z' s0 H0 C cl fp σ H en at_ Q q⟩) (fun i _ h => ⟨by rw [step i, if_neg (by rw [h]; decide), List.append_nil], rfl⟩) (fun H' e a2 d2 => ?_)
      · obtain ⟨T, u, v, rfl, nT, rfl, hu, hv⟩ := hY
        cases hu
        obtain ⟨d, hd, hdv⟩ := r1.getV i v hv
        rw [g1 hx i hi] at hd
        exact ⟨T, _, v, rfl, .inl (.inl upd_same), .inr ⟨nT, rfl⟩, .int _, by rw [Option.some.inj hd]; exact hdv⟩
      · rw [hx] at d2
        exact q _ H' (e1.trans e) a2 d2
end
end DL


set_option Elab.async false
set_option linter.all false
set_option maxRecDepth 100000
namespace DL
open PySem PySem.Spec PyProof.Rows L2
variable [TabT]
end DL


set_option Elab.async false
set_option linter.all false
set_option maxRecDepth 100000
namespace DL
open PySem PySem.Spec PyProof.Rows L2
variable [TabT]
/-! ### try: several clauses, each with a name or without -/
abbrev Cl := Value × Option Nat × (Addr → Value → Option Addr → TS)
/-- the ends of a suite whose name goes behind it -/
def dropE (D : Ends) (i : Nat) : Ends := { nx := fun τ G => D.nx (τ.set i none) G, rt := D.rt, bk := fun τ G => D.bk (τ.set i none) G, ct := fun τ G => D.ct (τ.set i none) G }
/-- a clause's suite, entered -/
def inCl (cl : Cl) (e : Addr) (ty : Value) (dx : Option Addr) (D : Ends) (τ : L2.St) (G : Hp) : Prop := match cl.2.1 with
  | none => cl.2.2 e ty dx D τ G
  | some i => cl.2.2 e ty dx (dropE D i) (τ.set i (some (.ref e))) G
/-- what the clauses ask of an exception, from the first on -/
def clW (K : PySem.W.Frag) (Wo : WX) (D : Ends) : List Cl → WX
  | [] => Wo
  | cl :: l => fun ty dx τ G => ∃ b, PySem.W.exmOne K ty cl.1 = some b ∧ (b = true → ∀ e, G e = none → inCl cl e ty dx D τ G) ∧ (b = false → clW K Wo D l ty dx τ G)
inductive Hs (X : Cx) : List ExceptHandler → List Cl → Prop
  | nil : Hs X [] []
  | bare {x : Str} {c : Value} {ts : Addr → Value → Option Addr → TS} {st : Stmt} {sts : List Stmt} {pn pc : Pos} {hs : List ExceptHandler} {l : List Cl} (hc : Names X x c)
      (hsu : ∀ (e : Addr) (oe : Obj) (ty : Value) (dx : Option Addr) (ps : List (Addr × Obj)), Zc ty dx oe → (∃ vs, oe.data = .fields vs) → PSs (X.suite e ((e, oe) :: ps)) (st :: sts) (ts e ty dx)) (r : Hs X hs l) :
      Hs X (.ExceptHandler (some (.Name x pn)) none (st :: sts) pc :: hs) ((c, none, ts) :: l)
  | named {x n : Str} {i : Nat} {c : Value} {ts : Addr → Value → Option Addr → TS} {st : Stmt} {sts : List Stmt} {pn pc : Pos} {hs : List ExceptHandler} {l : List Cl} (hc : Names X x c) (hi : X.N[i]? = some n) (hln : X.env.kindOf n = some .local)
      (hsu : ∀ (e : Addr) (oe : Obj) (ty : Value) (dx : Option Addr) (ps : List (Addr × Obj)), Zc ty dx oe → (∃ vs, oe.data = .fields vs) → PSs (X.suite e ((e, oe) :: ps)) (st :: sts) (ts e ty dx)) (r : Hs X hs l) :
      Hs X (.ExceptHandler (some (.Name x pn)) (some n) (st :: sts) pc :: hs) ((c, some i, ts) :: l)
section
variable {X : Cx} {body : List Stmt} {h0 : ExceptHandler} {hs : List ExceptHandler} {l : List Cl} {pos : Pos} {tb : WX → TS} {Wo : WX}
theorem ps_tryM (hst : X.stack = X.env :: X.outer) (hfr : X.env.frame = some X.env.locals) (nd : X.N.Nodup) (tk : Takes X Wo)
    (hb : ∀ (W : WX) (ps : List (Addr × Obj)) (xe : Value → Shared → Prop), Takes (X.tr ps xe) W → PassesOwn (model X.prog X.w) X.A X.env xe → PSs (X.tr ps xe) body (tb W))
    (hh : Hs X (h0 :: hs) l) : PS X (.Try body (h0 :: hs) [] [] pos) (fun D τ G => tb (clW X.K Wo D l) D τ G) := by
  constructor
  intro pins s τ G D I ask
  have okX := I.ok
  have frX : X.A.frames = some (X.env :: X.outer) := okX.frames.trans (congrArg some hst)
  apply wpAny_Try_except
  refine wpAny_mono ((hb (clW X.K Wo D l) (X.pn ++ pins) (fun u s1 => wpAny (model X.prog X.w) X.A (noteFrame u X.env) (fun _ s2 => wpAny (model X.prog X.w) X.A (setFlight u none) (fun _ s3 => wpAny (model X.prog X.w) X.A (handleBy u X.env (h0 :: hs)) (SP X pins D) X.xe s3) X.xe s2) X.xe s1) ?got PassesOwn.looking).run [] s τ G D (I.toTry _) ask) ?outp fun _ _ z => z
  case outp =>
    intro fl s1 hsp
    cases fl with
    | next =>
      rcases hsp with ⟨τ1, G1, J1, q1⟩
      exact wpAny_execs_nil ⟨τ1, G1, J1.ofTry okX, q1⟩
    | brk =>
      rcases hsp with ⟨τ1, G1, J1, q1⟩
      exact ⟨τ1, G1, J1.ofTry okX, q1⟩
    | cont =>
      rcases hsp with ⟨τ1, G1, J1, q1⟩
      exact ⟨τ1, G1, J1.ofTry okX, q1⟩
    | ret u =>
      rcases hsp with ⟨v1, τ1, G1, J1, r1, q1⟩
      exact ⟨v1, τ1, G1, J1.ofTry okX, r1, q1⟩
  case got =>
    intro u s1 told
    rcases told with ⟨e, B, sB, pinsB, τ1, G1, ty, dx, rfl, JB, nb, upB, skyB, eNew, osB, agB, wish⟩
    have J : Inv X pins τ1 G1 sB := JB.ofTry okX
    have skyX : Sky B (X.env :: X.outer) e (Zc ty dx) X.env.locals s1.heap := hst ▸ skyB
    show wpAny (model X.prog X.w) X.A (noteFrame (.ref e) X.env) _ _ _
    apply Sky.land Zc.steady frX hfr skyX
    intro g3 fly up3
    have J3 : Inv X pins τ1 G1 { s1 with heap := g3 } := J.landed nb fly.1 (upB.trans up3) osB agB
    rcases fly.there with ⟨o3, w3, ho3, hz3, hf3⟩
    have outF : e ∉ frs (X.env :: X.outer) := fun mem => by
      rcases fly.2.2.1.mem mem with ⟨_, o', ho', nof⟩
      rw [ho3] at ho'
      cases ho'
      exact nof _ hf3
    have neL : e ≠ X.env.locals := fun z => outF (List.mem_filterMap.mpr ⟨X.env, List.mem_cons_self, hfr.trans (congrArg some z.symm)⟩)
    have neF : e ∉ X.fs := fun mem => by
      rcases List.mem_filterMap.mp mem with ⟨en, men, qen⟩
      exact outF (List.mem_filterMap.mpr ⟨en, List.mem_cons_of_mem _ men, qen⟩)
    have S3 := J3.suite ho3 hf3 eNew neL neF
    have ends : ∀ {cl : List ExceptHandler} {ll : List Cl}, Hs X cl ll → clW X.K Wo D ll ty dx τ1 G1 → wpAny (model X.prog X.w) X.A (handleBy (.ref e) X.env cl) (SP X pins D) X.xe { s1 with heap := g3 } := by
      -- the class that a clause names, looked up and held against the exception's
      have look : ∀ {x : Str} {c : Value} {pn : Pos} {Q E : Value → Shared → Prop}, Names X x c → Q c { s1 with heap := g3 } → wpAny (model X.prog X.w) (X.A.mark (some (.ref e))) (eval (.Name x pn) X.env) Q E { s1 with heap := g3 } := by
        intro x c pn Q E nm q
        rcases nm with ⟨gl, db, m | ⟨m, v, nn⟩⟩
        · exact ld_glob (X := X.suite e ((e, o3) :: (X.pn ++ pins))) S3 gl m q db
        · exact ld_blt (X := X.suite e ((e, o3) :: (X.pn ++ pins))) S3 gl m v q nn db
      have kind : PySem.W.Looks (model X.prog X.w) g3 (typeOf (.ref e)) ty := fun A Q E s k q => wpAny_typeOf_ref (k _ _ ho3) (by rw [hz3.1]; exact q)
      intro cl ll hk
      induction hk with
      | nil =>
        intro wsh
        apply wpAny_handleBy_nil
        rcases id fly with ⟨_, _, _, o4, w4, T4, oT4, tl4, ho4, _, hf4, ht4, _⟩
        unfold PySem.passOn
        refine wpAny_bind (wpAny_field ho4 hf4 ht4 ?_)
        have ff : ¬ ((Value.ref T4 == Value.none) = true) := by simp
        rw [if_neg ff]
        have off : wpAny (model X.prog X.w) X.A (setFlight (.ref e) X.env.frame) (fun _ s4 => wpAny (model X.prog X.w) X.A (throw (.ref e) : Sem Flow) (SP X pins D) X.xe s4) X.xe { s1 with heap := g3 } := by
          rw [hfr]
          exact HandSPX.setFlight_upZ fly fun g4 hg4 up4 => wpAny_throw (tk _ _ ⟨e, B, sB, pins, τ1, G1, ty, dx, rfl, J, nb, (upB.trans up3).trans up4, .inr (.inr (hst ▸ hg4)), eNew, osB, agB, wsh⟩)
        first
          | exact wpAny_bind (wpAny_pure (wpAny_bind off))
          | exact wpAny_bind off
      | @bare x c ts st sts pn pc hs2 l2 hc hsu r ih =>
        intro wsh
        rcases wsh with ⟨b, hm, yes, no⟩
        refine wpAny_handleBy_cons (codeAny_handlers_test ?_) (by intro q; cases q)
        refine look hc ((PySem.W.exm_one (M := model X.prog X.w) J3.kIn kind hm).here ?_)
        cases b with
        | false => exact ih (no rfl)
        | true =>
          refine codeAny_handlers_suite (HandSPX.lands_againZ fly fun g4 fly4 up4 => ?_)
          have J4 : Inv X pins τ1 G1 { s1 with heap := g4 } := J.landed nb fly4.1 ((upB.trans up3).trans up4) osB agB
          rcases fly4.there with ⟨o4, w4, ho4, hz4, hf4⟩
          refine wpAny_mono ((hsu e o4 ty dx (X.pn ++ pins) hz4 ⟨_, hf4⟩).run [] _ _ G1 _ (J4.suite ho4 hf4 eNew neL neF) (yes rfl e eNew)) (fun fl s6 hsp => ?_) (fun _ _ z => z.elim)
          cases fl with
          | ret u =>
            rcases hsp with ⟨v6, τ6, G6, S6, r6, q6⟩
            exact ⟨_, _, _, S6.unsuite okX, r6, q6⟩
          | _ =>
            rcases hsp with ⟨τ6, G6, S6, q6⟩
            exact ⟨_, _, S6.unsuite okX, q6⟩
      | @named x n i c ts st sts pn pc hs2 l2 hc hi hln hsu r ih =>
        intro wsh
        rcases wsh with ⟨b, hm, yes, no⟩
        refine wpAny_handleBy_cons (codeAny_handlers_test ?_) (by intro q; cases q)
        refine look hc ((PySem.W.exm_one (M := model X.prog X.w) J3.kIn kind hm).here ?_)
        cases b with
        | false => exact ih (no rfl)
        | true =>
          refine codeAny_handlers_suite_as (HandSPX.lands_againZ fly fun g4 fly4 up4 => ?_)
          have J4 : Inv X pins τ1 G1 { s1 with heap := g4 } := J.landed nb fly4.1 ((upB.trans up3).trans up4) osB agB
          rcases fly4.there with ⟨o4, w4, ho4, hz4, hf4⟩
          refine store_ok (X := X.suite e ((e, o4) :: (X.pn ++ pins))) (v := .ref e) (J4.suite ho4 hf4 eNew neL neF) nd hi (.inl hln) rfl (fun s5 S5 => ?_) (.inr hln)
          refine wpAny_mono ((hsu e o4 ty dx (X.pn ++ pins) hz4 ⟨_, hf4⟩).run [] s5 _ G1 _ S5 (yes rfl e eNew)) (fun fl s6 hsp => ?_) (fun _ _ z => z.elim)
          have bye : ∀ {τ6 : L2.St} {G6 : Hp} {Q : Shared → Prop}, Inv (X.suite e ((e, o4) :: (X.pn ++ pins))) [] τ6 G6 s6 → (∀ s7, Inv X pins (τ6.set i none) G6 s7 → Q s7) → wpAny (model X.prog X.w) X.A (do bindName X.env n .none; unbindBehindTheSuite X.env n pc) (fun _ s7 => Q s7) X.xe s6 := fun S6 hq => gone_ok (S6.unsuite okX) nd hi hln hq
          cases fl with
          | ret u =>
            rcases hsp with ⟨v6, τ6, G6, S6, r6, q6⟩
            exact bye S6 fun s7 J7 => ⟨_, _, _, J7, r6, q6⟩
          | _ =>
            rcases hsp with ⟨τ6, G6, S6, q6⟩
            exact bye S6 fun s7 J7 => ⟨_, _, J7, q6⟩
    exact ends hh wish
end
end DL


set_option Elab.async false
set_option linter.all false
set_option maxRecDepth 100000
namespace DL
open PySem PySem.Spec PyProof.Rows L2 LamX
variable [TabT]
/-! ### a lambda without parameters, made -/
/-- what its making does to the heap: nothing, or a new code object that its table tells -/
def Mades (T : List (Addr × Str)) (G G1 : Hp) : Prop := G1 = G ∨ ∃ (P c : Addr) (q q' : Str) (ps more : Array Value), (P, q') ∈ T ∧ G P = some (.tbl ps) ∧ G c = none ∧ G1 = upd (upd G P (.tbl (ps ++ more))) c (CodeO c q)
theorem Mades.keep {T : List (Addr × Str)} {G G1 : Hp} (m : Mades T G G1) {b : Addr} {o : HO} (e : G b = some o) (n : ∀ q, (b, q) ∉ T) : G1 b = some o := by
  rcases m with rfl | ⟨P, c, q, q', ps, more, hm, hP, hc, rfl⟩
  · exact e
  · rw [upd_ne (ne_of_none e hc), upd_ne (fun z => n q' (by rw [z]; exact hm))]
    exact e
theorem Mades.ez {z : Z} {G G1 : Hp} (m : Mades TabT.T G G1) : Ez z G G1 := fun b o f e => m.keep e f.1.2
theorem Mades.at_ {z : Z} {G G1 : Hp} {s : S} (m : Mades TabT.T G G1) (A : At z G s) (t : Tabs TabT.T G1) : At z G1 s :=
  ⟨fun a e => m.keep (A.d a e) (A.tab_far (A.d a e)), fun p hp => by
    exact m.keep (A.v p hp) (A.tab_far2 (A.v p hp) (A.n p hp).2), A.n, t⟩
section
variable {X : Cx} {pins : List (Addr × Obj)} {σ : L2.St} {G : Hp} {s : Shared}
theorem lam_new {T : List (Addr × Str)} {c P : Addr} {params : Arguments} {body : Expr} {scope : Scope} {pos : Pos} {E Q : Value → Shared → Prop} (I : Inv X pins σ G s) (TB : TabB X.base X.mg c P) (own : X.env.code = .ref c) (inT : (P, X.env.qual ++ "<lambda>") ∈ T)
    (one : ∀ p ∈ T, p.1 = P → p.2 = X.env.qual ++ "<lambda>") (tT : Tabs T G) (noDef : defaultsOf params X.env = ([], [])) (caps : ∀ y ∈ scope.names, y.2 = .free → ∃ c, X.env.cells.lookup y.1 = some c)
    (go : ∀ (f k : Addr) (pm ct : Value) (G1 : Hp) (s1 : Shared), Inv X pins σ G1 s1 → Mades T G G1 → Tabs T G1 → s1.heap.get? f = some (PySem.W.kla_obj "<lambda>" (X.env.qual ++ "<lambda>") params body scope (cloFrom X.env.cells scope.names []) pm k ct) → G1 f = none → f ∉ frs X.stack → G1 k = some (CodeO k (X.env.qual ++ "<lambda>")) → Q (.ref f) s1) :
    wpAny (model X.prog X.w) X.A (eval (.Lambda params body scope pos) X.env) Q E s := by
  rcases tT _ inT with ⟨ps, atP, trip, among⟩
  have realP : s.heap.get? P = some { cls := .none, data := .fields ps } := I.hok P _ atP
  have bltP : s.heap.BuiltinsAt X.mg P := TB.bm.keeps I.bk
  have high : ∀ f, s.heap.objs.size ≤ f → f ∉ frs X.stack := by
    intro f hf mem
    rcases List.mem_cons.mp (I.stkSub _ mem) with e | e
    · have low := I.lt
      rw [← e] at low
      exact absurd low (Nat.not_lt.mpr hf)
    · exact I.nofs hf e
  apply PySem.W.kla_eval noDef
  cases there : codeAmong pos ps.toList with
  | some cv =>
    rcases among pos cv there with ⟨k, rfl, atK⟩
    apply PySem.W.kla_makeFunctionHit (mg := X.mg) (c := c) (P := P) (ps := ps) (closure_ok caps) I.ok.glob (I.mod.glob.keeps I.bk) own (TB.code.keeps I.bk) realP trip there bltP
    intro ct h1 tk kept big
    exact go h1.objs.size k ((X.mg "__name__").getD .none) ct G _ (I.kept (fun b o e => Heap.get?_push_of_some _ (kept b o e))) (.inl rfl) tT (Heap.get?_push_size _ rfl) (I.hok.fresh big) (high _ big) atK
  | none =>
    apply PySem.W.kla_makeFunction (mg := X.mg) (c := c) (P := P) (ps := ps) (closure_ok caps) I.ok.glob (I.mod.glob.keeps I.bk) own (TB.code.keeps I.bk) realP trip there TB.gP bltP
    intro k ct h1 tk kept ge lt rec tbl
    rcases rec with ⟨k2, oc, vs, t, e2, atO, dO, nO⟩
    cases e2
    have big : s.heap.objs.size ≤ h1.objs.size := Nat.le_trans ge (Nat.le_of_lt lt)
    have newK : G k = none := I.hok.fresh ge
    have J := inv_table (t' := tk) (q := X.env.qual ++ "<lambda>") (more := #[rawInt pos.line, rawInt pos.col, .ref k]) (h' := h1.push (PySem.W.kla_obj "<lambda>" (X.env.qual ++ "<lambda>") params body scope (cloFrom X.env.cells scope.names []) ((X.mg "__name__").getD .none) k ct)) I atP
      (fun b o nb e => Heap.get?_push_of_some _ (kept b o nb e)) (Heap.get?_push_of_some _ tbl) ge ⟨oc, vs, t, Heap.get?_push_of_some _ atO, dO, nO⟩
    have kp : ∀ b o, G b = some o → (∀ xs, o ≠ .tbl xs) → upd (upd G P (.tbl (ps ++ #[rawInt pos.line, rawInt pos.col, .ref k]))) k (CodeO k (X.env.qual ++ "<lambda>")) b = some o := by
      intro b o e n
      rw [upd_ne (ne_of_none e newK), upd_ne (fun w => ?_)]
      · exact e
      · rw [w, atP] at e
        exact n ps (Option.some.inj e).symm
    have asL : (ps ++ #[rawInt pos.line, rawInt pos.col, .ref k]).toList = ps.toList ++ [rawInt pos.line, rawInt pos.col, .ref k] := by simp
    refine go h1.objs.size k ((X.mg "__name__").getD .none) ct _ _ J (.inr ⟨P, k, _, _, ps, _, inT, atP, newK, rfl⟩) (fun p hp => ?_) (Heap.get?_push_size _ rfl) ?_ (high _ big) upd_same
    · by_cases eP : p.1 = P
      · rw [one p hp eP, eP]
        refine ⟨_, (upd_ne (ne_of_none atP newK)).trans upd_same, by rw [asL]; exact PySem.TriplesOk_snoc _ _ _ _ trip, fun pp cv hv => ?_⟩
        rw [asL] at hv
        rcases among_app _ trip hv with w | w
        · rcases among pp cv w with ⟨k0, a0, b0⟩
          exact ⟨k0, a0, kp _ _ b0 codeO_ne⟩
        · exact ⟨k, w, upd_same⟩
      · rcases tT p hp with ⟨ps2, a1, a2, a3⟩
        refine ⟨ps2, (upd_ne (ne_of_none a1 newK)).trans ((upd_ne eP).trans a1), a2, fun pp cv hv => ?_⟩
        rcases a3 pp cv hv with ⟨k0, a0, b0⟩
        exact ⟨k0, a0, kp _ _ b0 codeO_ne⟩
    · rw [upd_ne (Nat.ne_of_gt lt), upd_ne (Nat.ne_of_gt (Nat.lt_of_lt_of_le (Heap.lt_size realP) big))]
      exact I.hok.fresh big
/-- f(lambda: body): what the def makes of what it got, from the heap behind the making on -/
def tLamN (T : List (Addr × Str)) (TT : (XK → Hp → VK → Prop) → Hp → VK → Prop) (t : XK → TE) : TE := fun σ G Q => Tabs T G ∧ ∀ G1, Mades T G G1 → Tabs T G1 → TT (fun E H' Q' => t E σ H' Q') G1 Q
theorem pe_lam {T : List (Addr × Str)} {TT : (XK → Hp → VK → Prop) → Hp → VK → Prop} {x a : Str} {g c P : Addr} {k : Nat} {pg : Arguments} {bg : List Stmt} {sg : Scope} {dV kV doc pm cdv ct oc : Value} {an od : Option Addr} {osl : Array (Option Value)} {Ng : List Str} {params : Arguments} {body : Expr} {scope : Scope} {t : XK → TE} {p lpos pos : Pos}
    (gl : Gl X x) (mx : X.mg x = some (.ref g)) (kp : PySem.W.keepIn X.K (.ref g) = true) (lk : X.K.lookup g = some ⟨oc, od, .func (PySem.W.fnOf x x pg bg sg dV kV doc pm an cdv ct), osl⟩) (cg : PySem.W.codeIn X.K cdv x = true) (bd : L2.Binds X.K (PySem.W.fnOf x x pg bg sg dV kV doc pm an cdv ct) [a] []) (Sg : FnScope Ng [a] sg) (N0 : Ng[0]? = some a) (va : Vis sg a)
    (gives : GivesTo X Ng x sg g cdv bg a (X.env.qual ++ "<lambda>") TT) (TB : TabB X.base X.mg c P) (own : X.env.code = .ref c) (inT : (P, X.env.qual ++ "<lambda>") ∈ T) (one : ∀ p ∈ T, p.1 = P → p.2 = X.env.qual ++ "<lambda>") (room : Room (k + 2) X.A) (L : LamS X.env.scope scope) (noDef : defaultsOf params X.env = ([], []))
    (none_ : ∀ (q : Str) (cl : List (Str × Addr)) (pm cv ctv : Value), bindArgs (PySem.W.kla_fn "<lambda>" q params body scope cl pm cv ctv) ⟨[], []⟩ = pure [])
    (inner : ∀ (A : Around) (outer : List Env) (s : Shared) (H : Hp) (E : XK) (f k' : Addr), Room k (A.deeper (lamEnv X scope s.heap.objs.size f k')) → PE (lamCx X A outer s H E scope f k') body (t E))
    (hx : (x == ("__debug__" : Str)) = false := by decide) (ha : (a == ("__debug__" : Str)) = false := by decide) (hac : (a == ("__classdict__" : Str)) = false := by decide) : PE X (.Call (.Name x p) [.Lambda params body scope lpos] [] pos) (tLamN T TT t) := by
  constructor
  intro pins s σ G Q I ask
  rcases ask with ⟨tT, ask⟩
  apply wpAny_Call_Name_kw
  refine ld_glob I gl mx (PySem.W.callWith_K (h₀ := X.base) I.ok.mod.kin kp ?_ (by rfl) (by rfl)) hx
  show wpAny _ _ (spliced ((false, eval (.Lambda params body scope lpos) X.env) :: backTo pos (starEach [] X.env))) _ _ s
  apply Calls.spliced_cons
  apply lam_new I TB own inT one tT noDef (L.has I.ok)
  intro f k' pm' ct' G1 s1 J made t1 atF newF outF atK
  apply Calls.spliced_nil
  refine ⟨J.kIn, wpAny_call (codeAny_mono (run_ofS (CX := C8.CX0) (E := C8.E0) (H := G1) (Q := Q) (outer := X.stack) (N := Ng) (ps := [a]) (us := [.ref f]) (vs := [.ref f]) lk cg Sg room J.env0 (bd s1 [.ref f] J.kIn rfl) (.cons rfl .nil) rfl fun room1 => ?_) fun r s2 done => ?_)⟩
  · rcases gives f k' s1 G1 Q (fun E H' Q' => t E σ H' Q') (fun W ps xe E p1 p2 tk hW => pe_act (i := 0) J L atF newF outF (none_ _ _ _ _ _) tk hW room1 (fun A outer s H r2 => inner A outer s H E f k' r2) N0 va ha hac) atK (ask G1 made t1) with ⟨tt, pt, qt⟩
    exact ⟨tt, pt.nox, qt⟩
  · cases r with
    | error e => exact (show False from done).elim
    | ok fl =>
      cases fl with
      | ret u => exact J.after done
      | _ => exact (show False from done).elim
end
end DL


set_option Elab.async false
set_option linter.all false
set_option maxRecDepth 100000
namespace DL
open PySem PySem.Spec PyProof.Rows L2 LamX
variable [TabT]
/-! ### a def that calls the lambda it got, within a try -/
theorem en_un {z : Z} {H : Hp} : ∀ τ : L2.St, En z H τ (List.replicate τ.length .un)
  | [] => .nil
  | _ :: τ => .cons .un (en_un τ)
def tsL (X : Cx) (suite : List Stmt) : Addr → Value → Option Addr → TS := fun a cls d D σ H => σ.length = X.N.length → ∀ (oe : Obj) (pn : List (Addr × Obj)), Zc cls d oe → (∃ vs, oe.data = .fields vs) → wB (X.suite a ((a, oe) :: pn)) suite D σ H
/-- a clause: the class that it names, its name's slot, its suite -/
abbrev Cb := Value × Option Nat × List Stmt
def clB (X : Cx) (q : Cb) : Cl := (q.1, q.2.1, tsL X q.2.2)
/-- the first clause that takes x: what its suite returns -/
def CatchAt (X : Cx) (z : Z) (x : XD) (s : S) (d : PyData) : List Cb → Prop
  | [] => False
  | (c, oi, b) :: l => (PySem.W.exmOne X.K (.ref (clsOf x)) c = some false ∧ CatchAt X z x s d l) ∨ (PySem.W.exmOne X.K (.ref (clsOf x)) c = some true ∧ ∀ (a : Addr) (oe : Obj) (cls : Value) (dx : Option Addr) (pn : List (Addr × Obj)), Zc cls dx oe → (∃ vs, oe.data = .fields vs) →
      SR (X.suite a ((a, oe) :: pn)) z b (match oi with | none => List.replicate X.N.length .un | some i => (List.replicate X.N.length .un).set i (.exc a cls dx x)) s (.rt d s))
section
variable {X : Cx} {z : Z} {s s' : S} {x : XD} {d : PyData}
theorem tsL_ok {suite : List Stmt} (a : Addr) (oe : Obj) (cls : Value) (d : Option Addr) (pn : List (Addr × Obj)) (hz : Zc cls d oe) (hd : ∃ vs, oe.data = .fields vs) : PSs (X.suite a ((a, oe) :: pn)) suite (tsL X suite a cls d) :=
  ⟨fun pins s σ H D I h => wB_ok.run pins s σ H D I (h I.len oe pn hz hd)⟩
theorem catch_w {D : Ends} : ∀ {l : List Cb}, CatchAt X z x s d l → ∀ {cls : Value} {dx : Option Addr} {H : Hp}, XR z H cls dx x → At z H s → (∀ v H', Ez z H H' → At z H' s → Da z H' v d → D.rt v H') → ∀ τ, clW X.K (fun _ _ _ _ => False) D (l.map (clB X)) cls dx τ H
  | [], h, _, _, _, _, _, _, _ => h.elim
  | (c, oi, b) :: l, h, cls, dx, H, r, A, q, τ => by
    have ec := r.cls
    subst ec
    rcases h with ⟨hm, h⟩ | ⟨hm, h⟩
    · exact ⟨false, hm, (fun e => by cases e), fun _ => catch_w h r A q τ⟩
    · refine ⟨true, hm, fun _ e he => ?_, fun e => by cases e⟩
      cases oi with
      | none =>
        intro hl oe pn hz hd
        have en := en_un (z := z) (H := H) τ
        rw [hl] at en
        exact h e oe _ dx pn hz hd τ H en A _ fun v H' k a n => q v H' k a n
      | some i =>
        intro hl oe pn hz hd
        have en := en_un (z := z) (H := H) τ
        rw [List.length_set] at hl
        rw [hl] at en
        exact h e oe _ dx pn hz hd (τ.set i (some (.ref e))) H (en.set i (.exc r)) A _ fun v H' k a n => q v H' k a n
/-- what such a def makes of a lambda's outcome r, at the state s behind it -/
def TTd (z : Z) (r : Res) (s' : S) (d : PyData) : (XK → Hp → VK → Prop) → Hp → VK → Prop := fun tl G Q => ∃ s, At z G s ∧
  (∀ (E : XK) (Q' : VK), (match r with | .ok y => ∀ v H', Ez z G H' → At z H' s' → Da z H' v y → Q' v H' | .ex x => ∀ cls dx H', Ez z G H' → At z H' s' → XR z H' cls dx x → E cls dx H') → tl E G Q') ∧
  ∀ v H', Ez z G H' → At z H' s' → Da z H' v d → Q v H'
abbrev metCx (X : Cx) (Ng : List Str) (x : Str) (sg : Scope) (g : Addr) (cdg : Value) (s : Shared) (H : Hp) : Cx := (cxOf C8.CX0 X.prog X.w X.K X.mg X.base Ng x sg g cdg X.A X.stack s H C8.E0).nox
theorem met_gives {Ng : List Str} {m a q : Str} {sg : Scope} {g : Addr} {cdg : Value} {p1 p2 p3 p4 : Pos} {h0 : ExceptHandler} {hs : List ExceptHandler} {rest : List Stmt} {cb : List Cb} {r : Res} (nd : Ng.Nodup) (n0 : ∀ f : Addr, (L2.start Ng [V.ref f])[0]? = some (some (V.ref f))) (nl : (1 : Nat) ≤ Ng.length)
    (hh : ∀ s H, Hs (metCx X Ng m sg g cdg s H) (h0 :: hs) (cb.map (clB (metCx X Ng m sg g cdg s H))))
    (hr : ∀ s H, match r with
      | .ok _ => SR (metCx X Ng m sg g cdg s H) z rest (List.replicate Ng.length .un) s' (.rt d s')
      | .ex x => CatchAt (metCx X Ng m sg g cdg s H) z x s' d cb)
    (hsw : ∀ s H ps xe, swapsWith (.Call (.Name a p1) [] [] p2) none p3.line ((metCx X Ng m sg g cdg s H).tr ps xe).env = pure false := by intro _ _ _ _; rfl) :
    GivesTo X Ng m sg g cdg (.Try [.Expr (.Call (.Name a p1) [] [] p2) p3] (h0 :: hs) [] [] p4 :: rest) a q (TTd z r s' d) := by
  intro f c' s G Q tl act hc ask
  rcases ask with ⟨s0, A0, body, fin⟩
  refine ⟨_, pss_cons (ps_tryM (X := metCx X Ng m sg g cdg s G) (Wo := fun _ _ _ _ => False) (l := cb.map (clB (metCx X Ng m sg g cdg s G))) (tb := fun W D σ H => ∃ E : XK, (∀ cls dx σ' H', E cls dx H' → W cls dx σ' H') ∧ σ[0]? = some (some (.ref f)) ∧ H c' = some (CodeO c' q) ∧ tl E H (fun _ H' => D.nx σ H'))
      rfl rfl nd L2.takes0 (fun W ps xe tk _ => ?_) (hh s G)) wB_ok, ?_⟩
  · constructor
    intro pins s1 σ H D I told
    rcases told with ⟨E, hW, h1, h2, h3⟩
    exact (pss_one (ps_expr (pos := p3) (act W ps xe E p1 p2 tk hW) (hsw s G ps xe))).run pins s1 σ H D I ⟨h1, h2, h3⟩
  · refine ⟨fun cls dx H' => ∀ τ, clW X.K (fun _ _ _ _ => False) _ (cb.map (clB (metCx X Ng m sg g cdg s G))) cls dx τ H', fun cls dx σ' H' w => w σ', n0 f, hc, body _ _ ?_⟩
    have hr1 := hr s G
    cases r with
    | ok y =>
      intro v H' k A v1
      have en := en_un (z := z) (H := H') (L2.start Ng [V.ref f])
      have ln : (L2.start Ng [V.ref f]).length = Ng.length := by
        unfold L2.start
        simp
        omega
      rw [ln] at en
      exact hr1 _ H' en A _ fun v2 H2 k2 A2 v3 => fin v2 H2 (k.trans k2) A2 v3
    | ex x =>
      intro cls dx H' k A v1 τ
      exact catch_w (X := metCx X Ng m sg g cdg s G) hr1 v1 A (fun v2 H2 k2 A2 v3 => fin v2 H2 (k.trans k2) A2 v3) τ
end
end DL


set_option Elab.async false
set_option linter.all false
set_option maxRecDepth 100000
namespace DL
open PySem PySem.Spec PyProof.Rows L2 LamX
variable [TabT]
/-! ### f(lambda: body) as data -/
section
variable {X : Cx} {z : Z} {es : List Sl} {s s' : S} {d : PyData}
theorem takes_lam {A : Around} {outer : List Env} {sh : Shared} {H : Hp} {E : XK} {scope : Scope} {f c' : Addr} : Takes (lamCx X A outer sh H E scope f c') (WE1 E) := takes_of rfl rfl rfl rfl
/-- what is told of the code of a def that makes lambdas -/
structure LamAt (X : Cx) : Prop where
  ex : ∃ c P, TabB X.base X.mg c P ∧ X.env.code = .ref c ∧ (P, X.env.qual ++ "<lambda>") ∈ TabT.T ∧ ∀ p ∈ TabT.T, p.1 = P → p.2 = X.env.qual ++ "<lambda>"
theorem ev_lam {r : Res} {k : Nat} {m a : Str} {g : Addr} {st : Stmt} {fd : FuncData} {Ng : List Str} {params : Arguments} {body : Expr} {scope : Scope} {p lpos pos : Pos} (F : Fun X.K m m st g fd) (mx : X.mg m = some (.ref g)) (bd : Binds X.K fd [a] []) (Sg : FnScope Ng [a] (defScope st))
    (gives : ∀ cdg, GivesTo X Ng m (defScope st) g cdg (defBody st) a (X.env.qual ++ "<lambda>") (TTd z r s' d)) (LA : LamAt X) (room : Room (k + 2) X.A)
    (inner : ∀ (A : Around) (outer : List Env) (sh : Shared) (H : Hp) (E : XK) (f k' : Addr), Room k (lamCx X A outer sh H E scope f k').A → match r with
      | .ok y => EV (lamCx X A outer sh H E scope f k') z body es s y s'
      | .ex x => EX (lamCx X A outer sh H E scope f k') z (WE1 E) body es s x s')
    (L : LamS X.env.scope scope) (gl : Gl X m := by rfl) (N0 : Ng[0]? = some a := by rfl) (va : Vis (defScope st) a := by first | exact Or.inl rfl | exact Or.inr (Or.inl rfl) | exact Or.inr (Or.inr rfl)) (noDef : defaultsOf params X.env = ([], []) := by rfl)
    (none_ : ∀ (q : Str) (cl : List (Str × Addr)) (pm cv ctv : Value), bindArgs (PySem.W.kla_fn "<lambda>" q params body scope cl pm cv ctv) ⟨[], []⟩ = pure [] := by intro _ _ _ _ _; rfl)
    (hx : (m == ("__debug__" : Str)) = false := by decide) (ha : (a == ("__debug__" : Str)) = false := by decide) (hac : (a == ("__classdict__" : Str)) = false := by decide) :
    EV X z (.Call (.Name m p) [.Lambda params body scope lpos] [] pos) es s d s' := by
  obtain ⟨oc, od, kV, doc, pm, an, cdv, ct, osl, rfl, lk, cg⟩ := F.ex
  obtain ⟨c, P, TB, own, inT, one⟩ := LA.ex
  refine .mk (pe_lam (T := TabT.T) (TT := TTd z r s' d) (t := fun E σ H Q => ∀ (A : Around) (outer : List Env) (sh : Shared) (H0 : Hp) (f k' : Addr), Room k (lamCx X A outer sh H0 E scope f k').A → wE (lamCx X A outer sh H0 E scope f k') body σ H Q) gl mx F.kp lk cg bd Sg N0 va (gives cdv) TB own inT one room L noDef none_ (fun A outer sh H E f k' rm => ?_) hx ha hac) fun σ G en at_ Q q => ?_
  · exact ⟨fun pins s1 σ H1 Q I ask => wE_ok.run pins s1 σ H1 Q I (ask A outer sh H f k' rm)⟩
  · refine ⟨at_.t, fun G1 made t1 => ⟨s, made.at_ at_ t1, fun E Q' cond A outer sh H0 f k' rm => ?_, fun v H' e a n => q v H' (made.ez.trans e) a n⟩⟩
    have i1 := inner A outer sh H0 E f k' rm
    cases r with
    | ok y => exact i1 σ G1 (en.mono made.ez) (made.at_ at_ t1) Q' fun v H' e a n => cond v H' e a n
    | ex x => exact i1 σ G1 (en.mono made.ez) (made.at_ at_ t1) (fun cls dx H' e a _ xr => cond cls dx H' e a xr) Q'
end
end DL


set_option Elab.async false
set_option linter.all false
set_option maxRecDepth 100000
namespace DL
open PySem PySem.Spec PyProof.Rows L2 LamX
variable [TabT]
/-! ### a def held by a name, called -/
section
variable {X : Cx} {z : Z} {es : List Sl} {as : List Sl} {s s1 s' : S} {e : Expr} {xs : List Expr} {p pos : Pos} {E : XK} {d : PyData} {xd : XD} {k : Nat} {x : Str} {R : RelX} {f : Addr} {fd : FuncData} {ps : List Str}
theorem ex_callL (i : Nat) (O : FnOk X.prog X.w X.K X.mg X.base (L2.CX X.prog X.w) k f fd ps (spX R)) (kp : PySem.W.keepIn X.K (.ref f) = true) (hb : Binds X.K fd ps []) (tk : Takes X (WE1 E)) (hr : Room k X.A) (ha : EA X z (e :: xs) es s as s1) (hR : R as s1 (.ex xd) s') (h : es[i]? = some (.raw (.ref f)) := by rfl) (hN : X.N[i]? = some x := by rfl)
    (hv : Vis X.env.scope x := by first | exact Or.inl rfl | exact Or.inr (Or.inl rfl) | exact Or.inr (Or.inr rfl)) (hdb : (x == ("__debug__" : Str)) = false := by decide) (hcd : (x == ("__classdict__" : Str)) = false := by decide)
    (he : starEach (e :: xs) X.env = (false, eval e X.env) :: starEach xs X.env := by rfl) (hpl : (backTo pos (starEach xs X.env)).any (·.1) = false := by rfl) : EX X z (WE1 E) (.Call (.Name x p) (e :: xs) [] pos) es s xd s' := fun σ H en at_ q Q => by
  obtain ⟨y, hy, r⟩ := en.slot h
  cases r
  refine ⟨_, pe_callL (i := i) (dvs := []) (E := E) O hr hN hv kp hb .nil (passes_call tk fun _ _ _ _ w => w) wA_ok hdb hcd he hpl, hy, ha σ H en at_ _ fun vs H1 e1 a1 v1 => ?_⟩
  show spX R (vs ++ []) H1 Q E
  rw [List.append_nil]
  exact ⟨z, as, s1, .ex xd, s', hR, v1, a1, fun cls dx H' k a r => q cls dx H' (e1.trans k) a (en.mono (e1.trans k)) r⟩
theorem ev_callL (i : Nat) {CX : CXT} (O : FnOk X.prog X.w X.K X.mg X.base (L2.CX X.prog X.w) k f fd ps (spX R)) (kp : PySem.W.keepIn X.K (.ref f) = true) (hb : Binds X.K fd ps []) (hr : Room k X.A) (ha : EA X z (e :: xs) es s as s1) (hR : R as s1 (.ok d) s') (h : es[i]? = some (.raw (.ref f)) := by rfl) (hN : X.N[i]? = some x := by rfl)
    (hv : Vis X.env.scope x := by first | exact Or.inl rfl | exact Or.inr (Or.inl rfl) | exact Or.inr (Or.inr rfl)) (hdb : (x == ("__debug__" : Str)) = false := by decide) (hcd : (x == ("__classdict__" : Str)) = false := by decide)
    (he : starEach (e :: xs) X.env = (false, eval e X.env) :: starEach xs X.env := by rfl) (hpl : (backTo pos (starEach xs X.env)).any (·.1) = false := by rfl) : EV X z (.Call (.Name x p) (e :: xs) [] pos) es s d s' :=
  .mk (pe_callL (i := i) (f := f) (dvs := []) (E := fun _ _ _ => False) O hr hN hv kp hb .nil (passes_call L2.takes0 fun _ _ _ _ w => w) wA_ok hdb hcd he hpl) fun σ H en at_ Q q => by
    obtain ⟨y, hy, r⟩ := en.slot h
    cases r
    refine ⟨hy, ha σ H en at_ _ fun vs H1 e1 a1 v1 => ?_⟩
    show spX R (vs ++ []) H1 Q _
    rw [List.append_nil]
    exact ⟨z, as, s1, .ok d, s', hR, v1, a1, fun v H' k a r => q v H' (e1.trans k) a r⟩
end
end DL


set_option Elab.async false
set_option linter.all false
set_option maxRecDepth 100000
namespace DL
open PySem PySem.Spec PyProof.Rows L2 LamX
variable [TabT]
/-! ### for f in (g, h, ..): defs of the top -/
section
variable {z : Z} {Hc H : Hp} {vol : List (Addr × HO)} {σ : L2.St} {es : List Sl} {s : S}
theorem get_set {α : Type} {l : List α} {i j : Nat} {a b : α} (h : (l.set i a)[j]? = some b) (n : b ≠ a) : l[j]? = some b ∧ i ≠ j := by
  rw [List.getElem?_set] at h
  by_cases e : i = j
  · rw [if_pos e] at h
    split at h
    · exact absurd (Option.some.inj h).symm n
    · cases h
  · rw [if_neg e] at h
    exact ⟨h, e⟩
theorem OI.setR (I : OI z Hc H vol σ es s) (i : Nat) (v : V) : OI z Hc H vol (σ.set i (some v)) (es.set i (.raw v)) s := by
  refine ⟨I.new, I.nd, I.base, I.at_, I.en.set i .raw, I.ez, fun j ds p h1 h2 => ?_, fun j k ds ds' p ne h1 h2 h3 h4 => ?_⟩
  · obtain ⟨h1, ij⟩ := get_set h1 (fun e => by cases e)
    rw [List.getElem?_set_ne ij] at h2
    exact I.far j ds p h1 h2
  · obtain ⟨h1, ij⟩ := get_set h1 (fun e => by cases e)
    obtain ⟨h2, ik⟩ := get_set h2 (fun e => by cases e)
    rw [List.getElem?_set_ne ij] at h3
    rw [List.getElem?_set_ne ik] at h4
    exact I.two j k ds ds' p ne h1 h2 h3 h4
end
section
variable {X : Cx} {es : List Sl} {s : S} {o : Out} {rest body : List Stmt} {xs : List Expr} {pos p p1 : Pos} {kt : Nat}
theorem so_forFn (l : Nat) {x : Str} {fs : List Addr} (hp : PassesOwn (model X.prog X.w) X.A X.env X.xe) (hc : X.calm = true) (hN : X.N.Nodup) (hA : PA X xs (fun σ H Q => Q (fs.map V.ref) H)) (hl : fs.length ≤ 100000) (E : Nat → List Sl) (T : Nat → S) (h0 : Le es (E 0)) (t0 : T 0 = s)
    (hb : ∀ (i : Nat) f, fs[i]? = some f → SO X body ((E i).set l (.raw (.ref f))) (T i) (.nx (E (i + 1)) (T (i + 1)))) (k : SO X rest (E fs.length) (T fs.length) o)
    (hi : X.N[l]? = some x := by rfl) (hx : Loc X.env.scope x := by first | exact Or.inl rfl | exact Or.inr rfl) (hf : X.fn x = true ∨ X.env.scope.names.lookup x = some .local := by first | exact .inl rfl | exact .inr rfl) (hfo : ∀ x, foldedSetIterable (.Tuple xs kt p1) X.env x = pure x := by intro _; rfl) :
    SO X (.For (.Name x p) (.Tuple xs kt p1) body [] pos :: rest) es s o := fun z Hc H vol σ I D q =>
  ⟨_, pss_cons (ps_for hp hc (pi_tup (pe_tup hA)) (pg_name hN hi hx hf) wB_ok hfo) wB_ok, by
    refine ⟨by rw [List.length_map]; exact Nat.le_trans hl (by decide), fun a na => ?_⟩
    have fa := I.at_.fresh na
    have e1 : Ez (z.own vol) H (upd H a (.tup (fs.map V.ref))) := .new na
    obtain ⟨I2, back⟩ := (I.step e1 (I.at_.new na)).reb
    subst t0
    refine ⟨a, rfl, ⟨fs.map V.ref, .inl (.inl upd_same)⟩, for_tup (xs := fs.map V.ref) (fun i σ' H' => ∃ vol', OI z (cutH (upd H a (.tup (fs.map V.ref))) vol) H' vol' σ' (E i) (T i)) ⟨vol, I2.le h0⟩ (fun i σ' H' _ w => ?_) (fun i v σ' H' hv w => ?_) fun σ' H' w => ?_⟩
    · obtain ⟨vol', w⟩ := w
      exact .inl (.inl (w.stillH fa upd_same))
    · obtain ⟨vol', w⟩ := w
      rw [List.getElem?_map] at hv
      obtain ⟨f, hf1, rfl⟩ := Option.map_eq_some_iff.mp hv
      exact hb i f hf1 z _ _ vol' _ (w.setR l (.ref f)) _ fun vol3 σ3 H3 I3 => ⟨vol3, I3⟩
    · obtain ⟨vol', w⟩ := w
      rw [List.length_map] at w
      exact k z Hc H' vol' σ' (back _ _ _ _ _ w) D q⟩
end
end DL


set_option Elab.async false
set_option linter.all false
set_option maxRecDepth 100000
namespace DL
open PySem PySem.Spec PyProof.Rows L2 LamX
variable [TabT]
/-! ### defs of which one knows too that no repr is under way where they run -/
structure RoomG (k : Nat) (A : Around) : Prop where
  r : Room k A
  g : A.guards = some []
theorem RoomG.mono {j k : Nat} {A : Around} (r : RoomG k A) (h : j ≤ k) : RoomG j A := ⟨r.r.mono h, r.g⟩
structure FnG (P : Program) (w : World) (K : PySem.W.Frag) (mg : Str → Option Value) (base : Heap) (CX : CXT) (k : Nat) (f : Addr) (fd : FuncData) (ps : List Str) (sp : Sp) : Prop where
  len : ∀ vs H Q E, sp vs H Q E → vs.length = ps.length
  go : ∀ (A : Around) (outer : List Env) (s : Shared) (H : Hp) (args : Args) (us : List Value) (vs : List V) (Q : VK) (E : XK), RoomG k A → Env0 P w K mg base A outer s H → BindsTo s fd args (ps.zip us) → Vals vs us → sp vs H Q E → codeAny (model P w) A (.call (.ref f) args) (CR CX outer P w H s Q E) s
section
variable {P : Program} {w : World} {K : PySem.W.Frag} {mg : Str → Option Value} {base : Heap}
theorem fng_of {x qual : Str} {st : Stmt} {f : Addr} {fd : FuncData} {N ps : List Str} {k : Nat} {sp : Sp} (F : Fun K x qual st f fd) (Sc : FnScope N ps (defScope st)) (len : ∀ vs H Q E, sp vs H Q E → vs.length = ps.length)
    (hb : ∀ (cdv : Value) (A : Around) (outer : List Env) (s : Shared) (H : Hp) (vs : List V) (Q : VK) (E : XK), RoomG k (A.deeper (envOfC qual (defScope st) s.heap.objs.size f cdv)) → sp vs H Q E →
      ∃ t, PSs (cxOf CX0 P w K mg base N qual (defScope st) f cdv A outer s H E).nox (defBody st) t ∧ t { nx := fun _ H' => Q .non H', rt := Q } (L2.start N vs) H) : FnG P w K mg base CX0 (k + 1) f fd ps sp := by
  obtain ⟨oc, od, kV, doc, pm, an, cdv, ct, osl, rfl, lk, hcd⟩ := F.ex
  refine ⟨len, fun A outer s H args us vs Q E room e0 bd vals told => run_ofS lk hcd Sc room.r e0 bd vals (len _ _ _ _ told) fun room1 => ?_⟩
  obtain ⟨t, pt, qt⟩ := hb cdv A outer s H vs Q E ⟨room1, room.g⟩ told
  exact ⟨t, pt.nox, qt⟩
/-- what stands around such a def's body -/
structure CtxG (X : Cx) (k : Nat) (N : List Str) : Prop extends Ctx X k N where
  gd : X.A.guards = some []
theorem okDG {x qual : Str} {st : Stmt} {f : Addr} {fd : FuncData} {N ps : List Str} {k : Nat} {R : Rel} (F : Fun K x qual st f fd) (Sc : FnScope N ps (defScope st)) (hl : ∀ as s d s', R as s d s' → as.length = ps.length) (hn : ∀ as s d s', R as s d s' → ∀ ds, Sl.own ds ∉ as)
    (hb : ∀ cdv A outer s0 H0 E, CtxG (cxOf CX0 P w K mg base N qual (defScope st) f cdv A outer s0 H0 E).nox k N → ∀ as s d s', R as s d s' → SO (cxOf CX0 P w K mg base N qual (defScope st) f cdv A outer s0 H0 E).nox (defBody st) (as ++ List.replicate (N.length - as.length) .un) s (.rt d s')) :
    FnG P w K mg base CX0 (k + 1) f fd ps (spD R) := by
  refine fng_of F Sc (fun vs H Q E h => ?_) (fun cdv A outer s0 H0 vs Q E room h => ?_)
  · obtain ⟨z, as, s, d, s', hR, en, _⟩ := h
    have := en.length
    rw [List.length_map] at this
    rw [this]
    exact hl _ _ _ _ hR
  · obtain ⟨z, as, s, d, s', hR, en, at_, q⟩ := h
    have e1 : vs.length = as.length := by
      have := en.length
      rwa [List.length_map] at this
    have C : CtxG (cxOf CX0 P w K mg base N qual (defScope st) f cdv A outer s0 H0 E).nox k N := ⟨⟨Sc.nd, rfl, PassesOwn.never, room.r, room.r.units⟩, room.g⟩
    have no : ∀ (i : Nat) (ds : List PyData), (as ++ List.replicate (N.length - as.length) Sl.un)[i]? ≠ some (.own ds) := fun i ds h => by
      rcases List.mem_append.mp (List.mem_of_getElem? h) with m | m
      · exact hn _ _ _ _ hR ds m
      · have := (List.mem_replicate.mp m).2
        cases this
    have I : OI z H0 H0 [] (L2.start N vs) (as ++ List.replicate (N.length - as.length) .un) s := {
      new := fun q h => by cases h
      nd := List.nodup_nil
      base := fun q h => by
        rw [at_.v q h]
        exact fun e => by cases e
      at_ := at_
      en := by
        unfold L2.start
        rw [e1]
        exact en.app (.uns _)
      ez := .refl _
      far := fun i ds p h => absurd h (no i ds)
      two := fun i j ds ds' p _ h => absurd h (no i ds) }
    exact ⟨_, wB_ok, hb cdv A outer s0 H0 E C as s d s' hR z H0 H0 [] _ I { nx := fun _ H' => Q .non H', rt := Q } fun v H' k a n => q v H' k a n⟩
/-- the name x stands for such a def -/
def Dg (P : Program) (w : World) (K : PySem.W.Frag) (mg : Str → Option Value) (base : Heap) (k : Nat) (x : Str) (R : Rel) : Prop := ∃ f fd ps, FnG P w K mg base CX0 k f fd ps (spD R) ∧ mg x = some (.ref f) ∧ PySem.W.keepIn K (.ref f) = true ∧ Binds K fd ps []
theorem dg_of {x qual : Str} {st : Stmt} {f : Addr} {fd : FuncData} {ps : List Str} {k : Nat} {R : Rel} (F : Fun K x qual st f fd) (O : FnG P w K mg base CX0 k f fd ps (spD R)) (hm : mg x = some (.ref f)) (hb : Binds K fd ps []) : Dg P w K mg base k x R := ⟨f, fd, ps, O, hm, F.kp, hb⟩
end
section
variable {X : Cx} {z : Z} {es as : List Sl} {s s1 s' : S} {e : Expr} {xs : List Expr} {p pos : Pos} {d : PyData} {k : Nat} {x : Str}
theorem pe_callG {f : Addr} {fd : FuncData} {ps : List Str} {sp : Sp} {t : TA} (F : FnG X.prog X.w X.K X.mg X.base CX0 k f fd ps sp) (room : RoomG k X.A) (gl : Gl X x) (mx : X.mg x = some (.ref f)) (kp : PySem.W.keepIn X.K (.ref f) = true) (bd : Binds X.K fd ps []) (ha : PA X (e :: xs) t)
    (hdb : (x == ("__debug__" : Str)) = false := by decide) (he : starEach (e :: xs) X.env = (false, eval e X.env) :: starEach xs X.env := by rfl) (hpl : (backTo pos (starEach xs X.env)).any (·.1) = false := by rfl) : PE X (.Call (.Name x p) (e :: xs) [] pos) (fun σ H Q => t σ H fun vs H1 => sp vs H1 Q fun _ _ _ => False) := by
  constructor
  intro pins s σ H Q I ask
  refine wpAny_Call_Name_kw (ld_glob I gl mx (PySem.W.callWith_K (h₀ := X.base) I.ok.mod.kin kp (thn (ha.run pos pins s σ H _ I ask) fun us s1 ⟨vs, H1, J, vals, told⟩ => ⟨J.kIn, ?_⟩) he hpl) hdb)
  have len : us.length = ps.length := vals.length.symm.trans (F.len _ _ _ _ told)
  have b := bd s1 us J.kIn (by rw [List.append_nil]; exact len)
  rw [List.append_nil] at b
  refine wpAny_call (codeAny_mono (F.go X.A X.stack s1 H1 ⟨us, []⟩ us vs Q _ room J.env0 b vals told) fun r s2 done => ?_)
  cases r with
  | error e => exact (show False from done).elim
  | ok fl =>
    cases fl with
    | ret u => exact J.after done
    | _ => exact (show False from done).elim
theorem ev_callG {R : Rel} (G : Dg X.prog X.w X.K X.mg X.base k x R) (room : RoomG k X.A) (ha : EA X z (e :: xs) es s as s1) (hR : R as s1 d s') (gl : Gl X x := by rfl) (hdb : (x == ("__debug__" : Str)) = false := by decide)
    (he : starEach (e :: xs) X.env = (false, eval e X.env) :: starEach xs X.env := by rfl) (hpl : (backTo pos (starEach xs X.env)).any (·.1) = false := by rfl) : EV X z (.Call (.Name x p) (e :: xs) [] pos) es s d s' := by
  obtain ⟨f, fd, ps, F, hm, hk, hb⟩ := G
  exact .mk (pe_callG F room gl hm hk hb wA_ok hdb he hpl) fun σ H en at_ Q q => ha σ H en at_ _ fun vs H1 e1 a1 v1 => ⟨z, as, s1, d, s', hR, v1, a1, fun v H' e2 a2 v2 => q v H' (e1.trans e2) a2 v2⟩
/-! ### repr -/
/-- data whose repr is told -/
structure Shw (d : PyData) : Prop where
  n : nod d = true
  s : d.showable = true
  h : d.hasDict = false
  k : d.depth ≤ 64
  z : d.shown.length ≤ sizeLine
def rRepr (K : PySem.W.Frag) : List V → Hp → VK → Prop := fun vs H Q => ∃ v d, vs = [v] ∧ Dp K H v d ∧ Shw d ∧ Q (.str d.shown) H
theorem cr_repr (hg : X.A.guards = some []) (hu : X.A.units + 66 < cLine) : CallR X (.builtin "repr") (rRepr X.K) := by
  intro pins s σ H vs us Q I r h
  obtain ⟨v, d, rfl, hv, w, q⟩ := h
  cases r with
  | @cons _ u _ _ ru r =>
    cases r
    obtain ⟨as, rd⟩ := Dp.reads I d v u hv ru
    have k := w.k
    cases hv with
    | non =>
      cases ru
      exact PySem.P.repr_of_none ⟨.str _, H, I.tok _, ⟨_, rfl⟩, q⟩
    | bl b =>
      cases ru
      exact PySem.P.repr_of_bool ⟨.str _, H, I.tok _, ⟨_, rfl⟩, by cases b <;> exact q⟩
    | int i =>
      obtain ⟨t, rfl⟩ := ru
      exact PySem.P.repr_of_int (by have := w.s; simpa [PyData.showable] using this) ⟨.str _, H, I.tok _, ⟨_, rfl⟩, q⟩
    | str x =>
      obtain ⟨t, rfl⟩ := ru
      exact PySem.P.repr_of_str (hsz := w.z) ⟨.str _, H, I.tok _, ⟨_, rfl⟩, q⟩
    | lst a b =>
      cases ru
      exact repr_of_reads' rd w.s (PyData.noDict_hsm w.h) hg (by omega) (fun _ _ e => e) (fun h' u tk kept => ⟨.str _, H, I.kept kept, ⟨_, rfl⟩, q⟩) w.z
    | tup a b =>
      cases ru
      exact repr_of_reads' rd w.s (PyData.noDict_hsm w.h) hg (by omega) (fun _ _ e => e) (fun h' u tk kept => ⟨.str _, H, I.kept kept, ⟨_, rfl⟩, q⟩) w.z
theorem ev_repr (hg : X.A.guards = some []) (hu : X.A.units + 66 < cLine) (hm : X.mg "repr" = none) (w : Shw d) (h : EV X z e es s d s1) (gl : Gl X "repr" := by rfl) (he : starEach [e] X.env = (false, eval e X.env) :: starEach [] X.env := by rfl) (hpl : (backTo pos (starEach [] X.env)).any (·.1) = false := by rfl) :
    EV X z (.Call (.Name "repr" p) [e] [] pos) es s (.str d.shown) s1 :=
  .mk (pe_callB (cr_repr hg hu) gl hm (by decide +kernel) (pa_cons wE_ok pa_nil he) (by decide) (by decide) he hpl) fun σ H en at_ Q q => h σ H en at_ _ fun v H1 e1 a1 v1 => ⟨v, d, rfl, v1.dp w.n, w, q _ H1 e1 a1 (.str _)⟩
end
end DL


set_option Elab.async false
set_option linter.all false
set_option maxRecDepth 100000
namespace DL
open PySem PySem.Spec PyProof.Rows L2 LamX
variable [TabT]
/-! ### repr({}) -/
section
variable {X : Cx} {z : Z} {es : List Sl} {s s1 : S} {e : Expr} {p pos : Pos}
theorem cr_reprE (hg : X.A.guards = some []) (hu : X.A.units + 66 < cLine) : CallR X (.builtin "repr") (fun vs H Q => ∃ a, vs = [.ref a] ∧ H a = some (.dK []) ∧ Q (.str (PyData.dict []).shown) H) := by
  intro pins s σ H vs us Q I r h
  obtain ⟨a, rfl, ha, q⟩ := h
  cases r with
  | cons ru r =>
    cases r
    cases ru
    have ok : ObjOk X.prog X.w H s.heap a (.dK []) := I.hok a _ ha
    obtain ⟨_, nsys, ws, kv, o, en, ep, ho, ex, hd, _, prs, _⟩ := ok
    cases kv
    have e0 : en.toList = [] := by
      cases hh : en.toList with
      | nil => rfl
      | cons x l =>
        rw [hh] at prs
        cases prs
    have rd : Reads s.heap (.ref a) (.dict []) (a :: [] ++ []) := .dict ho ex.1 hd (by rw [e0]; exact .nil) (by rw [e0]; exact .nil)
    refine repr_of_reads' rd (by rfl) (fun _ m => ?_) hg (by simp only [PyData.depth, PyData.depthKv]; omega) (fun _ _ e => e) (fun h' u tk kept => ⟨.str _, H, I.kept kept, ⟨_, rfl⟩, q⟩) (by decide +kernel)
    have em : sysModules = a := by simpa using m
    rw [em] at nsys
    simp at nsys
theorem ev_reprE (hg : X.A.guards = some []) (hu : X.A.units + 66 < cLine) (hm : X.mg "repr" = none) (h : EV X z e es s (.dict []) s1) (gl : Gl X "repr" := by rfl) (he : starEach [e] X.env = (false, eval e X.env) :: starEach [] X.env := by rfl) (hpl : (backTo pos (starEach [] X.env)).any (·.1) = false := by rfl) :
    EV X z (.Call (.Name "repr" p) [e] [] pos) es s (.str (PyData.dict []).shown) s1 :=
  .mk (pe_callB (cr_reprE hg hu) gl hm (by decide +kernel) (pa_cons wE_ok pa_nil he) (by decide) (by decide) he hpl) fun σ H en at_ Q q => h σ H en at_ _ fun v H1 e1 a1 v1 => by
    cases v1 with
    | @dkv a kvs ks ds _ f hd hk r he =>
      have l1 := congrArg List.length he
      have l2 := congrArg List.length hk
      have l3 := r.length
      simp only [List.length_nil, List.length_zip, List.length_map] at l1 l2 l3
      have : kvs = [] := List.eq_nil_of_length_eq_zero (by omega)
      subst this
      exact ⟨_, rfl, hd, q _ H1 e1 a1 (.str _)⟩
    | odd n h r => cases r
/-- of either kind -/
def ShwE (d : PyData) : Prop := Shw d ∨ d = .dict []
theorem ev_reprD {d : PyData} (hg : X.A.guards = some []) (hu : X.A.units + 66 < cLine) (hm : X.mg "repr" = none) (w : ShwE d) (h : EV X z e es s d s1) (gl : Gl X "repr" := by rfl) (he : starEach [e] X.env = (false, eval e X.env) :: starEach [] X.env := by rfl) (hpl : (backTo pos (starEach [] X.env)).any (·.1) = false := by rfl) :
    EV X z (.Call (.Name "repr" p) [e] [] pos) es s (.str d.shown) s1 := by
  rcases w with w | rfl
  · exact ev_repr hg hu hm w h gl he hpl
  · exact ev_reprE hg hu hm h gl he hpl
end
end DL


set_option Elab.async false
set_option linter.all false
set_option maxRecDepth 100000
namespace DL
open PySem PySem.Spec PyProof.Rows L2 LamX
variable [TabT]
/-! ### a def whose code object is known: it makes lambdas -/
structure FunC (K : PySem.W.Frag) (x qual : Str) (st : Stmt) (f : Addr) (fd : FuncData) (cdv : Value) : Prop where
  ex : ∃ (oc : Value) (od : Option Addr) (kV doc pm : Value) (an : Option Addr) (ct : Value) (osl : Array (Option Value)), fd = PySem.W.fnOf x qual (defArgs st) (defBody st) (defScope st) .none kV doc pm an cdv ct ∧ K.lookup f = some ⟨oc, od, .func fd, osl⟩ ∧ PySem.W.codeIn K cdv qual = true
  kp : PySem.W.keepIn K (.ref f) = true
section
variable {P : Program} {w : World} {K : PySem.W.Frag} {mg : Str → Option Value} {base : Heap}
theorem FunC.fn {x qual : Str} {st : Stmt} {f : Addr} {fd : FuncData} {cdv : Value} (F : FunC K x qual st f fd cdv) : Fun K x qual st f fd := by
  obtain ⟨oc, od, kV, doc, pm, an, ct, osl, e, lk, hcd⟩ := F.ex
  exact ⟨⟨oc, od, kV, doc, pm, an, cdv, ct, osl, e, lk, hcd⟩, F.kp⟩
theorem fng_ofC {x qual : Str} {st : Stmt} {f : Addr} {fd : FuncData} {cdv : Value} {N ps : List Str} {k : Nat} {sp : Sp} (F : FunC K x qual st f fd cdv) (Sc : FnScope N ps (defScope st)) (len : ∀ vs H Q E, sp vs H Q E → vs.length = ps.length)
    (hb : ∀ (A : Around) (outer : List Env) (s : Shared) (H : Hp) (vs : List V) (Q : VK) (E : XK), RoomG k (A.deeper (envOfC qual (defScope st) s.heap.objs.size f cdv)) → sp vs H Q E →
      ∃ t, PSs (cxOf CX0 P w K mg base N qual (defScope st) f cdv A outer s H E).nox (defBody st) t ∧ t { nx := fun _ H' => Q .non H', rt := Q } (L2.start N vs) H) : FnG P w K mg base CX0 (k + 1) f fd ps sp := by
  obtain ⟨oc, od, kV, doc, pm, an, ct, osl, rfl, lk, hcd⟩ := F.ex
  refine ⟨len, fun A outer s H args us vs Q E room e0 bd vals told => run_ofS lk hcd Sc room.r e0 bd vals (len _ _ _ _ told) fun room1 => ?_⟩
  obtain ⟨t, pt, qt⟩ := hb A outer s H vs Q E ⟨room1, room.g⟩ told
  exact ⟨t, pt.nox, qt⟩
theorem okDGC {x qual : Str} {st : Stmt} {f : Addr} {fd : FuncData} {cdv : Value} {N ps : List Str} {k : Nat} {R : Rel} (F : FunC K x qual st f fd cdv) (Sc : FnScope N ps (defScope st)) (hl : ∀ as s d s', R as s d s' → as.length = ps.length) (hn : ∀ as s d s', R as s d s' → ∀ ds, Sl.own ds ∉ as)
    (hb : ∀ A outer s0 H0 E, CtxG (cxOf CX0 P w K mg base N qual (defScope st) f cdv A outer s0 H0 E).nox k N → ∀ as s d s', R as s d s' → SO (cxOf CX0 P w K mg base N qual (defScope st) f cdv A outer s0 H0 E).nox (defBody st) (as ++ List.replicate (N.length - as.length) .un) s (.rt d s')) :
    FnG P w K mg base CX0 (k + 1) f fd ps (spD R) := by
  refine fng_ofC F Sc (fun vs H Q E h => ?_) (fun A outer s0 H0 vs Q E room h => ?_)
  · obtain ⟨z, as, s, d, s', hR, en, _⟩ := h
    have := en.length
    rw [List.length_map] at this
    rw [this]
    exact hl _ _ _ _ hR
  · obtain ⟨z, as, s, d, s', hR, en, at_, q⟩ := h
    have e1 : vs.length = as.length := by
      have := en.length
      rwa [List.length_map] at this
    have C : CtxG (cxOf CX0 P w K mg base N qual (defScope st) f cdv A outer s0 H0 E).nox k N := ⟨⟨Sc.nd, rfl, PassesOwn.never, room.r, room.r.units⟩, room.g⟩
    have no : ∀ (i : Nat) (ds : List PyData), (as ++ List.replicate (N.length - as.length) Sl.un)[i]? ≠ some (.own ds) := fun i ds h => by
      rcases List.mem_append.mp (List.mem_of_getElem? h) with m | m
      · exact hn _ _ _ _ hR ds m
      · have := (List.mem_replicate.mp m).2
        cases this
    have I : OI z H0 H0 [] (L2.start N vs) (as ++ List.replicate (N.length - as.length) .un) s := {
      new := fun q h => by cases h
      nd := List.nodup_nil
      base := fun q h => by
        rw [at_.v q h]
        exact fun e => by cases e
      at_ := at_
      en := by
        unfold L2.start
        rw [e1]
        exact en.app (.uns _)
      ez := .refl _
      far := fun i ds p h => absurd h (no i ds)
      two := fun i j ds ds' p _ h => absurd h (no i ds) }
    exact ⟨_, wB_ok, hb A outer s0 H0 E C as s d s' hR z H0 H0 [] _ I { nx := fun _ H' => Q .non H', rt := Q } fun v H' k a n => q v H' k a n⟩
end
end DL


set_option Elab.async false
set_option linter.all false
set_option maxRecDepth 100000
namespace DL
open PySem PySem.Spec PyProof.Rows L2
variable [TabT]
/-- o at a tells an error of the class at C, whose dict is at dx -/
def ErrO (o : HO) (a C : Addr) (dx : Option Addr) : Prop := ∀ (P : Program) (w : World) (H : Hp) (h : Heap), ObjOk P w H h a o → ∃ oe vs, h.get? a = some oe ∧ Zc (.ref C) dx oe ∧ oe.data = .fields vs
/-- something stands there -/
def Stands (o : HO) (a : Addr) : Prop := ∀ (P : Program) (w : World) (H : Hp) (h : Heap), ObjOk P w H h a o → ∃ ob, h.get? a = some ob
theorem errO_exO {a C : Addr} : ErrO (ExO (.ref C) a) a C none := fun P w H h k => by
  obtain ⟨⟨oe, vs, e, zc, d, _⟩, _⟩ := k
  exact ⟨oe, vs, e, zc, d⟩
theorem errO_exo {a C : Addr} {dx : Option Addr} : ErrO (exo a C dx) a C dx := fun P w H h k => by
  obtain ⟨⟨t1, e⟩, _⟩ := k
  exact ⟨_, _, e, ⟨rfl, rfl⟩, rfl⟩
theorem errO_frz {a C : Addr} {dx : Option Addr} {oe : Obj} {u : HO} (zc : Zc (.ref C) dx oe) (hd : ∃ vs, oe.data = .fields vs) : ErrO (.frz oe u) a C dx := fun P w H h k => by
  obtain ⟨vs, hd⟩ := hd
  exact ⟨oe, vs, k.1, zc, hd⟩
theorem stands_exd {dx : Addr} {fs : List (Str × V)} : Stands (exd dx fs) dx := fun P w H h k => k.2.1
theorem stands_xd {dx : Addr} {fs : List (Str × V)} : Stands (.xd fs) dx := fun P w H h k => by
  obtain ⟨_, ⟨ob, _, _, e, _⟩, _⟩ := k
  exact ⟨ob, e⟩
/-- z tells of an error of the class at C that stands at a -/
inductive XAt (z : Z) (a C : Addr) : Prop
  | pl {o : HO} : (a, o) ∈ z.vol → ErrO o a C none → XAt z a C
  | wf {o od : HO} {dx : Addr} : (a, o) ∈ z.vol → ErrO o a C (some dx) → (dx, od) ∈ z.vol → Stands od dx → XAt z a C
theorem XAt.is {z : Z} {a C : Addr} {H : Hp} {s : S} (x : XAt z a C) (A : At z H s) : IsErr H a C := fun P w h ok => by
  cases x with
  | pl m e =>
    obtain ⟨oe, vs, h1, h2, h3⟩ := e P w H h (ok _ _ (A.v _ m))
    obtain ⟨oc, odi, oda, osl⟩ := oe
    obtain ⟨q1, q2⟩ := h2
    dsimp only at q1 q2 h3
    subst q1 q2 h3
    exact ⟨_, none, h1, rfl, rfl, trivial⟩
  | wf m e m2 st =>
    obtain ⟨oe, vs, h1, h2, h3⟩ := e P w H h (ok _ _ (A.v _ m))
    obtain ⟨ob, h4⟩ := st P w H h (ok _ _ (A.v _ m2))
    obtain ⟨oc, odi, oda, osl⟩ := oe
    obtain ⟨q1, q2⟩ := h2
    dsimp only at q1 q2 h3
    subst q1 q2 h3
    exact ⟨_, some ob, h1, rfl, rfl, h4⟩
/-- z with more that stands still -/
abbrev Z.more (z : Z) (nv : List (Addr × HO)) : Z := ⟨z.dice, nv ++ z.vol⟩
theorem XAt.more {z : Z} {a C : Addr} (nv : List (Addr × HO)) (x : XAt z a C) : XAt (z.more nv) a C := by
  cases x with
  | pl m e => exact .pl (List.mem_append_right _ m) e
  | wf m e m2 st => exact .wf (List.mem_append_right _ m) e (List.mem_append_right _ m2) st
theorem Fz.less {z : Z} {nv : List (Addr × HO)} {a : Addr} (f : Fz (z.more nv) a) : Fz z a := ⟨f.1, fun o m => f.2 o (List.mem_append_right _ m)⟩
theorem Fz.more {z : Z} {nv : List (Addr × HO)} {a : Addr} (f : Fz z a) (n : ∀ p ∈ nv, p.1 ≠ a) : Fz (z.more nv) a := ⟨f.1, fun o m => by
  rcases List.mem_append.mp m with m | m
  · exact absurd rfl (n _ m)
  · exact f.2 o m⟩
/-- more is told of: the new things weren't there -/
structure New (z : Z) (H H' : Hp) (s : S) (nv : List (Addr × HO)) : Prop where
  no : ∀ p ∈ nv, H p.1 = none
  up : ∀ b o, H b = some o → H' b = some o
  at_ : At (z.more nv) H' s
section
variable {z : Z} {H H' H2 : Hp} {s s' : S} {nv : List (Addr × HO)}
theorem New.fz {a : Addr} {o : HO} (N : New z H H' s nv) (f : Fz z a) (h : H a = some o) : Fz (z.more nv) a ∧ H' a = some o := by
  refine ⟨f.more fun p m e => ?_, N.up _ _ h⟩
  have := N.no p m
  rw [e, h] at this
  cases this
theorem New.en {σ : L2.St} {es : List Sl} (N : New z H H' s nv) (en : En z H σ es) : En (z.more nv) H' σ es := en.re (z := z) (z' := z.more nv) rfl (fun q m => List.mem_append_right _ m) fun a o f h => N.fz f h
theorem New.da {v : V} {d : PyData} (N : New z H H' s nv) (h : Da z H v d) : Da (z.more nv) H' v d := h.re fun a o f h => N.fz f h
/-- behind it, seen from ahead -/
theorem New.ez (N : New z H H' s nv) (k : Ez (z.more nv) H' H2) : Ez z H H2 := fun a o f h => k a o (N.fz f h).1 (N.fz f h).2
theorem New.less {H2 : Hp} (A : At (z.more nv) H2 s') : At z H2 s' := ⟨A.d, fun p m => A.v p (List.mem_append_right _ m), fun p m => A.n p (List.mem_append_right _ m), A.t⟩
theorem da_less {v : V} {d : PyData} (h : Da (z.more nv) H2 v d) : Da z H2 v d := h.re fun a o f e => ⟨f.less, e⟩
theorem New.meets {D : Ends} {d : PyData} {s2 : S} (N : New z H H' s nv) (M : Meets z H D (.rt d s2)) : Meets (z.more nv) H' D (.rt d s2) := fun v H2 k a r => M v H2 (N.ez k) (New.less a) (da_less r)
/-- one more -/
theorem At.tell {a : Addr} {o : HO} (A : At z H s) (h : H a = none) (n : NT o) : New z H (upd H a o) s [(a, o)] where
  no := fun p m => by
    obtain rfl := List.mem_singleton.mp m
    exact h
  up := fun b u e => by
    rw [upd_ne (ne_of_none e h)]
    exact e
  at_ := by
    refine ⟨(A.new h).d, fun p m => ?_, fun p m => ?_, (A.new h).t⟩
    · rcases List.mem_cons.mp m with rfl | m
      · exact upd_same
      · exact (A.new h).v p m
    · rcases List.mem_cons.mp m with rfl | m
      · refine ⟨fun e => ?_, n⟩
        have := A.d _ e
        rw [h] at this
        cases this
      · exact A.n p m
theorem New.nil (A : At z H s) : New z H H s [] := ⟨fun _ m => (by cases m), fun _ _ e => e, A⟩
theorem New.trans {nv2 : List (Addr × HO)} {s2 : S} (N : New z H H' s nv) (N2 : New (z.more nv) H' H2 s2 nv2) : New z H H2 s2 (nv2 ++ nv) where
  no := fun p m => by
    rcases List.mem_append.mp m with m | m
    · cases e : H p.1 with
      | none => rfl
      | some o =>
        have := N2.no p m
        rw [N.up _ _ e] at this
        cases this
    · exact N.no p m
  up := fun b o e => N2.up b o (N.up b o e)
  at_ := by
    have := N2.at_
    unfold Z.more at this ⊢
    rw [List.append_assoc]
    exact this
/-- an expression in between that only adds -/
theorem New.pre (up : ∀ b o, H b = some o → H' b = some o) (N : New z H' H2 s nv) : New z H H2 s nv := by
  refine ⟨fun p m => ?_, fun b o e => N.up b o (up b o e), N.at_⟩
  cases e : H p.1 with
  | none => rfl
  | some o =>
    have := N.no p m
    rw [up _ _ e] at this
    cases this
end

/-! ### isinstance -/
section
variable {X : Cx} {z : Z} {es : List Sl} {s : S} {a C D : Addr} {x y : Str} {b : Bool} {p0 p1 p2 pos : Pos} {T : String}
theorem ev_isO (i : Nat) (hx : XAt z a C) (hC : ExcC X.K C) (hm : X.mg "isinstance" = none) (hy : X.mg y = some (.ref D)) (ek : PySem.W.kitOne X.K (.ref C) (.ref D) = some b) (h : es[i]? = some (.raw (.ref a)) := by rfl) (hN : X.N[i]? = some x := by rfl) (hv : Vis X.env.scope x := by first | exact Or.inl rfl | exact Or.inr (Or.inl rfl) | exact Or.inr (Or.inr rfl))
    (hd : (x == ("__debug__" : Str)) = false := by decide) (hcd : (x == ("__classdict__" : Str)) = false := by decide) (hdy : (y == ("__debug__" : Str)) = false := by decide) (hg : Gl X "isinstance" := by rfl) (hgy : Gl X y := by rfl)
    (hs : starEach [.Name x p1, .Name y p2] X.env = (false, eval (.Name x p1) X.env) :: starEach [.Name y p2] X.env := by rfl) (hs2 : starEach [.Name y p2] X.env = (false, eval (.Name y p2) X.env) :: starEach [] X.env := by rfl) (hpl : (backTo pos (starEach [.Name y p2] X.env)).any (·.1) = false := by rfl) :
    EV X z (.Call (.Name "isinstance" p0) [.Name x p1, .Name y p2] [] pos) es s (.bool b) s :=
  .mk (pe_callB cr_isX hg hm (by decide +kernel) (pa_cons (pe_var hN hv hd hcd) (pa_cons (pe_glob (v := .ref D) hgy hy rfl hdy) pa_nil hs2) hs) (by decide) (by decide) hs hpl) fun σ H en at_ Q q => by
    obtain ⟨u, hu, r⟩ := en.slot h
    cases r
    exact ⟨.ref a, hu, a, C, .ref D, .ref D, b, rfl, hx.is at_, hC, fun u e => e, ek, q _ H (.refl H) at_ (.bl b)⟩
theorem ev_isB (i : Nat) (hx : XAt z a C) (hC : ExcC X.K C) (hm : X.mg "isinstance" = none) (hy : X.mg y = none) (ek : PySem.W.kitOne X.K (.ref C) (.type T) = some b) (hvy : bootBuiltins y = some (.type T) := by decide +kernel) (h : es[i]? = some (.raw (.ref a)) := by rfl) (hN : X.N[i]? = some x := by rfl) (hv : Vis X.env.scope x := by first | exact Or.inl rfl | exact Or.inr (Or.inl rfl) | exact Or.inr (Or.inr rfl))
    (hd : (x == ("__debug__" : Str)) = false := by decide) (hcd : (x == ("__classdict__" : Str)) = false := by decide) (hny : y ≠ "__name__" := by decide) (hdy : (y == ("__debug__" : Str)) = false := by decide) (hg : Gl X "isinstance" := by rfl) (hgy : Gl X y := by rfl)
    (hs : starEach [.Name x p1, .Name y p2] X.env = (false, eval (.Name x p1) X.env) :: starEach [.Name y p2] X.env := by rfl) (hs2 : starEach [.Name y p2] X.env = (false, eval (.Name y p2) X.env) :: starEach [] X.env := by rfl) (hpl : (backTo pos (starEach [.Name y p2] X.env)).any (·.1) = false := by rfl) :
    EV X z (.Call (.Name "isinstance" p0) [.Name x p1, .Name y p2] [] pos) es s (.bool b) s :=
  .mk (pe_callB cr_isX hg hm (by decide +kernel) (pa_cons (pe_var hN hv hd hcd) (pa_cons (pe_ty hy hvy hgy hny hdy) pa_nil hs2) hs) (by decide) (by decide) hs hpl) fun σ H en at_ Q q => by
    obtain ⟨u, hu, r⟩ := en.slot h
    cases r
    exact ⟨.ref a, hu, a, C, .ty T, .type T, b, rfl, hx.is at_, hC, fun u e => e, ek, q _ H (.refl H) at_ (.bl b)⟩
end

/-! ### defs whose relation sees what is told of -/
abbrev RelZ := Z → List Sl → S → PyData → S → Prop
def spZ (R : RelZ) : Sp := fun vs H Q _ => ∃ z as s d s', R z as s d s' ∧ En z H (vs.map some) as ∧ At z H s ∧ ∀ v H', Ez z H H' → At z H' s' → Da z H' v d → Q v H'
def DnZ (P : Program) (w : World) (K : PySem.W.Frag) (mg : Str → Option Value) (base : Heap) (k : Nat) (x : Str) (R : RelZ) : Prop :=
  ∃ f fd ps, FnOk P w K mg base CX0 k f fd ps (spZ R) ∧ mg x = some (.ref f) ∧ PySem.W.keepIn K (.ref f) = true ∧ Binds K fd ps []
section
variable {P : Program} {w : World} {K : PySem.W.Frag} {mg : Str → Option Value} {base : Heap}
theorem okZ {x qual : Str} {st : Stmt} {f : Addr} {fd : FuncData} {N ps : List Str} {k : Nat} {R : RelZ} (F : Fun K x qual st f fd) (Sc : FnScope N ps (defScope st)) (hl : ∀ z as s d s', R z as s d s' → as.length = ps.length)
    (hb : ∀ cdv A outer s0 H0 E, Ctx (cxOf CX0 P w K mg base N qual (defScope st) f cdv A outer s0 H0 E).nox k N → ∀ z as s d s', R z as s d s' → SR (cxOf CX0 P w K mg base N qual (defScope st) f cdv A outer s0 H0 E).nox z (defBody st) (as ++ List.replicate (N.length - as.length) .un) s (.rt d s')) :
    FnOk P w K mg base CX0 (k + 1) f fd ps (spZ R) := by
  have ln : ∀ vs H Q E, spZ R vs H Q E → vs.length = ps.length := fun vs H Q E ⟨z, as, s, d, s', hR, en, _⟩ => by
    have := en.length
    rw [List.length_map] at this
    rw [this]
    exact hl _ _ _ _ _ hR
  refine F.ok Sc ln fun cdv A outer s0 H0 vs Q E hr h => ?_
  obtain ⟨z, as, s, d, s', hR, en, at_, q⟩ := h
  have e1 : vs.length = as.length := by
    have := en.length
    rwa [List.length_map] at this
  have C : Ctx (cxOf CX0 P w K mg base N qual (defScope st) f cdv A outer s0 H0 E).nox k N := ⟨Sc.nd, rfl, PassesOwn.never, hr, hr.units⟩
  refine ⟨_, wB_ok, hb cdv A outer s0 H0 E C z as s d s' hR (L2.start N vs) H0 ?_ at_ { nx := fun _ H' => Q .non H', rt := Q } fun v H' e a n => q v H' e a n⟩
  unfold L2.start
  rw [e1]
  exact en.app (.uns _)
theorem dnz_of {x qual : Str} {st : Stmt} {f : Addr} {fd : FuncData} {ps : List Str} {k : Nat} {R : RelZ} (F : Fun K x qual st f fd) (O : FnOk P w K mg base CX0 k f fd ps (spZ R)) (hm : mg x = some (.ref f)) (hb : Binds K fd ps []) : DnZ P w K mg base k x R := ⟨f, fd, ps, O, hm, F.kp, hb⟩
end
section
variable {X : Cx} {z : Z} {es as : List Sl} {s s1 s' : S} {e : Expr} {xs : List Expr} {p pos : Pos} {d : PyData} {a : Addr} {v : V}
theorem ev_callZ {k : Nat} {x : Str} {R : RelZ} (G : DnZ X.prog X.w X.K X.mg X.base k x R) (hr : Room k X.A) (ha : EA X z (e :: xs) es s as s1) (hR : R z as s1 d s') (hg : Gl X x := by rfl) (hdb : (x == ("__debug__" : Str)) = false := by decide)
    (he : starEach (e :: xs) X.env = (false, eval e X.env) :: starEach xs X.env := by rfl) (hpl : (backTo pos (starEach xs X.env)).any (·.1) = false := by rfl) : EV X z (.Call (.Name x p) (e :: xs) [] pos) es s d s' := by
  obtain ⟨f, fd, ps, F, hm, hk, hb⟩ := G
  refine .mk (pe_call F hr hg hm hk hb .nil pass0 wA_ok hdb he hpl) fun σ H en at_ Q q => ha σ H en at_ _ fun vs H1 e1 a1 v1 => ?_
  rw [List.append_nil]
  exact ⟨z, as, s1, d, s', hR, v1, a1, fun v H' e2 a2 v2 => q v H' (e1.trans e2) a2 v2⟩
/-- a raw slot handed on -/
theorem ea_raw (i : Nat) {x : Str} (hr : EA X z xs es s as s1) (h : es[i]? = some (.raw v) := by rfl) (hN : X.N[i]? = some x := by rfl) (hv : Vis X.env.scope x := by first | exact Or.inl rfl | exact Or.inr (Or.inl rfl) | exact Or.inr (Or.inr rfl))
    (hs : starEach ((.Name x pos) :: xs) X.env = (false, eval (.Name x pos) X.env) :: starEach xs X.env := by rfl) (hd : (x == ("__debug__" : Str)) = false := by decide) (hcd : (x == ("__classdict__" : Str)) = false := by decide) : EA X z (.Name x pos :: xs) es s (.raw v :: as) s1 := fun σ H en at_ Q q => by
  obtain ⟨u, hu, r⟩ := en.slot h
  cases r
  exact ⟨_, pa_cons (pe_var hN hv hd hcd) wA_ok hs, v, hu, hr σ H en at_ _ fun vs H2 k2 a2 v2 => q (v :: vs) H2 k2 a2 (.cons .raw v2)⟩
end
end DL


set_option Elab.async false
set_option linter.all false
set_option maxRecDepth 100000
/-! ### an own class of errors with an __init__ over any built-in class, also one that has no __new__ of its own -/
namespace PySem.W
open PySem PySem.Spec PySem.Calls PyProof.Rows PySem.HandSPX
/-- __new__ is that of the class B, which is among the classes bm -/
structure NewBy (newId : String) (bm : List Value) : Prop where
  ex : ∃ B i bmB, ExcBaseFacts B newId i bmB ∧ bm.contains (.type B) = true
  na : bm.contains (.type "AttributeError") = false
  nn : bm.contains (.type "NameError") = false
theorem NewBy.of {B newId i : String} {bm : List Value} (F : ExcBaseFacts B newId i bm) : NewBy newId bm := ⟨⟨B, i, bm, F, F.hasB⟩, F.noAttr, F.noName⟩
section
variable {prog : Program} {w : World} {A : Around} {E : Value → Shared → Prop} {R : Result → Shared → Prop} {hp : Heap} {gs : Array GenState} {dr : Drawn} {tk : Nat} {os : OsState}
variable {nm q : Str} {C N : Addr} {bs bm : List Value} {hdct : Bool} {sn : List Str} {sub : List Value} {ab : Bool} {col : Option Bool} {dd : Option Addr} {k0 k1 k2 k3 k5 : Option Value} {newId : String}
theorem nb_check (F : NewBy newId bm) {M : Model} {us : List Value} {Q : Unit → Shared → Prop} (hC : hp.get? C = some (excClassObj nm q C N bs bm hdct sn sub ab col dd k0 k1 k2 k3 k5 newId)) (told : Q () ⟨hp, gs, dr, tk, os⟩) :
    wpAny M A (checkBuiltinCall newId ⟨.ref C :: us, []⟩) Q E ⟨hp, gs, dr, tk, os⟩ := by
  obtain ⟨B, i, bmB, F, has⟩ := F.ex
  have isB : (Value.ref C :: bm).contains (.type B) = true := by
    rw [List.contains_cons]
    rw [has]
    exact Bool.or_true _
  have star := F.noStar
  simp only [checkBuiltinCall, F.newKind, F.newSplit, F.newRow]
  repeat
    first
    | refine wpAny_loadPart_at hC ?_
    | (refine wpAny_isSubtype_exc hC ?_; rw [isB])
    | refine wpAny_staticBase_exc hC ?_
    | refine wpAny_madeBy_exc hC ?_
    | simp only [bne_self_eq_false, Bool.false_eq_true, if_false]
    | wp_step
  exact told
theorem nb_new (F : NewBy newId bm) {us : List Value} (hC : hp.get? C = some (excClassObj nm q C N bs bm hdct sn sub ab col dd k0 k1 k2 k3 k5 newId))
    (told : R (.ok (.ret (.ref (hp.objs.size + 1)))) ⟨(hp.push { cls := .type "tuple", data := .seq us.toArray }).push (excO C hp.objs.size), gs, dr, tk, os⟩) (few : us.length ≤ sizeLine) :
    codeAny (model prog w) A (.builtin newId ⟨.ref C :: us, []⟩) R ⟨hp, gs, dr, tk, os⟩ := by
  have na := F.na
  have nn := F.nn
  obtain ⟨B, i, bmB, F, has⟩ := F.ex
  have ends := F.ends
  have isB : (Value.ref C :: bm).contains (.type B) = true := by
    rw [List.contains_cons]
    rw [has]
    exact Bool.or_true _
  have isA : (Value.ref C :: bm).contains (.type "AttributeError") = false := by
    rw [List.contains_cons]
    rw [na]
    rfl
  have isN : (Value.ref C :: bm).contains (.type "NameError") = false := by
    rw [List.contains_cons]
    rw [nn]
    rfl
  apply codeAny_builtinAt F.entry
  unfold Builtin.«BaseException.__new__»
  apply wpAt_bind
  show wpAt _ _ _ (stack >>= _) _ _ _
  apply wpAt_bind
  apply wpAt_stack
  intro p below
  apply wpAt_of_wpAny
  wp_walk
  apply wpAt_of_wpAny
  rw [F.owner]
  repeat
    first
    | with_reducible refine wpAny_madeHere_exc F.canon hC ?_
    | with_reducible refine wpAny_loadPart_at hC ?_
    | (with_reducible refine wpAny_isSubtype_exc hC ?_; first | rw [isB] | rw [isA] | rw [isN])
    | wp_step
  show R _ _
  rw [Heap.size_push]
  exact told
theorem nb_type (F : NewBy newId bm) {us : List Value} {f : Addr} {Q : Fin → Shared → Prop} (hC : hp.get? C = some (excClassObj nm q C N bs bm hdct sn sub ab col dd k0 k1 k2 k3 k5 newId)) (hi : Looks (model prog w) hp (typeLookup (.ref C) "__init__") (some (.ref f)))
    (hb : ∀ self, Looks (model prog w) hp (bindSpecial (.ref f) self) (.ref f, [self])) (few : us.length ≤ sizeLine)
    (told : codeAny (model prog w) A (.call (.ref f) ⟨.ref (hp.objs.size + 1) :: us, []⟩) (fun r s' => match r with | .ok (.ret v) => v = .none ∧ Q (.done (.ret (.ref (hp.objs.size + 1)))) s' | .ok _ => False | .error e => E e s')
      ⟨(hp.push (kdv_tup us)).push (excO C hp.objs.size), gs, dr, tk, os⟩) : wpAny (model prog w) A (Builtin.«type.__call__» ⟨.ref C :: us, []⟩) Q E ⟨hp, gs, dr, tk, os⟩ := by
  have quiet : ∃ B i bmB, ExcBaseFacts B newId i bmB := by
    obtain ⟨B, i, bmB, F, _⟩ := F.ex
    exact ⟨B, i, bmB, F⟩
  obtain ⟨B, i, bmB, FB⟩ := quiet
  repeat
    first
    | with_reducible refine wpAny_loadPart_at hC ?_
    | with_reducible refine wpAny_madeBy_exc hC ?_
    | wp_step
  apply codeAny_call_builtin_code (Code.quiet_builtin _ FB.quiet)
  apply nb_check F hC
  refine nb_new F hC ?_ few
  show wpAny _ _ _ _ _ _
  have up : ∀ b o, hp.get? b = some o → ((hp.push (kdv_tup us)).push (excO C hp.objs.size)).get? b = some o := fun b o e => by
    apply Heap.get?_push_of_some
    exact Heap.get?_push_of_some _ e
  have hC2 := up _ _ hC
  have atE : ((hp.push (kdv_tup us)).push (excO C hp.objs.size)).get? (hp.objs.size + 1) = some (excO C hp.objs.size) := by heap_get
  have isC : (Value.ref C :: bm).contains (.ref C) = true := by simp
  have look := hi.keeps up
  have bnd := (hb (.ref (hp.objs.size + 1))).keeps up
  unfold isInstance
  repeat
    first
    | with_reducible refine wpAny_loadPart_at atE ?_
    | (with_reducible refine wpAny_isSubtype_exc hC2 ?_; rw [isC])
    | wp_step
  show wpAny _ _ (typeLookup (.ref C) _) _ _ _
  apply look.at
  apply wpAny_holding
  apply wpAny_bind
  apply bnd.at
  apply wpAny_bind
  apply wpAny_call
  apply codeAny_mono told
  intro r s' z
  rcases r with e | (v | _ | _ | _)
  all_goals first | exact z | exact z.elim | skip
  obtain ⟨rfl, z⟩ := z
  first
    | exact wpAny_pure (wpAny_pure z)
    | (wp_walk; exact z)
theorem nb_call (F : NewBy newId bm) {us : List Value} {f : Addr} (hC : hp.get? C = some (excClassObj nm q C N bs bm hdct sn sub ab col dd k0 k1 k2 k3 k5 newId)) (hi : Looks (model prog w) hp (typeLookup (.ref C) "__init__") (some (.ref f)))
    (hb : ∀ self, Looks (model prog w) hp (bindSpecial (.ref f) self) (.ref f, [self])) (few : us.length ≤ sizeLine)
    (told : codeAny (model prog w) (A.under (.builtin "type.__call__" ⟨.ref C :: us, []⟩)) (.call (.ref f) ⟨.ref (hp.objs.size + 1) :: us, []⟩) (InitBack (hp.objs.size + 1) R) ⟨(hp.push (kdv_tup us)).push (excO C hp.objs.size), gs, dr, tk, os⟩) :
    codeAny (model prog w) A (.call (.ref C) ⟨us, []⟩) R ⟨hp, gs, dr, tk, os⟩ := by
  have f1 := tc_lookup
  have f2 := tc_bind (.ref C)
  have isT : (⟨hp, gs, dr, tk, os⟩ : Shared).TypeIs (.ref C) "type" := ⟨_, hC, rfl⟩
  apply codeAny_of_tree
  show wpAny _ _ (callAny (.ref C) _) _ _ _
  repeat
    any_goals first
      | assumption
      | with_reducible refine wpAny_loadPart_at hC ?_
      | wp_step
  refine ⟨rfl, ?_⟩
  apply codeAny_call_builtin_at (Code.quiet_builtin _ (by decide +kernel)) entry_typeCall
  apply wpAny_check_type_call_sub hC
  apply nb_type F hC hi hb few
  apply codeAny_mono told
  intro r s' z
  rcases r with e | (v | _ | _ | _)
  all_goals exact z
end
end PySem.W


set_option Elab.async false
set_option linter.all false
set_option maxRecDepth 100000
namespace DL
open PySem PySem.Spec PyProof.Rows L2
variable [TabT]
theorem NewBy.tail {newId : String} {bm bmB : List Value} (N : PySem.W.NewBy newId bmB) (h : PySem.W.excTail bmB bm = true) : PySem.W.NewBy newId bm := by
  have k : ∀ Y : String, bm.contains (.type Y) = bmB.contains (.type Y) := fun Y => PySem.W.excTail_contains Y bm h
  obtain ⟨⟨B, i, b, F, has⟩, na, nn⟩ := N
  exact ⟨⟨B, i, b, F, by rw [k]; exact has⟩, by rw [k]; exact na, by rw [k]; exact nn⟩
section
variable {X : Cx} {e : Expr} {es : List Expr} {ta : TA} {f : Str} {C : Addr} {p pos : Pos} {newId : String} {bmB : List Value}
/-- C(..) as a value: what its __init__ leaves -/
theorem pe_oxN {CX : CXT} {x : Str} {fI : Addr} {k : Nat} {fd : FuncData} {ps : List Str} {sp : Sp} (T : OxC X.K C newId bmB f) (NB : PySem.W.NewBy newId bmB) (iC : PySem.W.findIn X.K (.ref C) "__init__" = some (some (.ref fI))) (tI : PySem.W.typeIn X.K (.ref fI) = some (.type "function"))
    (F1 : FnOk X.prog X.w X.K X.mg X.base CX k fI fd ps sp) (hr : Room (k + 1) X.A) (hb : Binds X.K fd ps []) (hx : Passes CX X (fun _ _ _ => False)) (hg : Gl X x) (hm : X.mg x = some (.ref C)) (ha : PA X (e :: es) ta)
    (hdb : (x == ("__debug__" : Str)) = false := by decide) (he : starEach (e :: es) X.env = (false, eval e X.env) :: starEach es X.env := by rfl) (hpl : (backTo pos (starEach es X.env)).any (·.1) = false := by rfl) :
    PE X (.Call (.Name x p) (e :: es) [] pos) (fun σ H Q => ta σ H fun vs H1 => vs.length ≤ 1000 ∧ ∀ a, H1 a = none → sp (.ref a :: (vs ++ [])) (upd H1 a (exo a C none)) (fun v H2 => v = .non ∧ Q (.ref a) H2) fun _ _ _ => False) := by
  constructor
  intro pins s σ H Q I h
  obtain ⟨_, _, _, _, bm, _, _, _, _, _, _, _, _, _, _, hC, ht⟩ := T.cls
  refine wpAny_Call_Name_kw (ld_glob I hg hm (PySem.W.callWith_K (h₀ := X.base) I.ok.mod.kin T.kC (thn (ha.run pos pins s σ H _ I h) fun us s1 ⟨vs, H1, I1, r1, hz, q1⟩ => ⟨I1.kIn, ?_⟩) he hpl) hdb)
  show wpAny _ _ (call (.ref C) us) _ _ _
  obtain ⟨hp, g, dr, tk, os⟩ := s1
  let hp2 := (hp.push (PySem.W.kdv_tup us)).push (PySem.HandSPX.excO C hp.objs.size)
  have le1 : hp.objs.size ≤ hp.objs.size + 1 := Nat.le_succ _
  have q2 := q1 (hp.objs.size + 1) (I1.hok.fresh le1)
  have up : ∀ b o, hp.get? b = some o → hp2.get? b = some o := fun b o e => Heap.get?_push_of_some _ (Heap.get?_push_of_some _ e)
  have at2 : hp2.get? (hp.objs.size + 1) = some (PySem.HandSPX.excO C hp.objs.size) := by heap_get
  have J : Inv X pins σ (upd H1 (hp.objs.size + 1) (exo (hp.objs.size + 1) C none)) ⟨hp2, g, dr, tk, os⟩ := I1.laid (t' := tk) up le1 (exo_ok at2)
  have rv : Vals (V.ref (hp.objs.size + 1) :: (vs ++ [])) (Value.ref (hp.objs.size + 1) :: (us ++ [])) := .cons rfl (r1.append .nil)
  have ln : (Value.ref (hp.objs.size + 1) :: us ++ []).length = ps.length := (rv.length.symm.trans (F1.len _ _ _ _ q2))
  have sz : us.length ≤ sizeLine := by rw [← Paired.length r1, sizeLine_eq]; omega
  refine wpAny_call (PySem.W.nb_call (NewBy.tail NB ht) (I1.kIn _ _ hC) (PySem.W.looks_findIn I1.kIn iC) (fun self => PySem.W.bind_fn I1.kIn self tI) sz (codeAny_mono (F1.run _ X.stack _ _ ⟨Value.ref (hp.objs.size + 1) :: us, []⟩ _ _ _ (fun _ _ _ => False) (hr.make C us []) (J.env0.make C us []) (hb _ (Value.ref (hp.objs.size + 1) :: us) J.kIn ln) rv q2) fun r s' hq => ?_))
  cases r with
  | error er => exact hx pins σ _ _ er s' J hq
  | ok fl =>
    cases fl with
    | ret u =>
      obtain ⟨v, H2, J2, ru, ev, q3⟩ := J.after hq
      subst ev
      exact ⟨ru, .ref (hp.objs.size + 1), H2, J2, rfl, q3⟩
    | _ => exact hq.elim
/-- .. and made to be raised -/
theorem pmk_oxN {CX : CXT} {x : Str} {fI : Addr} {k : Nat} {fd : FuncData} {ps : List Str} {sp : Sp} (T : OxC X.K C newId bmB f) (NB : PySem.W.NewBy newId bmB) (iC : PySem.W.findIn X.K (.ref C) "__init__" = some (some (.ref fI))) (tI : PySem.W.typeIn X.K (.ref fI) = some (.type "function"))
    (F1 : FnOk X.prog X.w X.K X.mg X.base CX k fI fd ps sp) (hr : Room (k + 1) X.A) (hb : Binds X.K fd ps []) (hx : Passes CX X (fun _ _ _ => False)) (hg : Gl X x) (hm : X.mg x = some (.ref C)) (ha : PA X (e :: es) ta)
    (hdb : (x == ("__debug__" : Str)) = false := by decide) (he : starEach (e :: es) X.env = (false, eval e X.env) :: starEach es X.env := by rfl) (hpl : (backTo pos (starEach es X.env)).any (·.1) = false := by rfl) :
    PMk X (.Call (.Name x p) (e :: es) [] pos) (tMkO C sp [] ta) := by
  intro pins s σ H Q I h
  obtain ⟨_, _, _, _, bm, _, _, _, _, _, _, _, _, _, _, hC, ht⟩ := T.cls
  refine wpAny_Call_Name_kw (ld_glob I hg hm (PySem.W.callWith_K (h₀ := X.base) I.ok.mod.kin T.kC (thn (ha.run pos pins s σ H _ I h) fun us s1 ⟨vs, H1, I1, r1, hz, q1⟩ => ⟨I1.kIn, ?_⟩) he hpl) hdb)
  show wpAny _ _ (call (.ref C) us) _ _ _
  obtain ⟨hp, g, dr, tk, os⟩ := s1
  let hp2 := (hp.push (PySem.W.kdv_tup us)).push (PySem.HandSPX.excO C hp.objs.size)
  have le1 : hp.objs.size ≤ hp.objs.size + 1 := Nat.le_succ _
  have q2 := q1 (hp.objs.size + 1) (I1.hok.fresh le1)
  have up : ∀ b o, hp.get? b = some o → hp2.get? b = some o := fun b o e => Heap.get?_push_of_some _ (Heap.get?_push_of_some _ e)
  have at2 : hp2.get? (hp.objs.size + 1) = some (PySem.HandSPX.excO C hp.objs.size) := by heap_get
  have J : Inv X pins σ (upd H1 (hp.objs.size + 1) (exo (hp.objs.size + 1) C none)) ⟨hp2, g, dr, tk, os⟩ := I1.laid (t' := tk) up le1 (exo_ok at2)
  have rv : Vals (V.ref (hp.objs.size + 1) :: (vs ++ [])) (Value.ref (hp.objs.size + 1) :: (us ++ [])) := .cons rfl (r1.append .nil)
  have ln : (Value.ref (hp.objs.size + 1) :: us ++ []).length = ps.length := (rv.length.symm.trans (F1.len _ _ _ _ q2))
  have sz : us.length ≤ sizeLine := by rw [← Paired.length r1, sizeLine_eq]; omega
  refine wpAny_call (PySem.W.nb_call (NewBy.tail NB ht) (I1.kIn _ _ hC) (PySem.W.looks_findIn I1.kIn iC) (fun self => PySem.W.bind_fn I1.kIn self tI) sz (codeAny_mono (F1.run _ X.stack _ _ ⟨Value.ref (hp.objs.size + 1) :: us, []⟩ _ _ _ (fun _ _ _ => False) (hr.make C us []) (J.env0.make C us []) (hb _ (Value.ref (hp.objs.size + 1) :: us) J.kIn ln) rv q2) fun r s' hq => ?_))
  cases r with
  | error er => exact hx pins σ _ _ er s' J hq
  | ok fl =>
    cases fl with
    | ret u =>
      obtain ⟨v, H2, o2, b2, un, ok2, ru, ev, dx, fs, ea, ed, nd, q3⟩ := hq
      subst ev
      obtain ⟨h2, g2, d2, t2, o3⟩ := s'
      exact ⟨ru, mk_end (raises_own T.exC T.tyC) I1 le1 up un ok2 o2 b2 ea ed nd q3⟩
    | _ => exact hq.elim
/-- e.f of an error that was just made -/
theorem pe_oxf {te : TE} {n : Str} (he : PE X e te) (hb : attributeBase e n X.env (eval e X.env) = eval e X.env := by rfl) :
    PE X (.Attribute e n pos) (fun σ H Q => te σ H fun x H1 => ∃ (a C dx : Addr) (fs : List (Str × V)) (v : V), x = .ref a ∧ XfC X.K C ∧ PySem.W.findIn X.K (.ref C) n = some none ∧ H1 a = some (exo a C (some dx)) ∧ H1 dx = some (exd dx fs) ∧ fs.lookup n = some v ∧ Q v H1) := by
  refine ⟨fun pins s σ H Q I h => attr_of hb (thn (he.run pins s σ H _ I h) fun u s1 got => ?_)⟩
  obtain ⟨x, H1, I1, rx, a, C, dx, fs, v, ex, T, no, ha, hd, lv, q⟩ := got
  subst ex
  obtain rfl : u = Value.ref a := rx
  obtain ⟨t1, oe⟩ := exo_at I1.hok ha
  obtain ⟨mA, ns, rel⟩ := exd_at I1.hok hd
  obtain ⟨od, hod, lk⟩ := lookIn_ns ns
  obtain ⟨w, hw, rw_⟩ := RelO.some_of (v := v) (o := mA n) (by rw [← lv]; exact rel n)
  have J : PySem.W.InstAt s1.heap a _ C (some od) := ⟨oe, rfl, rfl, hod⟩
  exact PySem.HandSPX.exc_get I1.kIn J T.ga T.gg T.exC (PySem.W.findObj_own T.hdC no rfl (by rw [lk, hw])) (handed_of rw_) ⟨v, H1, I1.tok _, rw_, q⟩
end
end DL


set_option Elab.async false
set_option linter.all false
set_option maxRecDepth 100000
namespace DL
open PySem PySem.Spec PyProof.Rows L2
variable [TabT]
/-- what is told of an own class of errors that keeps its one argument -/
structure OxV (X : Cx) (x : Str) (C : Addr) (f : Str) (newId : String) (bmB : List Value) : Prop where
  T : OxC X.K C newId bmB f
  NB : PySem.W.NewBy newId bmB
  I : ∃ fI fd ps, PySem.W.findIn X.K (.ref C) "__init__" = some (some (.ref fI)) ∧ PySem.W.typeIn X.K (.ref fI) = some (.type "function") ∧ FnOk X.prog X.w X.K X.mg X.base CX0 1 fI fd ps (spI C f) ∧ Binds X.K fd ps []
  m : X.mg x = some (.ref C)
section
variable {X : Cx} {z : Z} {es : List Sl} {s s1 s2 : S} {e : Expr} {d : PyData} {C : Addr} {f x : Str} {newId : String} {bmB : List Value} {p p2 pos apos : Pos}
theorem ev_oxf (O : OxV X x C f newId bmB) (F : XfC X.K C) (no : PySem.W.findIn X.K (.ref C) f = some none) (hr : Room 2 X.A) (h : EV X z e es s d s1) (hg : Gl X x := by rfl) (hdb : (x == ("__debug__" : Str)) = false := by decide)
    (he : starEach [e] X.env = (false, eval e X.env) :: starEach [] X.env := by rfl) (hpl : (backTo pos (starEach [] X.env)).any (·.1) = false := by rfl) (hb : attributeBase (.Call (.Name x p) [e] [] pos) f X.env (eval (.Call (.Name x p) [e] [] pos) X.env) = eval (.Call (.Name x p) [e] [] pos) X.env := by rfl) :
    EV X z (.Attribute (.Call (.Name x p) [e] [] pos) f apos) es s d s1 := by
  obtain ⟨fI, fd, ps, i1, i2, F1, b⟩ := O.I
  refine .mk (pe_oxf (pe_oxN (CX := CX0) O.T O.NB i1 i2 F1 hr b (fun _ _ _ _ _ _ _ h => h.elim) hg O.m (pa_cons wE_ok pa_nil he) hdb he hpl) hb) fun σ H en at_ Q q => h σ H en at_ _ fun v H1 e1 a1 v1 => ?_
  refine ⟨by show 1 ≤ 1000; omega, fun a na => ⟨a, v, rfl, upd_same, fun dx nd ne => ⟨rfl, a, C, dx, [(f, v)], v, rfl, F, no, upd_same, by rw [upd_ne ne, upd_same], by simp [List.lookup], ?_⟩⟩⟩
  rw [upd_ne ne] at nd
  have keep : ∀ b o, H1 b = some o → (upd (upd (upd H1 a (exo a C none)) dx (exd dx [(f, v)])) a (exo a C (some dx))) b = some o := fun b o eb => by
    have ba := ne_of_none eb na
    rw [upd_ne ba, upd_ne (ne_of_none eb nd), upd_ne ba]
    exact eb
  exact q _ _ (e1.trans (.all keep)) (a1.all keep) (v1.mono (.all keep))
theorem em_oxN (O : OxV X x C f newId bmB) (hr : Room 2 X.A) (h : EV X z e es s d s1) (hg : Gl X x := by rfl) (hdb : (x == ("__debug__" : Str)) = false := by decide) (he : starEach [e] X.env = (false, eval e X.env) :: starEach [] X.env := by rfl) (hpl : (backTo pos (starEach [] X.env)).any (·.1) = false := by rfl) :
    EM X z (.Call (.Name x p) [e] [] pos) es s (.wf C f d) s1 := fun σ H en at_ Q q => by
  obtain ⟨fI, fd, ps, i1, i2, F, b⟩ := O.I
  refine ⟨_, pmk_oxN (CX := CX0) O.T O.NB i1 i2 F hr b (fun _ _ _ _ _ _ _ h => h.elim) hg O.m (pa_cons wE_ok pa_nil he) hdb he hpl, h σ H en at_ _ fun v H1 e1 a1 v1 => ⟨by show 1 ≤ 1000; omega, fun a na => ⟨a, v, rfl, upd_same, fun dx nd ne => ⟨rfl, dx, [(f, v)], upd_same, by rw [upd_ne ne, upd_same], by rw [upd_ne ne] at nd; exact nd, ?_⟩⟩⟩⟩
  rw [upd_ne ne] at nd
  have keep : ∀ b o, H1 b = some o → (upd (del (upd (upd (upd H1 a (exo a C none)) dx (exd dx [(f, v)])) a (exo a C (some dx))) a) dx (.xd [(f, v)])) b = some o := fun b o eb => by
    have ba := ne_of_none eb na
    rw [upd_ne (ne_of_none eb nd), del_ne ba, upd_ne ba, upd_ne (ne_of_none eb nd), upd_ne ba]
    exact eb
  exact q _ _ _ (e1.trans (.all keep)) (a1.all keep) (en.mono (e1.trans (.all keep))) ⟨rfl, dx, v, rfl, a1.fresh nd, upd_same, v1.mono (.all keep)⟩
end
/-! ### lists of errors -/
inductive XL (z : Z) : List V → List Addr → Prop
  | nil : XL z [] []
  | cons {a C : Addr} {vs : List V} {cs : List Addr} : XAt z a C → XL z vs cs → XL z (.ref a :: vs) (C :: cs)
theorem XL.more {z : Z} (nv : List (Addr × HO)) : ∀ {vs : List V} {cs : List Addr}, XL z vs cs → XL (z.more nv) vs cs
  | _, _, .nil => .nil
  | _, _, .cons x r => .cons (x.more nv) (XL.more nv r)
theorem XL.app {z : Z} : ∀ {vs ws : List V} {cs ds : List Addr}, XL z vs cs → XL z ws ds → XL z (vs ++ ws) (cs ++ ds)
  | _, _, _, _, .nil, q => q
  | _, _, _, _, .cons x r, q => .cons x (XL.app r q)
theorem XL.length {z : Z} : ∀ {vs : List V} {cs : List Addr}, XL z vs cs → vs.length = cs.length
  | _, _, .nil => rfl
  | _, _, .cons _ r => by rw [List.length_cons, List.length_cons, XL.length r]
theorem XL.get {z : Z} : ∀ {vs : List V} {cs : List Addr}, XL z vs cs → ∀ (i : Nat) (v : V), vs[i]? = some v → ∃ a C, v = .ref a ∧ cs[i]? = some C ∧ XAt z a C
  | _, _, .nil, i, v, h => by simp at h
  | _, _, .cons x r, 0, v, h => by
    cases Option.some.inj h
    exact ⟨_, _, rfl, rfl, x⟩
  | _, _, .cons x r, i + 1, v, h => XL.get r i v h
theorem more_more {z : Z} {a b : List (Addr × HO)} : (z.more a).more b = z.more (b ++ a) := by
  unfold Z.more
  rw [List.append_assoc]
/-- written errors -/
def EXs (X : Cx) (z : Z) (xs : List Expr) (es : List Sl) (s : S) (cs : List Addr) : Prop := ∀ σ H, En z H σ es → At z H s → ∀ Q : List V → Hp → Prop, (∀ vs H2 nv, New z H H2 s nv → XL (z.more nv) vs cs → Q vs H2) → wA X xs σ H Q
/-- an expression that gives a list of errors -/
def EL (X : Cx) (z : Z) (e : Expr) (es : List Sl) (s : S) (cs : List Addr) : Prop := ∀ σ H, En z H σ es → At z H s → ∀ Q : VK, (∀ p vs H2 nv, New z H H2 s nv → (p, .lst vs) ∈ (z.more nv).vol → XL (z.more nv) vs cs → Q (.ref p) H2) → wE X e σ H Q
section
variable {X : Cx} {z : Z} {es : List Sl} {s s1 s2 : S} {e a b : Expr} {xs : List Expr} {d : PyData} {C : Addr} {cs cs2 : List Addr} {f x y : Str} {newId B initId : String} {bmB : List Value} {p p2 p3 p4 p5 pos apos cpos : Pos} {m : Str} {j : Nat}
theorem exs_nil : EXs X z [] es s [] := fun σ H en at_ Q q => ⟨tNil, pa_nil, q [] H [] (.nil at_) .nil⟩
/-- C("..") -/
theorem exs_pl (F : ExcBaseFacts B newId initId bmB) (xc : PySem.W.excIn X.K C bmB newId = true) (hm : X.mg x = some (.ref C)) (kC : PySem.W.keepIn X.K (.ref C) = true) (r : ∀ z, EXs X z xs es s cs) (hg : Gl X x := by rfl) (hdb : (x == ("__debug__" : Str)) = false := by decide)
    (he : starEach [.Constant (.str m) j p2] X.env = (false, eval (.Constant (.str m) j p2) X.env) :: starEach [] X.env := by rfl) (hs : starEach (.Call (.Name x p) [.Constant (.str m) j p2] [] pos :: xs) X.env = (false, eval (.Call (.Name x p) [.Constant (.str m) j p2] [] pos) X.env) :: starEach xs X.env := by rfl) :
    EXs X z (.Call (.Name x p) [.Constant (.str m) j p2] [] pos :: xs) es s (C :: cs) := fun σ H en at_ Q q =>
  ⟨_, pa_cons (pe_exc1 F xc hm kC hg pe_str he hdb) wA_ok hs, fun a na => by
    have N := at_.tell na (.ext _) (o := ExO (.ref C) a)
    refine r _ σ _ (N.en en) N.at_ _ fun vs H2 nv N2 l => ?_
    rw [more_more] at l
    exact q _ _ _ (N.trans N2) (.cons (.pl (List.mem_append_left _ (List.mem_append_right _ (List.mem_singleton.mpr rfl))) errO_exO) l)⟩
/-- C(v), C with a field -/
theorem exs_ox (i : Nat) (O : OxV X x C f newId bmB) (hr : Room 2 X.A) (r : ∀ z, EXs X z xs es s cs) (h : es[i]? = some (.val d) := by rfl) (hN : X.N[i]? = some y := by rfl) (hv : Vis X.env.scope y := by first | exact Or.inl rfl | exact Or.inr (Or.inl rfl) | exact Or.inr (Or.inr rfl)) (hdy : (y == ("__debug__" : Str)) = false := by decide) (hcd : (y == ("__classdict__" : Str)) = false := by decide)
    (hg : Gl X x := by rfl) (hdb : (x == ("__debug__" : Str)) = false := by decide) (he : starEach [.Name y p2] X.env = (false, eval (.Name y p2) X.env) :: starEach [] X.env := by rfl) (hpl : (backTo pos (starEach [] X.env)).any (·.1) = false := by rfl)
    (hs : starEach (.Call (.Name x p) [.Name y p2] [] pos :: xs) X.env = (false, eval (.Call (.Name x p) [.Name y p2] [] pos) X.env) :: starEach xs X.env := by rfl) :
    EXs X z (.Call (.Name x p) [.Name y p2] [] pos :: xs) es s (C :: cs) := fun σ H en at_ Q q => by
  obtain ⟨fI, fd, ps, i1, i2, F1, bn⟩ := O.I
  obtain ⟨v, e1, e2⟩ := en.get h
  refine ⟨_, pa_cons (pe_oxN (CX := CX0) O.T O.NB i1 i2 F1 hr bn (fun _ _ _ _ _ _ _ h => h.elim) hg O.m (pa_cons (pe_var hN hv hdy hcd) pa_nil he) hdb he hpl) wA_ok hs, v, e1, by show 1 ≤ 1000; omega, fun a na => ⟨a, v, rfl, upd_same, fun dx nd ne => ⟨rfl, ?_⟩⟩⟩
  rw [upd_ne ne] at nd
  have eqH : upd (upd (upd H a (exo a C none)) dx (exd dx [(f, v)])) a (exo a C (some dx)) = upd (upd H dx (exd dx [(f, v)])) a (exo a C (some dx)) := by
    funext b
    by_cases hb : b = a
    · rw [hb, upd_same, upd_same]
    · rw [upd_ne hb, upd_ne hb]
      by_cases hd : b = dx
      · rw [hd, upd_same, upd_same]
      · rw [upd_ne hd, upd_ne hd, upd_ne hb]
  rw [eqH]
  have N0 := at_.tell nd (.ext _) (o := exd dx [(f, v)])
  have N1 := N0.trans (N0.at_.tell (a := a) (by rw [upd_ne (Ne.symm ne)]; exact na) (.ext _) (o := exo a C (some dx)))
  refine r _ σ _ (N1.en en) N1.at_ _ fun vs H2 nv N2 l => ?_
  rw [more_more] at l
  refine q _ _ _ (N1.trans N2) (.cons (.wf (o := exo a C (some dx)) (od := exd dx [(f, v)]) (dx := dx) ?_ errO_exo ?_ stands_exd) l)
  · exact List.mem_append_left _ (List.mem_append_right _ (List.mem_cons_self ..))
  · exact List.mem_append_left _ (List.mem_append_right _ (List.mem_cons_of_mem _ (List.mem_cons_self ..)))
/-- [C(..), ..] -/
theorem el_lst (h : EXs X z xs es s cs) (hl : cs.length ≤ 1000) : EL X z (.List xs pos) es s cs := fun σ H en at_ Q q => ⟨_, pe_lst wA_ok, h σ H en at_ _ fun vs H1 nv N l => ⟨by rw [l.length, sizeLine_eq]; omega, fun p hp => by
    have N2 := N.trans (N.at_.tell hp (.lst vs))
    exact q p vs _ _ N2 (List.mem_append_left _ (List.mem_append_left _ (List.mem_singleton.mpr rfl))) (by rw [← more_more]; exact l.more _)⟩⟩
/-- a name that holds one -/
theorem el_var (i : Nat) {u : Addr} {vs : List V} (m : (u, HO.lst vs) ∈ z.vol) (l : XL z vs cs) (h : es[i]? = some (.raw (.ref u)) := by rfl) (hN : X.N[i]? = some x := by rfl) (hv : Vis X.env.scope x := by first | exact Or.inl rfl | exact Or.inr (Or.inl rfl) | exact Or.inr (Or.inr rfl)) (hd : (x == ("__debug__" : Str)) = false := by decide) (hcd : (x == ("__classdict__" : Str)) = false := by decide) :
    EL X z (.Name x pos) es s cs := fun σ H en at_ Q q => by
  obtain ⟨y, hy, r⟩ := en.slot h
  cases r
  exact ⟨_, pe_var hN hv hd hcd, .ref u, hy, q u vs H [] (.nil at_) m l⟩
theorem el_cat (ha : EL X z a es s cs) (hb : ∀ nv, EL X (z.more nv) b es s cs2) (hl : cs.length + cs2.length ≤ 1000) : EL X z (.BinOp a .Add b pos) es s (cs ++ cs2) := fun σ H en at_ Q q =>
  ⟨_, pe_op op_cat wE_ok wE_ok, ha σ H en at_ _ fun p vs H1 nv N m l => hb nv σ H1 (N.en en) N.at_ _ fun p2 vs2 H2 nv2 N2 m2 l2 => by
    have N3 := N.trans N2
    have at3 := N3.at_
    rw [more_more] at m2 l2
    have m1 : (p, HO.lst vs) ∈ (z.more (nv2 ++ nv)).vol := by
      rw [← more_more]
      exact List.mem_append_right _ m
    have l1 : XL (z.more (nv2 ++ nv)) vs cs := by
      rw [← more_more]
      exact l.more _
    refine ⟨p, p2, vs, vs2, rfl, rfl, at3.v _ m1, at3.v _ m2, by rw [l.length, l2.length, sizeLine_eq]; omega, fun p3 hp => ?_⟩
    have N4 := N3.trans (at3.tell hp (.lst (vs ++ vs2)))
    exact q p3 _ _ _ N4 (List.mem_append_left _ (List.mem_append_left _ (List.mem_singleton.mpr rfl))) (by rw [← more_more]; exact (l1.app l2).more _)⟩
end
end DL


set_option Elab.async false
set_option linter.all false
set_option maxRecDepth 100000
namespace DL
open PySem PySem.Spec PyProof.Rows L2
variable [TabT]
/-- what z tells, z' tells too -/
def Grow (z z' : Z) : Prop := ∀ a C, XAt z a C → XAt z' a C
theorem Grow.more {z : Z} {nv : List (Addr × HO)} : Grow z (z.more nv) := fun _ _ x => x.more nv
/-- a block that returns a list of errors -/
def LR (X : Cx) (z : Z) (st : List Stmt) (es : List Sl) (s : S) (cs : List Addr) : Prop := ∀ σ H, En z H σ es → At z H s → ∀ D : Ends, (∀ p ws H' nv, New z H H' s nv → (p, .lst ws) ∈ (z.more nv).vol → XL (z.more nv) ws cs → D.rt (.ref p) H') → wB X st D σ H
/-- a def that gives a new list of errors -/
def spL (cs : List Addr) : Sp := fun vs H Q _ => vs = [] ∧ ∃ z s, At z H s ∧ ∀ p ws H' nv, New z H H' s nv → (p, .lst ws) ∈ (z.more nv).vol → XL (z.more nv) ws cs → Q (.ref p) H'
section
variable {X : Cx} {z : Z} {es : List Sl} {s s1 s2 : S} {e a b : Expr} {xs : List Expr} {d d1 : PyData} {ds : List PyData} {C : Addr} {cs cs2 : List Addr} {f x y : Str} {newId B initId : String} {bmB : List Value} {p p1 p2 p3 p4 p5 pos pos2 apos cpos : Pos} {m : Str} {j : Nat} {rest body : List Stmt}
theorem sr_asgE (i : Nat) (hN : X.N.Nodup) (h : EL X z e es s cs) (k : ∀ nv u vs, (u, HO.lst vs) ∈ (z.more nv).vol → XL (z.more nv) vs cs → SR X (z.more nv) rest (es.set i (.raw (.ref u))) s (.rt d s2)) (hi : X.N[i]? = some x := by rfl) (hx : Loc X.env.scope x := by first | exact Or.inl rfl | exact Or.inr rfl)
    (hs : swapsWith e (some (.Name x p)) pos.line X.env = pure false := by rfl) (hf : X.fn x = true ∨ X.env.scope.names.lookup x = some .local := by first | exact .inl rfl | exact .inr rfl) : SR X z (.Assign [.Name x p] e pos :: rest) es s (.rt d s2) := fun σ H en at_ D q =>
  ⟨_, pss_cons (ps_set hN hi hx wE_ok hs hf) wB_ok, h σ H en at_ _ fun u vs H1 nv N mm l => k nv u vs mm l _ H1 ((N.en en).set i .raw) N.at_ D (N.meets q)⟩
theorem lr_asg (i : Nat) (hN : X.N.Nodup) (h : EL X z e es s cs) (k : ∀ nv u vs, (u, HO.lst vs) ∈ (z.more nv).vol → XL (z.more nv) vs cs → LR X (z.more nv) rest (es.set i (.raw (.ref u))) s cs2) (hi : X.N[i]? = some x := by rfl) (hx : Loc X.env.scope x := by first | exact Or.inl rfl | exact Or.inr rfl)
    (hs : swapsWith e (some (.Name x p)) pos.line X.env = pure false := by rfl) (hf : X.fn x = true ∨ X.env.scope.names.lookup x = some .local := by first | exact .inl rfl | exact .inr rfl) : LR X z (.Assign [.Name x p] e pos :: rest) es s cs2 := fun σ H en at_ D q =>
  ⟨_, pss_cons (ps_set hN hi hx wE_ok hs hf) wB_ok, h σ H en at_ _ fun u vs H1 nv N mm l => k nv u vs mm l _ H1 ((N.en en).set i .raw) N.at_ D fun p ws H' nv2 N2 m2 l2 => by
    rw [more_more] at m2 l2
    exact q p ws H' _ (N.trans N2) m2 l2⟩
theorem lr_ret (h : EL X z e es s cs) : LR X z (.Return (some e) pos :: rest) es s cs := fun σ H en at_ D q =>
  ⟨_, pss_cons (ps_ret wE_ok) wB_never, h σ H en at_ _ q⟩
theorem el_call0 {fa : Addr} {fd : FuncData} {k : Nat} (F : FnOk X.prog X.w X.K X.mg X.base CX0 k fa fd [] (spL cs)) (hr : Room k X.A) (hm : X.mg x = some (.ref fa)) (kp : PySem.W.keepIn X.K (.ref fa) = true) (hb : Binds X.K fd [] []) (hg : Gl X x := by rfl) (hdb : (x == ("__debug__" : Str)) = false := by decide) :
    EL X z (.Call (.Name x p) [] [] pos) es s cs := fun σ H en at_ Q q => ⟨_, pe_call0 F hr hg hm kp hb .nil pass0 hdb, rfl, z, s, at_, q⟩
/-- x = C("..") -/
theorem sr_asgP (i : Nat) (hN : X.N.Nodup) (F : ExcBaseFacts B newId initId bmB) (xc : PySem.W.excIn X.K C bmB newId = true) (hm : X.mg y = some (.ref C)) (kC : PySem.W.keepIn X.K (.ref C) = true) (k : ∀ nv u, XAt (z.more nv) u C → SR X (z.more nv) rest (es.set i (.raw (.ref u))) s (.rt d s2)) (hg : Gl X y := by rfl) (hdb : (y == ("__debug__" : Str)) = false := by decide)
    (he : starEach [.Constant (.str m) j p2] X.env = (false, eval (.Constant (.str m) j p2) X.env) :: starEach [] X.env := by rfl) (hi : X.N[i]? = some x := by rfl) (hx : Loc X.env.scope x := by first | exact Or.inl rfl | exact Or.inr rfl)
    (hs : swapsWith (.Call (.Name y p1) [.Constant (.str m) j p2] [] cpos) (some (.Name x p)) pos.line X.env = pure false := by rfl) (hf : X.fn x = true ∨ X.env.scope.names.lookup x = some .local := by first | exact .inl rfl | exact .inr rfl) :
    SR X z (.Assign [.Name x p] (.Call (.Name y p1) [.Constant (.str m) j p2] [] cpos) pos :: rest) es s (.rt d s2) := fun σ H en at_ D q =>
  ⟨_, pss_cons (ps_set hN hi hx (pe_exc1 F xc hm kC hg pe_str he hdb) hs hf) wB_ok, fun a na => by
    have N := at_.tell na (.ext _) (o := ExO (.ref C) a)
    exact k _ a (.pl (List.mem_cons_self ..) errO_exO) _ _ ((N.en en).set i .raw) N.at_ D (N.meets q)⟩
/-- for i, e in enumerate(list of errors) -/
theorem sr_forX (l m : Nat) {kt : Nat} (hp : PassesOwn (model X.prog X.w) X.A X.env X.xe) (hc : X.calm = true) (hm : X.mg "enumerate" = none) (h : EL X z a es s cs) (E : Nat → List Sl) (h0 : Le es (E 0))
    (hb : ∀ z', Grow z z' → ∀ (i : Nat) (u C : Addr), cs[i]? = some C → XAt z' u C → SR X z' body (((E i).set l (.val (.int (i : Int)))).set m (.raw (.ref u))) s (.nx (E (i + 1)) s)) (k : ∀ z', Grow z z' → SR X z' rest (E cs.length) s (.rt d s2))
    (hg : PG X (.Tuple [.Name x p1, .Name y p2] kt p3) (gTup X.K 2 (gCons (gName l) (gCons (gName m) gNil)))) (hgl : Gl X "enumerate" := by rfl) (hst : starEach [a] X.env = [(false, eval a X.env)] := by rfl) (hfo : ∀ x, foldedSetIterable (.Call (.Name "enumerate" p4) [a] [] p5) X.env x = pure x := by intro _; rfl)
    (hse : starEach [a] X.env = (false, eval a X.env) :: starEach [] X.env := by rfl) :
    SR X z (.For (.Tuple [.Name x p1, .Name y p2] kt p3) (.Call (.Name "enumerate" p4) [a] [] p5) body [] pos :: rest) es s (.rt d s2) := fun σ H en at_ D q =>
  ⟨_, pss_cons (ps_for hp hc (pi_enum hgl hm (pa_cons wE_ok pa_nil hse) hst) hg wB_ok hfo) wB_ok, h σ H en at_ _ fun u vs H1 nv N mm lx => by
    have ln := lx.length
    refine ⟨u, vs, rfl, .inl (.inl (N.at_.v _ mm)), for_it (walk_enum (K := X.K) (a := u) (xs := vs)) (fun i σ' H' => Ez (z.more nv) H1 H' ∧ At (z.more nv) H' s ∧ En (z.more nv) H' σ' (E i)) ⟨.refl _, N.at_, (N.en en).le h0⟩ (fun i σ' H' _ w => ?_) (fun i v σ' H' H2 hi w hY => ?_) fun σ' H' w => ?_⟩
    · exact .inl (.inl (w.2.1.v _ mm))
    · obtain ⟨t, n, v', rfl, nt, rfl, hu, hv⟩ := hY
      cases hu
      obtain ⟨ea, C, rfl, hC, hx⟩ := lx.get i v' hv
      have k1 : Ez (z.more nv) H' (upd H' t (.tup [.int (i : Int), .ref ea])) := .new nt
      exact ⟨t, _, rfl, .inl (.inl upd_same), rfl, _, _, rfl, _, _, rfl, rfl, hb _ .more i ea C hC hx _ _ (((w.2.2.mono k1).set l (.val (.int _))).set m .raw) (w.2.1.new nt) _ fun σ3 H3 e3 a3 n3 => ⟨(w.1.trans k1).trans e3, a3, n3⟩⟩
    · rw [ln] at w
      exact k _ .more σ' H' w.2.2 w.2.1 D fun v H3 k3 a3 r3 => N.meets q v H3 (w.1.trans k3) a3 r3⟩
end
/-- a new list is written, and told of from here on -/
theorem New.write {z : Z} {H H1 : Hp} {s : S} {nv : List (Addr × HO)} {p : Addr} {xs : List V} {o' : HO} (A : At z H s) (N : New z H H1 s nv) (hp : H p = none) (h1 : H1 p = some (.lst xs)) (hn : ∀ q ∈ nv, q.1 ≠ p) (n : NT o') : New z H (upd H1 p o') s ((p, o') :: nv) := by
  have old : ∀ b u, H b = some u → b ≠ p := fun b u e => ne_of_none e hp
  have nd : z.dice ≠ some p := fun e => old p _ (A.d p e) rfl
  refine ⟨fun q m => ?_, fun b u e => ?_, ⟨fun c e => ?_, fun q m => ?_, fun q m => ?_, tabs_upd N.at_.t h1⟩⟩
  · rcases List.mem_cons.mp m with rfl | m
    · exact hp
    · exact N.no q m
  · rw [upd_ne (old b u e)]
    exact N.up b u e
  · have e : z.dice = some c := e
    rw [upd_ne (fun hc => nd (by rw [e, hc]))]
    exact N.at_.d c e
  · rcases List.mem_cons.mp m with rfl | m
    · exact upd_same
    · have ne : q.1 ≠ p := by
        rcases List.mem_append.mp m with m' | m'
        · exact hn q m'
        · exact old _ _ (A.v q m')
      rw [upd_ne ne]
      exact N.at_.v q m
  · rcases List.mem_cons.mp m with rfl | m
    · exact ⟨nd, n⟩
    · exact N.at_.n q m
section
variable {X : Cx} {z : Z} {es : List Sl} {s s2 : S} {xs : List Expr} {d d1 d2 : PyData} {ds : List PyData} {C : Addr} {cs : List Addr} {f x y w : Str} {newId : String} {bmB : List Value} {p p1 p2 p3 pos pos2 lpos apos cpos kpos : Pos} {rest : List Stmt} {e : Expr}
/-- x = [errors]; x.append(C(v)) -/
theorem sr_keep (i l : Nat) (hN : X.N.Nodup) (h : EXs X z xs es s cs) (O : OxV X y C f newId bmB) (hr : Room 2 X.A) (hc : cs.length ≤ 1000) (hil : l ≠ i) (hlen : i < es.length) (k : ∀ nv u vs, (u, HO.lst vs) ∈ (z.more nv).vol → XL (z.more nv) vs (cs ++ [C]) → SR X (z.more nv) rest (es.set i (.raw (.ref u))) s (.rt d s2))
    (hl : es[l]? = some (.val d1) := by rfl) (hi : X.N[i]? = some x := by rfl) (hx : Loc X.env.scope x := by first | exact Or.inl rfl | exact Or.inr rfl) (hNl : X.N[l]? = some w := by rfl) (hvw : Vis X.env.scope w := by first | exact Or.inl rfl | exact Or.inr (Or.inl rfl) | exact Or.inr (Or.inr rfl)) (hdw : (w == ("__debug__" : Str)) = false := by decide) (hcw : (w == ("__classdict__" : Str)) = false := by decide)
    (hvx : Vis X.env.scope x := by first | exact Or.inl rfl | exact Or.inr (Or.inl rfl) | exact Or.inr (Or.inr rfl)) (hdx : (x == ("__debug__" : Str)) = false := by decide) (hcx : (x == ("__classdict__" : Str)) = false := by decide)
    (hs : swapsWith (.List xs lpos) (some (.Name x p)) pos.line X.env = pure false := by rfl) (hf : X.fn x = true ∨ X.env.scope.names.lookup x = some .local := by first | exact .inl rfl | exact .inr rfl)
    (hg : Gl X y := by rfl) (hdb : (y == ("__debug__" : Str)) = false := by decide) (he : starEach [.Name w p2] X.env = (false, eval (.Name w p2) X.env) :: starEach [] X.env := by rfl) (hpl : (backTo kpos (starEach [] X.env)).any (·.1) = false := by rfl)
    (hbase : attributeBase (.Name x p1) "append" X.env (eval (.Name x p1) X.env) = eval (.Name x p1) X.env := by rfl)
    (hfew : ((backTo cpos (starEach ((.Call (.Name y p3) [.Name w p2] [] kpos) :: []) X.env)).all (fun x => !x.1) && (backToKw cpos (keywordEach [] X.env)).all (fun x => x.1.isSome) && decide (((.Call (.Name y p3) [.Name w p2] [] kpos) :: [] : List Expr).length + ([] : List Keyword).length + (if ([] : List Keyword).isEmpty then 0 else 1) < 30)) = true := by rfl)
    (hline : (apos.endLine == cpos.line) = true := by rfl) (hse : starEach ((.Call (.Name y p3) [.Name w p2] [] kpos) :: []) X.env = (false, eval (.Call (.Name y p3) [.Name w p2] [] kpos) X.env) :: starEach [] X.env := by rfl) (hpl2 : (backTo cpos (starEach [] X.env)).any (·.1) = false := by rfl)
    (hs2 : swapsWith (.Call (.Attribute (.Name x p1) "append" apos) [.Call (.Name y p3) [.Name w p2] [] kpos] [] cpos) none pos2.line X.env = pure false := by rfl) :
    SR X z (.Assign [.Name x p] (.List xs lpos) pos :: .Expr (.Call (.Attribute (.Name x p1) "append" apos) [.Call (.Name y p3) [.Name w p2] [] kpos] [] cpos) pos2 :: rest) es s (.rt d s2) := fun σ H en at_ D q => by
  obtain ⟨fI, fd, ps, i1, i2, F1, bn⟩ := O.I
  refine ⟨_, pss_cons (ps_set hN hi hx (pe_lst wA_ok) hs hf) (pss_cons (ps_expr (pe_bm PySem.F.plainAttrs_list PySem.F.slot_list_append PySem.F.type_list_append mt_append (pe_var hi hvx hdx hcx) (pa_cons (pe_oxN (CX := CX0) O.T O.NB i1 i2 F1 hr bn (fun _ _ _ _ _ _ _ h => h.elim) hg O.m (pa_cons (pe_var hNl hvw hdw hcw) pa_nil he) hdb he hpl) pa_nil hse) hbase hfew hline hse hpl2) hs2) wB_ok), h σ H en at_ _ fun vs H1 nv N lx => ⟨by rw [lx.length, sizeLine_eq]; omega, fun pl hpl0 => ?_⟩⟩
  have hp0 : H pl = none := by
    cases hh : H pl with
    | none => rfl
    | some o => rw [N.up _ _ hh] at hpl0; cases hpl0
  have hnp : ∀ q ∈ nv, q.1 ≠ pl := fun q m e => by
    have := N.at_.v q (List.mem_append_left _ m)
    rw [e, hpl0] at this
    cases this
  have sl : (σ.set i (some (.ref pl)))[i]? = some (some (.ref pl)) := by
    have hh : i < σ.length := by rw [en.length]; exact hlen
    simp [hh]
  obtain ⟨v, e1, e2⟩ := en.get hl
  have sl2 : (σ.set i (some (.ref pl)))[l]? = some (some v) := by rw [List.getElem?_set_ne (Ne.symm hil)]; exact e1
  refine ⟨.ref pl, sl, .inl ⟨rfl, vs, .inl (.inl upd_same)⟩, v, sl2, by show 1 ≤ 1000; omega, fun a na => ⟨a, v, rfl, upd_same, fun dx nd ne => ⟨rfl, ?_⟩⟩⟩
  rw [upd_ne ne] at nd
  have ap : a ≠ pl := fun e => by rw [e, upd_same] at na; cases na
  have dp : dx ≠ pl := fun e => by rw [e, upd_same] at nd; cases nd
  have na1 : H1 a = none := by rwa [upd_ne ap] at na
  have nd1 : H1 dx = none := by rwa [upd_ne dp] at nd
  have N0 := N.trans (N.at_.tell nd1 (.ext _) (o := exd dx [(f, v)]))
  have N1 := N0.trans (N0.at_.tell (a := a) (by rw [upd_ne (Ne.symm ne)]; exact na1) (.ext _) (o := exo a C (some dx)))
  have eqH : upd (upd (upd (upd H1 pl (.lst vs)) a (exo a C none)) dx (exd dx [(f, v)])) a (exo a C (some dx)) = upd (upd (upd H1 dx (exd dx [(f, v)])) a (exo a C (some dx))) pl (.lst vs) := by
    funext b
    by_cases hb : b = a
    · rw [hb, upd_same, upd_ne ap, upd_same]
    · rw [upd_ne hb]
      by_cases hd : b = dx
      · rw [hd, upd_same, upd_ne dp, upd_ne ne, upd_same]
      · rw [upd_ne hd, upd_ne hb]
        by_cases hq : b = pl
        · rw [hq, upd_same, upd_same]
        · rw [upd_ne hq, upd_ne hq, upd_ne hb, upd_ne hd]
  rw [eqH]
  refine ⟨pl, vs, .ref a, rfl, rfl, upd_same, by rw [lx.length, sizeLine_eq]; omega, ?_⟩
  rw [upd_upd]
  have pn : (upd (upd H1 dx (exd dx [(f, v)])) a (exo a C (some dx))) pl = none := by rw [upd_ne (Ne.symm ap), upd_ne (Ne.symm dp)]; exact hpl0
  have N2 := N1.trans (N1.at_.tell pn (.lst (vs ++ [.ref a])))
  refine k _ pl (vs ++ [.ref a]) ?_ ?_ _ _ ((N2.en en).set i .raw) N2.at_ D (N2.meets q)
  · exact List.mem_append_left _ (List.mem_append_left _ (List.mem_singleton.mpr rfl))
  · refine XL.app ?_ (.cons (.wf (o := exo a C (some dx)) (od := exd dx [(f, v)]) (dx := dx) ?_ errO_exo ?_ stands_exd) .nil)
    · rw [← more_more, ← more_more, ← more_more]
      exact ((lx.more _).more _).more _
    · exact List.mem_append_left _ (List.mem_append_right _ (List.mem_append_left _ (List.mem_singleton.mpr rfl)))
    · exact List.mem_append_left _ (List.mem_append_right _ (List.mem_append_right _ (List.mem_append_left _ (List.mem_singleton.mpr rfl))))
/-- x = [data]; x.append(e) -/
theorem sr_lstApp (i : Nat) (hN : X.N.Nodup) (h : ED X z xs es s ds s) (h2 : ∀ z' pl, EV X z' e (es.set i (.raw (.ref pl))) s d2 s) (hc : ds.length ≤ 1000) (k : SR X z rest (es.set i (.val (.list (ds ++ [d2])))) s (.rt d s2)) (hlen : i < es.length)
    (hi : X.N[i]? = some x := by rfl) (hx : Loc X.env.scope x := by first | exact Or.inl rfl | exact Or.inr rfl)
    (hvx : Vis X.env.scope x := by first | exact Or.inl rfl | exact Or.inr (Or.inl rfl) | exact Or.inr (Or.inr rfl)) (hdx : (x == ("__debug__" : Str)) = false := by decide) (hcx : (x == ("__classdict__" : Str)) = false := by decide)
    (hs : swapsWith (.List xs lpos) (some (.Name x p)) pos.line X.env = pure false := by rfl) (hf : X.fn x = true ∨ X.env.scope.names.lookup x = some .local := by first | exact .inl rfl | exact .inr rfl)
    (hbase : attributeBase (.Name x p1) "append" X.env (eval (.Name x p1) X.env) = eval (.Name x p1) X.env := by rfl)
    (hfew : ((backTo cpos (starEach (e :: []) X.env)).all (fun x => !x.1) && (backToKw cpos (keywordEach [] X.env)).all (fun x => x.1.isSome) && decide ((e :: [] : List Expr).length + ([] : List Keyword).length + (if ([] : List Keyword).isEmpty then 0 else 1) < 30)) = true := by rfl)
    (hline : (apos.endLine == cpos.line) = true := by rfl) (hse : starEach (e :: []) X.env = (false, eval e X.env) :: starEach [] X.env := by rfl) (hpl2 : (backTo cpos (starEach [] X.env)).any (·.1) = false := by rfl)
    (hs2 : swapsWith (.Call (.Attribute (.Name x p1) "append" apos) [e] [] cpos) none pos2.line X.env = pure false := by rfl) :
    SR X z (.Assign [.Name x p] (.List xs lpos) pos :: .Expr (.Call (.Attribute (.Name x p1) "append" apos) [e] [] cpos) pos2 :: rest) es s (.rt d s2) := fun σ H en at_ D q => by
  refine ⟨_, pss_cons (ps_set hN hi hx (pe_lst wA_ok) hs hf) (pss_cons (ps_expr (pe_bm PySem.F.plainAttrs_list PySem.F.slot_list_append PySem.F.type_list_append mt_append (pe_var hi hvx hdx hcx) (pa_cons wE_ok pa_nil hse) hbase hfew hline hse hpl2) hs2) wB_ok), h σ H en at_ _ fun vs H1 k1 a1 lx => ⟨by rw [lx.length, sizeLine_eq]; omega, fun pl hp => ?_⟩⟩
  have N := a1.tell hp (.lst vs)
  have sl : (σ.set i (some (.ref pl)))[i]? = some (some (.ref pl)) := by
    have hh : i < σ.length := by rw [en.length]; exact hlen
    simp [hh]
  refine ⟨.ref pl, sl, .inl ⟨rfl, vs, .inl (.inl upd_same)⟩, h2 _ pl _ _ ((N.en (en.mono k1)).set i .raw) N.at_ _ fun v H2 k2 a2 r2 => ?_⟩
  have hpl2 : H2 pl = some (.lst vs) := a2.v (pl, .lst vs) (List.mem_cons_self ..)
  refine ⟨pl, vs, v, rfl, rfl, hpl2, by rw [lx.length, sizeLine_eq]; omega, ?_⟩
  have fp : Fz z pl := a1.fresh hp
  have a3 : At z (upd H2 pl (.lst (vs ++ [v]))) s := by
    refine ⟨fun c e => ?_, fun q m => ?_, fun q m => a1.n q m, tabs_upd a2.t hpl2⟩
    · rw [upd_ne (fun hc => fp.1.1 (by rw [e, hc]))]
      exact a2.d c e
    · rw [upd_ne (fun hc => fp.2 q.2 (by rw [← hc]; exact m))]
      exact a2.v q (List.mem_cons_of_mem _ m)
  have ez : Ez z H1 (upd H2 pl (.lst (vs ++ [v]))) := fun b u f hb => by
    rw [upd_ne (ne_of_none hb hp)]
    exact N.ez k2 b u f hb
  have re : ∀ b u, Fz (z.more [(pl, HO.lst vs)]) b → H2 b = some u → Fz z b ∧ upd H2 pl (.lst (vs ++ [v])) b = some u := fun b u f hb => by
    refine ⟨f.less, ?_⟩
    rw [upd_ne (fun hc => f.2 (.lst vs) (by rw [hc]; exact List.mem_cons_self ..))]
    exact hb
  have r3 : Da z (upd H2 pl (.lst (vs ++ [v]))) v d2 := r2.re re
  have lx3 : DaAll z (upd H2 pl (.lst (vs ++ [v]))) vs ds := lx.mono ez
  exact k _ _ (((en.mono k1).mono ez).set i (.val (.lst fp upd_same (lx3.app (.cons r3 .nil))))) a3 D (q.mono (k1.trans ez))
end
end DL


set_option Elab.async false
set_option linter.all false
set_option maxRecDepth 100000
namespace DL
open PySem PySem.Spec PyProof.Rows L2
variable [TabT]
/-! ### data whose dicts have one entry, a text's: read, and shown -/
mutual
def okd : PyData → Bool
  | .none => true
  | .bool _ => true
  | .int _ => true
  | .str _ => true
  | .list xs => okdAll xs
  | .tuple xs => okdAll xs
  | .dict [(.str _, .int _)] => true
  | .dict _ => false
def okdAll : List PyData → Bool
  | [] => true
  | x :: xs => okd x && okdAll xs
end
theorem pairs_nil {K : Type} [DecidableEq K] {P : Program} {w : World} {kd : PySem.KeyKind P w K} {es : List DictEntry} {k : K} {v : Value} (h : Pairs kd es [(k, v)]) : ∃ e, es = [e] ∧ kd.is k e.key = true ∧ e.val = v := by
  cases es with
  | nil => cases h
  | cons e r =>
    cases r with
    | nil =>
      cases h with
      | cons a b c => exact ⟨e, rfl, a, b⟩
    | cons e2 r2 =>
      cases h with
      | cons a b c => cases c
/-- one value's repr, told: read from the heap, shown within another's, and shown alone -/
structure RK (P : Program) (w : World) (h : Heap) (u : Value) (d : PyData) (as bs : List Addr) : Prop where
  r : Reads h u d as
  m : ReadAtMost h d.depth bs
  k : ReprK P w bs h d.depth u d.shown
  t : ∀ a, u = .ref a → ∀ (A : Around) (E : Value → Shared → Prop) (s : Shared) (Q : Value → Shared → Prop), A.guards = some [] → A.units + (d.depth + 1) < cLine → (∀ b o, h.get? b = some o → s.heap.get? b = some o) →
    (∀ h' x tk, (∀ b o, s.heap.get? b = some o → h'.get? b = some o) → Q (.str d.shown x) { s with heap := h', toks := tk }) → wpAny (model P w) A (call (.builtin "repr") [.ref a]) Q E s
structure RKAll (P : Program) (w : World) (h : Heap) (us : List Value) (ds : List PyData) (as bs : List Addr) : Prop where
  r : ReadsAll h us ds as
  m : ReadAtMost h (PyData.depthAll ds) bs
  k : ReprAllK P w bs h (PyData.depthAll ds) us (PyData.shownAll ds)
section
variable {P : Program} {w : World} {h : Heap} {a : Addr} {o : Obj} {n : Nat} {as bs : List Addr}
theorem RK.calm {u : Value} {d : PyData} (hu : ∀ a, u ≠ .ref a) (r : Reads h u d []) (k : ReprIs P w u d.shown) : RK P w h u d [] [] := ⟨r, fun _ m => (by cases m), .of_is k _ _ _, fun a e => absurd e (hu a)⟩
theorem RKAll.cons {u : Value} {us : List Value} {d : PyData} {ds : List PyData} {as' bs' : List Addr} (x : RK P w h u d as bs) (y : RKAll P w h us ds as' bs') : RKAll P w h (u :: us) (d :: ds) (as ++ as') (bs ++ bs') := by
  refine ⟨.cons x.r y.r, ?_, ?_⟩
  · show ReadAtMost h (max d.depth (PyData.depthAll ds)) _
    exact (x.m.mono (Nat.le_max_left _ _)).append (y.m.mono (Nat.le_max_right _ _))
  · show ReprAllK P w _ h (max d.depth (PyData.depthAll ds)) _ (d.shown :: PyData.shownAll ds)
    exact .cons ((x.k.more fun b hb => List.mem_append_left _ hb).level_le (Nat.le_max_left _ _)) (y.k.more_le (fun b hb => List.mem_append_right _ hb) (Nat.le_max_right _ _))
theorem RK.lst {vs : Array Value} {ds : List PyData} (h1 : h.get? a = some o) (h2 : o.cls = .type "list") (h3 : o.data = .seq vs n) (x : RKAll P w h vs.toList ds as bs) (hz : (PyData.list ds).shown.length ≤ sizeLine) : RK P w h (.ref a) (.list ds) (a :: as) (a :: bs) := by
  have r : Reads h (.ref a) (.list ds) (a :: as) := .list h1 h2 h3 x.r
  have dp : (PyData.list ds).depth = PyData.depthAll ds + 1 := by simp only [PyData.depth]
  have sh : (PyData.list ds).shown = listText (PyData.shownAll ds) := by simp only [PyData.shown]
  have na : a ∉ bs := not_mem_of_deeper r (by rw [dp]; omega) x.m
  have xk := x.k
  obtain ⟨l⟩ := vs
  refine ⟨r, .cons r (by rw [dp]; omega) x.m, ?_, fun b e => ?_⟩
  · rw [dp, sh]
    cases l with
    | nil =>
      have z : ReprAllK P w bs h (PyData.depthAll ds) [] (PyData.shownAll ds) := xk
      generalize PyData.shownAll ds = ts at z ⊢
      cases z
      rw [listText_nil]
      exact .listEmpty h1 h2 h3
    | cons y l => exact .list h1 h2 h3 na (by simpa using xk.length_eq) fun i v e => xk.item i v (by simpa using e)
  · cases e
    intro A E s Q hg hu hk hQ
    rw [dp] at hu
    rw [sh] at hQ hz
    refine call_repr_slot (T := "list") (by omega) ⟨o, hk _ _ h1, h2⟩ PySem.F.slot_list_repr.toG ?_
    have hu1 : A.in1.units + (PyData.depthAll ds + 1) < cLine := by
      show A.units + 1 + (PyData.depthAll ds + 1) < cLine
      omega
    cases l with
    | nil =>
      have z : ReprAllK P w bs h (PyData.depthAll ds) [] (PyData.shownAll ds) := xk
      generalize PyData.shownAll ds = ts at z hQ
      cases z
      rw [listText_nil] at hQ
      exact call_list_repr_empty ⟨o, hk _ _ h1, h2⟩ (hk _ _ h1) h3 ⟨_, _, rfl, hQ s.heap _ _ fun _ _ e => e⟩
    | cons y l => exact call_list_reprK h1 h2 h3 na (by simpa using xk.length_eq) (fun i v e => xk.item i v (by simpa using e)) hg (fun b _ => Clear.nil b) hu1 hk (fun h' u tk kept => ⟨_, _, rfl, hQ h' u tk kept⟩) hz
theorem RK.tup {vs : Array Value} {ds : List PyData} (h1 : h.get? a = some o) (h2 : o.cls = .type "tuple") (h3 : o.data = .seq vs n) (x : RKAll P w h vs.toList ds as bs) (hz : (PyData.tuple ds).shown.length ≤ sizeLine) : RK P w h (.ref a) (.tuple ds) as (a :: bs) := by
  have r : Reads h (.ref a) (.tuple ds) as := .tuple h1 h2 h3 x.r
  have dp : (PyData.tuple ds).depth = PyData.depthAll ds + 1 := by simp only [PyData.depth]
  have sh : (PyData.tuple ds).shown = tupleText (PyData.shownAll ds) := by simp only [PyData.shown]
  have na : a ∉ bs := not_mem_of_deeper r (by rw [dp]; omega) x.m
  refine ⟨r, .cons r (by rw [dp]; omega) x.m, ?_, fun b e => ?_⟩
  · rw [dp, sh]
    exact .tuple h1 h2 h3 na x.k
  · cases e
    intro A E s Q hg hu hk hQ
    rw [dp] at hu
    rw [sh] at hQ hz
    refine call_repr_slot (T := "tuple") (by omega) ⟨o, hk _ _ h1, h2⟩ (by first | exact PySem.F.slot_tuple_repr | exact PySem.F.slot_tuple_repr.toG) ?_
    have hu1 : A.in1.units + (PyData.depthAll ds + 1) < cLine := by
      show A.units + 1 + (PyData.depthAll ds + 1) < cLine
      omega
    exact call_tuple_reprK h1 h2 h3 na x.k hg (fun b _ => Clear.nil b) hu1 hk (fun h' u tk kept => ⟨_, _, rfl, hQ h' u tk kept⟩) hz
/-- a dict of one entry, a text's -/
theorem RK.txt {es : Array DictEntry} {en : DictEntry} {x : Str} {i : Int} {u t : Tok} (h1 : h.get? a = some o) (h2 : o.cls = .type "dict") (h3 : o.data = .dict es n) (he : es.toList = [en]) (ek : en.key = .str x u) (ev : en.val = .int i t) (ns : (a == sysModules) = false)
    (hi : i.natAbs.log2 < 1920) (hz : (PyData.dict [(.str x, .int i)]).shown.length ≤ sizeLine) : RK P w h (.ref a) (.dict [(.str x, .int i)]) [a] [a] := by
  have r : Reads h (.ref a) (.dict [(.str x, .int i)]) [a] := .dict (as := []) (bs := []) h1 h2 h3 (by rw [he]; exact .cons (as := []) (bs := []) (by show Reads h en.key (.str x) []; rw [ek]; exact .str x u) .nil) (by rw [he]; exact .cons (as := []) (bs := []) (by show Reads h en.val (.int i) []; rw [ev]; exact .int i t) .nil)
  have dp : (PyData.dict [(.str x, .int i)]).depth = 0 + 1 := by simp [PyData.depth, PyData.depthKv]
  have sh : (PyData.dict [(.str x, .int i)]).shown = dictText [reprText x ++ ": " ++ (toString i : Str)] := by simp only [PyData.shown, PyData.shownKv]
  rw [sh] at hz
  have hx : (reprText x).length ≤ sizeLine := by
    have := dictText_mem_le (ps := [reprText x ++ ": " ++ (toString i : Str)]) (List.mem_cons_self ..)
    rw [strLen_append, strLen_append] at this
    omega
  have E : ReprEntriesK P w [] h 0 es.toList [reprText x ++ ": " ++ (toString i : Str)] := by
    rw [he]
    refine .cons ?_ ?_ .nil
    · rw [ek]
      exact .of_is (ReprIs.str x u hx) _ _ _
    · rw [ev]
      exact .of_is (ReprIs.int t hi) _ _ _
  have na : a ∉ ([] : List Addr) := by simp
  refine ⟨r, .cons r (n := 0) (by omega) (fun _ m => (by cases m)), ?_, fun b e => ?_⟩
  · rw [dp, sh]
    exact .dict h1 h2 h3 ns na E
  · cases e
    intro A E' s Q hg hu hk hQ
    rw [dp] at hu
    rw [sh] at hQ
    refine call_repr_slot (T := "dict") (by omega) ⟨o, hk _ _ h1, h2⟩ (by first | exact PySem.F.slot_dict_repr | exact PySem.F.slot_dict_repr.toG) ?_
    have hu1 : A.in1.units + (0 + 1) < cLine := by
      show A.units + 1 + (0 + 1) < cLine
      omega
    exact call_dict_reprK h1 h2 h3 ns na E hg (fun b _ => Clear.nil b) hu1 hk (fun h' u tk kept => ⟨_, _, rfl, hQ h' u tk kept⟩) hz
end
section
variable {X : Cx} {pins : List (Addr × Obj)} {σ : L2.St} {H : Hp} {s : Shared} {z : Z}
mutual
theorem Da.rk (I : Inv X pins σ H s) : ∀ (d : PyData) (v : V) (u : Value), Da z H v d → okd d = true → RelV v u → d.showable = true → d.shown.length ≤ sizeLine → ∃ as bs, RK X.prog X.w s.heap u d as bs
  | .none, _, _, h, _, r, _, _ => by
    cases h
    cases r
    exact ⟨_, _, .calm (fun _ => nofun) .none (by simp only [PyData.shown]; exact ReprIs.none)⟩
  | .bool b, _, _, h, _, r, _, _ => by
    cases h
    cases r
    exact ⟨_, _, .calm (fun _ => nofun) (.bool b) (by simp only [PyData.shown]; exact ReprIs.bool b)⟩
  | .int i, _, _, h, _, r, q, _ => by
    cases h
    obtain ⟨t, rfl⟩ := r
    exact ⟨_, _, .calm (fun _ => nofun) (.int i t) (by simp only [PyData.shown]; exact ReprIs.int t (by simpa [PyData.showable] using q))⟩
  | .str x, _, _, h, _, r, _, q => by
    cases h
    obtain ⟨t, rfl⟩ := r
    exact ⟨_, _, .calm (fun _ => nofun) (.str x t) (by simp only [PyData.shown]; exact ReprIs.str x t (by simpa only [PyData.shown] using q))⟩
  | .list ds, _, _, h, q, r, w, y => by
    cases h with
    | @lst a xs _ fa ha rr =>
      cases r
      obtain ⟨_, its, n, rv, e⟩ := I.hok a _ ha
      have y' : (listText (PyData.shownAll ds)).length ≤ sizeLine := by simpa only [PyData.shown] using y
      obtain ⟨as, bs, h1⟩ := DaAll.rk I ds xs its rr (by simpa [okd] using q) rv (by simpa [PyData.showable] using w) fun t ht => Nat.le_trans (listText_mem_le ht) y'
      exact ⟨_, _, .lst e rfl rfl (by simpa using h1) y⟩
  | .tuple ds, _, _, h, q, r, w, y => by
    cases h with
    | @tup a xs _ fa ha rr =>
      cases r
      obtain ⟨_, its, rv, ob, e, hc, n, hd⟩ := I.hok a _ ha
      have y' : (tupleText (PyData.shownAll ds)).length ≤ sizeLine := by simpa only [PyData.shown] using y
      obtain ⟨as, bs, h1⟩ := DaAll.rk I ds xs its rr (by simpa [okd] using q) rv (by simpa [PyData.showable] using w) fun t ht => Nat.le_trans (tupleText_mem_le ht) y'
      exact ⟨_, _, .tup e hc hd (by simpa using h1) y⟩
  | .dict kv, _, _, h, q, r, w, y => by
    cases h with
    | @dkv a kvs ks ds _ fa ha hk rr he =>
      exfalso
      match kv, q, he with
      | [(.str x, .int i)], _, he =>
        cases ks with
        | nil => cases he
        | cons k ks =>
          cases ds with
          | nil => cases he
          | cons d ds =>
            have z := (List.cons.inj he).1
            have z2 := (Prod.mk.inj z).1
            cases z2
    | @odd a o _ fa ha ro =>
      cases r
      cases ro with
      | txt x i =>
        obtain ⟨_, nsys, vs, rel, o, es, ep, ho, ex, hd, _, prs, _⟩ := I.hok a _ ha
        cases rel with
        | @cons p0 q0 _ _ a1 b1 =>
          cases b1
          obtain ⟨k0, v0⟩ := q0
          obtain ⟨e1, e2⟩ := a1
          have e1 : Sum.inr x = k0 := e1
          subst e1
          obtain ⟨t, rfl⟩ : ∃ t, v0 = Value.int i t := e2
          obtain ⟨en, hen, hkey, hval⟩ := pairs_nil prs
          obtain ⟨u, hu⟩ : ∃ u, en.key = Value.str x u := by
            have hkey : keyIs (.inr x) en.key = true := hkey
            rcases keyIs_shape hkey with ⟨j, u, hj, e⟩ | ⟨y, u, hj, e⟩
            · cases hj
            · injection hj with hj
              exact ⟨u, by rw [e, hj]⟩
          exact ⟨_, _, .txt ho ex.1 hd hen hu hval nsys (by simpa [PyData.showable, PyData.showableKv] using w) y⟩
      | tru k i =>
        simp [okd] at q
theorem DaAll.rk (I : Inv X pins σ H s) : ∀ (ds : List PyData) (vs : List V) (us : List Value), DaAll z H vs ds → okdAll ds = true → Vals vs us → PyData.showableAll ds = true → (∀ t ∈ PyData.shownAll ds, t.length ≤ sizeLine) → ∃ as bs, RKAll X.prog X.w s.heap us ds as bs
  | [], _, _, h, _, r, _, _ => by
    cases h
    cases r
    exact ⟨[], [], .nil, fun _ m => (by cases m), by simp only [PyData.shownAll]; exact .nil⟩
  | d :: ds, _, _, h, q, r, w, y => by
    cases h with
    | cons h1 h2 =>
      cases r with
      | cons r1 r2 =>
        simp only [okdAll, Bool.and_eq_true] at q
        simp only [PyData.showableAll, Bool.and_eq_true] at w
        simp only [PyData.shownAll, List.mem_cons, forall_eq_or_imp] at y
        obtain ⟨as, bs, a1⟩ := Da.rk I d _ _ h1 q.1 r1 w.1 y.1
        obtain ⟨as', bs', b1⟩ := DaAll.rk I ds _ _ h2 q.2 r2 w.2 y.2
        exact ⟨_, _, .cons a1 b1⟩
end
end
/-- data whose repr is told, dicts among them -/
structure ShwX (d : PyData) : Prop where
  n : okd d = true
  s : d.showable = true
  k : d.depth ≤ 64
  z : d.shown.length ≤ sizeLine
theorem cr_reprX {X : Cx} {z : Z} (hg : X.A.guards = some []) (hu : X.A.units + 66 < cLine) : CallR X (.builtin "repr") (fun vs H Q => ∃ v d, vs = [v] ∧ Da z H v d ∧ ShwX d ∧ Q (.str d.shown) H) := by
  intro pins s σ H vs us Q I r h
  obtain ⟨v, d, rfl, hv, w, q⟩ := h
  cases r with
  | @cons _ u _ _ ru r =>
    cases r
    obtain ⟨as, bs, rk⟩ := hv.rk I d v u w.n ru w.s w.z
    have k := w.k
    cases hv with
    | non =>
      cases ru
      exact PySem.P.repr_of_none ⟨.str _, H, I.tok _, ⟨_, rfl⟩, q⟩
    | bl b =>
      cases ru
      exact PySem.P.repr_of_bool ⟨.str _, H, I.tok _, ⟨_, rfl⟩, by cases b <;> exact q⟩
    | int i =>
      obtain ⟨t, rfl⟩ := ru
      exact PySem.P.repr_of_int (by have := w.s; simpa [PyData.showable] using this) ⟨.str _, H, I.tok _, ⟨_, rfl⟩, q⟩
    | str x =>
      obtain ⟨t, rfl⟩ := ru
      exact PySem.P.repr_of_str (hsz := w.z) ⟨.str _, H, I.tok _, ⟨_, rfl⟩, q⟩
    | _ =>
      cases ru
      exact rk.t _ rfl _ _ _ _ hg (by omega) (fun _ _ e => e) fun h' u tk kept => ⟨.str _, H, I.kept kept, ⟨_, rfl⟩, q⟩
theorem ev_reprX {X : Cx} {z : Z} {es : List Sl} {s s1 : S} {e : Expr} {p pos : Pos} {d : PyData} (hg : X.A.guards = some []) (hu : X.A.units + 66 < cLine) (hm : X.mg "repr" = none) (w : ShwX d) (h : EV X z e es s d s1) (gl : Gl X "repr" := by rfl)
    (he : starEach [e] X.env = (false, eval e X.env) :: starEach [] X.env := by rfl) (hpl : (backTo pos (starEach [] X.env)).any (·.1) = false := by rfl) : EV X z (.Call (.Name "repr" p) [e] [] pos) es s (.str d.shown) s1 :=
  .mk (pe_callB (cr_reprX (z := z) hg hu) gl hm (by decide +kernel) (pa_cons wE_ok pa_nil he) (by decide) (by decide) he hpl) fun σ H en at_ Q q => h σ H en at_ _ fun v H1 e1 a1 v1 => ⟨v, d, rfl, v1, w, q _ H1 e1 a1 (.str _)⟩
end DL


set_option Elab.async false
set_option linter.all false
set_option maxRecDepth 100000
namespace DL
open PySem PySem.Spec PyProof.Rows L2
variable [TabT]
/-! ### try: several clauses; the suites know that the error's context is None -/
inductive HsN (X : Cx) : List ExceptHandler → List Cl → Prop
  | nil : HsN X [] []
  | bare {x : Str} {c : Value} {ts : Addr → Value → Option Addr → TS} {st : Stmt} {sts : List Stmt} {pn pc : Pos} {hs : List ExceptHandler} {l : List Cl} (hc : Names X x c)
      (hsu : ∀ (e : Addr) (oe : Obj) (ty : Value) (dx : Option Addr) (ps : List (Addr × Obj)), L2N.Zn ty dx oe → (∃ vs, oe.data = .fields vs) → PSs (X.suite e ((e, oe) :: ps)) (st :: sts) (ts e ty dx)) (r : HsN X hs l) :
      HsN X (.ExceptHandler (some (.Name x pn)) none (st :: sts) pc :: hs) ((c, none, ts) :: l)
  | named {x n : Str} {i : Nat} {c : Value} {ts : Addr → Value → Option Addr → TS} {st : Stmt} {sts : List Stmt} {pn pc : Pos} {hs : List ExceptHandler} {l : List Cl} (hc : Names X x c) (hi : X.N[i]? = some n) (hln : X.env.kindOf n = some .local)
      (hsu : ∀ (e : Addr) (oe : Obj) (ty : Value) (dx : Option Addr) (ps : List (Addr × Obj)), L2N.Zn ty dx oe → (∃ vs, oe.data = .fields vs) → PSs (X.suite e ((e, oe) :: ps)) (st :: sts) (ts e ty dx)) (r : HsN X hs l) :
      HsN X (.ExceptHandler (some (.Name x pn)) (some n) (st :: sts) pc :: hs) ((c, some i, ts) :: l)
section
variable {X : Cx} {body : List Stmt} {h0 : ExceptHandler} {hs : List ExceptHandler} {l : List Cl} {pos : Pos} {tb : WX → TS} {Wo : WX}
theorem ps_tryN (hst : X.stack = X.env :: X.outer) (hfr : X.env.frame = some X.env.locals) (nd : X.N.Nodup) (tk : L2N.Takes X Wo)
    (hb : ∀ (W : WX) (ps : List (Addr × Obj)) (xe : Value → Shared → Prop), L2N.Takes (X.tr ps xe) W → PassesOwn (model X.prog X.w) X.A X.env xe → PSs (X.tr ps xe) body (tb W))
    (hh : HsN X (h0 :: hs) l) : PS X (.Try body (h0 :: hs) [] [] pos) (fun D τ G => tb (clW X.K Wo D l) D τ G) := by
  constructor
  intro pins s τ G D I ask
  have okX := I.ok
  have frX : X.A.frames = some (X.env :: X.outer) := okX.frames.trans (congrArg some hst)
  apply wpAny_Try_except
  refine wpAny_mono ((hb (clW X.K Wo D l) (X.pn ++ pins) (fun u s1 => wpAny (model X.prog X.w) X.A (noteFrame u X.env) (fun _ s2 => wpAny (model X.prog X.w) X.A (setFlight u none) (fun _ s3 => wpAny (model X.prog X.w) X.A (handleBy u X.env (h0 :: hs)) (SP X pins D) X.xe s3) X.xe s2) X.xe s1) ?got PassesOwn.looking).run [] s τ G D (I.toTry _) ask) ?outp fun _ _ z => z
  case outp =>
    intro fl s1 hsp
    cases fl with
    | next =>
      rcases hsp with ⟨τ1, G1, J1, q1⟩
      exact wpAny_execs_nil ⟨τ1, G1, J1.ofTry okX, q1⟩
    | brk =>
      rcases hsp with ⟨τ1, G1, J1, q1⟩
      exact ⟨τ1, G1, J1.ofTry okX, q1⟩
    | cont =>
      rcases hsp with ⟨τ1, G1, J1, q1⟩
      exact ⟨τ1, G1, J1.ofTry okX, q1⟩
    | ret u =>
      rcases hsp with ⟨v1, τ1, G1, J1, r1, q1⟩
      exact ⟨v1, τ1, G1, J1.ofTry okX, r1, q1⟩
  case got =>
    intro u s1 told
    rcases told with ⟨e, B, sB, pinsB, τ1, G1, ty, dx, rfl, JB, nb, upB, skyB, eNew, osB, agB, wish⟩
    have J : Inv X pins τ1 G1 sB := JB.ofTry okX
    have skyX : Sky B (X.env :: X.outer) e (L2N.Zn ty dx) X.env.locals s1.heap := hst ▸ skyB
    show wpAny (model X.prog X.w) X.A (noteFrame (.ref e) X.env) _ _ _
    apply L2N.Sky.land L2N.Zn.steady frX hfr skyX
    intro g3 fly up3
    have J3 : Inv X pins τ1 G1 { s1 with heap := g3 } := J.landed nb fly.1 (upB.trans up3) osB agB
    rcases fly.there with ⟨o3, w3, ho3, hz3, hf3⟩
    have outF : e ∉ frs (X.env :: X.outer) := fun mem => by
      rcases fly.2.2.1.mem mem with ⟨_, o', ho', nof⟩
      rw [ho3] at ho'
      cases ho'
      exact nof _ hf3
    have neL : e ≠ X.env.locals := fun z => outF (List.mem_filterMap.mpr ⟨X.env, List.mem_cons_self, hfr.trans (congrArg some z.symm)⟩)
    have neF : e ∉ X.fs := fun mem => by
      rcases List.mem_filterMap.mp mem with ⟨en, men, qen⟩
      exact outF (List.mem_filterMap.mpr ⟨en, List.mem_cons_of_mem _ men, qen⟩)
    have S3 := J3.suite ho3 hf3 eNew neL neF
    have ends : ∀ {cl : List ExceptHandler} {ll : List Cl}, HsN X cl ll → clW X.K Wo D ll ty dx τ1 G1 → wpAny (model X.prog X.w) X.A (handleBy (.ref e) X.env cl) (SP X pins D) X.xe { s1 with heap := g3 } := by
      -- the class that a clause names, looked up and held against the exception's
      have look : ∀ {x : Str} {c : Value} {pn : Pos} {Q E : Value → Shared → Prop}, Names X x c → Q c { s1 with heap := g3 } → wpAny (model X.prog X.w) (X.A.mark (some (.ref e))) (eval (.Name x pn) X.env) Q E { s1 with heap := g3 } := by
        intro x c pn Q E nm q
        rcases nm with ⟨gl, db, m | ⟨m, v, nn⟩⟩
        · exact ld_glob (X := X.suite e ((e, o3) :: (X.pn ++ pins))) S3 gl m q db
        · exact ld_blt (X := X.suite e ((e, o3) :: (X.pn ++ pins))) S3 gl m v q nn db
      have kind : PySem.W.Looks (model X.prog X.w) g3 (typeOf (.ref e)) ty := fun A Q E s k q => wpAny_typeOf_ref (k _ _ ho3) (by rw [hz3.1]; exact q)
      intro cl ll hk
      induction hk with
      | nil =>
        intro wsh
        apply wpAny_handleBy_nil
        rcases id fly with ⟨_, _, _, o4, w4, T4, oT4, tl4, ho4, _, hf4, ht4, _⟩
        unfold PySem.passOn
        refine wpAny_bind (wpAny_field ho4 hf4 ht4 ?_)
        have ff : ¬ ((Value.ref T4 == Value.none) = true) := by simp
        rw [if_neg ff]
        have off : wpAny (model X.prog X.w) X.A (setFlight (.ref e) X.env.frame) (fun _ s4 => wpAny (model X.prog X.w) X.A (throw (.ref e) : Sem Flow) (SP X pins D) X.xe s4) X.xe { s1 with heap := g3 } := by
          rw [hfr]
          exact HandSPX.setFlight_upZ fly fun g4 hg4 up4 => wpAny_throw (tk _ _ ⟨e, B, sB, pins, τ1, G1, ty, dx, rfl, J, nb, (upB.trans up3).trans up4, .inr (.inr (hst ▸ hg4)), eNew, osB, agB, wsh⟩)
        first
          | exact wpAny_bind (wpAny_pure (wpAny_bind off))
          | exact wpAny_bind off
      | @bare x c ts st sts pn pc hs2 l2 hc hsu r ih =>
        intro wsh
        rcases wsh with ⟨b, hm, yes, no⟩
        refine wpAny_handleBy_cons (codeAny_handlers_test ?_) (by intro q; cases q)
        refine look hc ((PySem.W.exm_one (M := model X.prog X.w) J3.kIn kind hm).here ?_)
        cases b with
        | false => exact ih (no rfl)
        | true =>
          refine codeAny_handlers_suite (HandSPX.lands_againZ fly fun g4 fly4 up4 => ?_)
          have J4 : Inv X pins τ1 G1 { s1 with heap := g4 } := J.landed nb fly4.1 ((upB.trans up3).trans up4) osB agB
          rcases fly4.there with ⟨o4, w4, ho4, hz4, hf4⟩
          refine wpAny_mono ((hsu e o4 ty dx (X.pn ++ pins) hz4 ⟨_, hf4⟩).run [] _ _ G1 _ (J4.suite ho4 hf4 eNew neL neF) (yes rfl e eNew)) (fun fl s6 hsp => ?_) (fun _ _ z => z.elim)
          cases fl with
          | ret u =>
            rcases hsp with ⟨v6, τ6, G6, S6, r6, q6⟩
            exact ⟨_, _, _, S6.unsuite okX, r6, q6⟩
          | _ =>
            rcases hsp with ⟨τ6, G6, S6, q6⟩
            exact ⟨_, _, S6.unsuite okX, q6⟩
      | @named x n i c ts st sts pn pc hs2 l2 hc hi hln hsu r ih =>
        intro wsh
        rcases wsh with ⟨b, hm, yes, no⟩
        refine wpAny_handleBy_cons (codeAny_handlers_test ?_) (by intro q; cases q)
        refine look hc ((PySem.W.exm_one (M := model X.prog X.w) J3.kIn kind hm).here ?_)
        cases b with
        | false => exact ih (no rfl)
        | true =>
          refine codeAny_handlers_suite_as (HandSPX.lands_againZ fly fun g4 fly4 up4 => ?_)
          have J4 : Inv X pins τ1 G1 { s1 with heap := g4 } := J.landed nb fly4.1 ((upB.trans up3).trans up4) osB agB
          rcases fly4.there with ⟨o4, w4, ho4, hz4, hf4⟩
          refine store_ok (X := X.suite e ((e, o4) :: (X.pn ++ pins))) (v := .ref e) (J4.suite ho4 hf4 eNew neL neF) nd hi (.inl hln) rfl (fun s5 S5 => ?_) (.inr hln)
          refine wpAny_mono ((hsu e o4 ty dx (X.pn ++ pins) hz4 ⟨_, hf4⟩).run [] s5 _ G1 _ S5 (yes rfl e eNew)) (fun fl s6 hsp => ?_) (fun _ _ z => z.elim)
          have bye : ∀ {τ6 : L2.St} {G6 : Hp} {Q : Shared → Prop}, Inv (X.suite e ((e, o4) :: (X.pn ++ pins))) [] τ6 G6 s6 → (∀ s7, Inv X pins (τ6.set i none) G6 s7 → Q s7) → wpAny (model X.prog X.w) X.A (do bindName X.env n .none; unbindBehindTheSuite X.env n pc) (fun _ s7 => Q s7) X.xe s6 := fun S6 hq => gone_ok (S6.unsuite okX) nd hi hln hq
          cases fl with
          | ret u =>
            rcases hsp with ⟨v6, τ6, G6, S6, r6, q6⟩
            exact bye S6 fun s7 J7 => ⟨_, _, _, J7, r6, q6⟩
          | _ =>
            rcases hsp with ⟨τ6, G6, S6, q6⟩
            exact bye S6 fun s7 J7 => ⟨_, _, J7, q6⟩
    exact ends hh wish
end
end DL


set_option Elab.async false
set_option linter.all false
set_option maxRecDepth 100000
namespace DL
open PySem PySem.Spec PyProof.Rows L2
variable [TabT]
/-! ### errors whose context is None: made, raised, met -/
section
variable {X : Cx} {e : Expr} {es : List Expr} {ta : TA} {f : Str} {C : Addr} {p pos : Pos} {newId : String} {bmB : List Value}
theorem pmkN_ox {CX : CXT} {x : Str} {fI : Addr} {k : Nat} {fd : FuncData} {ps : List Str} {sp : Sp} (T : OxC X.K C newId bmB f) (NB : PySem.W.NewBy newId bmB) (iC : PySem.W.findIn X.K (.ref C) "__init__" = some (some (.ref fI))) (tI : PySem.W.typeIn X.K (.ref fI) = some (.type "function"))
    (F1 : FnOk X.prog X.w X.K X.mg X.base CX k fI fd ps sp) (hr : Room (k + 1) X.A) (hb : Binds X.K fd ps []) (hx : Passes CX X (fun _ _ _ => False)) (hg : Gl X x) (hm : X.mg x = some (.ref C)) (ha : PA X (e :: es) ta)
    (hdb : (x == ("__debug__" : Str)) = false := by decide) (he : starEach (e :: es) X.env = (false, eval e X.env) :: starEach es X.env := by rfl) (hpl : (backTo pos (starEach es X.env)).any (·.1) = false := by rfl) :
    L2N.PMk X (.Call (.Name x p) (e :: es) [] pos) (tMkO C sp [] ta) := by
  intro pins s σ H Q I h
  obtain ⟨_, _, _, _, bm, _, _, _, _, _, _, _, _, _, _, hC, ht⟩ := T.cls
  refine wpAny_Call_Name_kw (ld_glob I hg hm (PySem.W.callWith_K (h₀ := X.base) I.ok.mod.kin T.kC (thn (ha.run pos pins s σ H _ I h) fun us s1 ⟨vs, H1, I1, r1, hz, q1⟩ => ⟨I1.kIn, ?_⟩) he hpl) hdb)
  show wpAny _ _ (call (.ref C) us) _ _ _
  obtain ⟨hp, g, dr, tk, os⟩ := s1
  let hp2 := (hp.push (PySem.W.kdv_tup us)).push (PySem.HandSPX.excO C hp.objs.size)
  have le1 : hp.objs.size ≤ hp.objs.size + 1 := Nat.le_succ _
  have q2 := q1 (hp.objs.size + 1) (I1.hok.fresh le1)
  have up : ∀ b o, hp.get? b = some o → hp2.get? b = some o := fun b o e => Heap.get?_push_of_some _ (Heap.get?_push_of_some _ e)
  have at2 : hp2.get? (hp.objs.size + 1) = some (PySem.HandSPX.excO C hp.objs.size) := by heap_get
  have J : Inv X pins σ (upd H1 (hp.objs.size + 1) (exo (hp.objs.size + 1) C none)) ⟨hp2, g, dr, tk, os⟩ := I1.laid (t' := tk) up le1 (exo_ok at2)
  have rv : Vals (V.ref (hp.objs.size + 1) :: (vs ++ [])) (Value.ref (hp.objs.size + 1) :: (us ++ [])) := .cons rfl (r1.append .nil)
  have ln : (Value.ref (hp.objs.size + 1) :: us ++ []).length = ps.length := (rv.length.symm.trans (F1.len _ _ _ _ q2))
  have sz : us.length ≤ sizeLine := by rw [← Paired.length r1, sizeLine_eq]; omega
  refine wpAny_call (PySem.W.nb_call (NewBy.tail NB ht) (I1.kIn _ _ hC) (PySem.W.looks_findIn I1.kIn iC) (fun self => PySem.W.bind_fn I1.kIn self tI) sz (codeAny_mono (F1.run _ X.stack _ _ ⟨Value.ref (hp.objs.size + 1) :: us, []⟩ _ _ _ (fun _ _ _ => False) (hr.make C us []) (J.env0.make C us []) (hb _ (Value.ref (hp.objs.size + 1) :: us) J.kIn ln) rv q2) fun r s' hq => ?_))
  cases r with
  | error er => exact hx pins σ _ _ er s' J hq
  | ok fl =>
    cases fl with
    | ret u =>
      obtain ⟨v, H2, o2, b2, un, ok2, ru, ev, dx, fs, ea, ed, nd, q3⟩ := hq
      subst ev
      obtain ⟨h2, g2, d2, t2, o3⟩ := s'
      obtain ⟨t0, G, J2, kG, ge, hoe, na⟩ := mk_end0 (d2 := d2) (t2 := t2) I1 le1 up un ok2 o2 b2 ea ed nd
      exact ⟨ru, _, _, _, ⟨G, g2, d2, t2, o3⟩, _, .ref C, some dx, rfl, J2, kG, ge, hoe, ⟨rfl, rfl, fun vs e => by cases e; rfl⟩, rfl, rfl, na, rfl, b2, raises_own T.exC T.tyC, q3⟩
    | _ => exact hq.elim
end
def EMN (X : Cx) (z : Z) (e : Expr) (es : List Sl) (s : S) (x : XD) (s' : S) : Prop := ∀ σ H, En z H σ es → At z H s → ∀ Q : XK, (∀ cls dx H', Ez z H H' → At z H' s' → En z H' σ es → XR z H' cls dx x → Q cls dx H') → ∃ t, L2N.PMk X e t ∧ t σ H Q
def wMN (X : Cx) (e : Expr) : L2.St → Hp → XK → Prop := fun σ H Q => ∃ t, L2N.PMk X e t ∧ t σ H Q
theorem wMN_ok {X : Cx} {e : Expr} : L2N.PMk X e (wMN X e) := fun pins s σ H Q I ⟨t, h, q⟩ => h pins s σ H Q I q
section
variable {X : Cx} {z : Z} {es es1 : List Sl} {s s1 s2 : S} {e : Expr} {d : PyData} {C : Addr} {f x : Str} {newId B initId : String} {bmB : List Value} {p p2 pos : Pos} {W : WX} {xd : XD} {rest body : List Stmt}
theorem emn_ox (O : OxV X x C f newId bmB) (hr : Room 2 X.A) (h : EV X z e es s d s1) (hg : Gl X x := by rfl) (hdb : (x == ("__debug__" : Str)) = false := by decide) (he : starEach [e] X.env = (false, eval e X.env) :: starEach [] X.env := by rfl) (hpl : (backTo pos (starEach [] X.env)).any (·.1) = false := by rfl) :
    EMN X z (.Call (.Name x p) [e] [] pos) es s (.wf C f d) s1 := fun σ H en at_ Q q => by
  obtain ⟨fI, fd, ps, i1, i2, F, b⟩ := O.I
  refine ⟨_, pmkN_ox (CX := CX0) O.T O.NB i1 i2 F hr b (fun _ _ _ _ _ _ _ h => h.elim) hg O.m (pa_cons wE_ok pa_nil he) hdb he hpl, h σ H en at_ _ fun v H1 e1 a1 v1 => ⟨by show 1 ≤ 1000; omega, fun a na => ⟨a, v, rfl, upd_same, fun dx nd ne => ⟨rfl, dx, [(f, v)], upd_same, by rw [upd_ne ne, upd_same], by rw [upd_ne ne] at nd; exact nd, ?_⟩⟩⟩⟩
  rw [upd_ne ne] at nd
  have keep : ∀ b o, H1 b = some o → (upd (del (upd (upd (upd H1 a (exo a C none)) dx (exd dx [(f, v)])) a (exo a C (some dx))) a) dx (.xd [(f, v)])) b = some o := fun b o eb => by
    have ba := ne_of_none eb na
    rw [upd_ne (ne_of_none eb nd), del_ne ba, upd_ne ba, upd_ne (ne_of_none eb nd), upd_ne ba]
    exact eb
  exact q _ _ _ (e1.trans (.all keep)) (a1.all keep) (en.mono (e1.trans (.all keep))) ⟨rfl, dx, v, rfl, a1.fresh nd, upd_same, v1.mono (.all keep)⟩
theorem emn_pl {m : Str} {j} (F : ExcBaseFacts B newId initId bmB) (q : PySem.W.excIn X.K C bmB newId = true) (hm : X.mg x = some (.ref C)) (kC : PySem.W.keepIn X.K (.ref C) = true) (r : Raises X (.ref C)) (hg : Gl X x := by rfl) (hdb : (x == ("__debug__" : Str)) = false := by decide) :
    EMN X z (.Call (.Name x p) [.Constant (.str m) j p2] [] pos) es s (.pl C) s := fun σ H en at_ Q k => ⟨_, L2N.pmk_own F q hm kC r hg hdb, k _ _ H (.refl H) at_ en ⟨rfl, rfl⟩⟩
theorem sr_raiseN (hc : X.calm = true) (tk : L2N.Takes X W) (h : EMN X z e es s xd s1) : SR X z (.Raise (some e) none pos :: rest) es s (.ex W es xd s1) := fun σ H en at_ D q =>
  ⟨_, pss_cons (L2N.ps_raise hc tk wMN_ok) wB_never, h σ H en at_ _ fun cls dx H' k a n r => q cls dx σ H' k a n r⟩
end
def tsN (X : Cx) (suite : List Stmt) : Addr → Value → Option Addr → TS := fun a cls d D σ H => σ.length = X.N.length → ∀ (oe : Obj) (pn : List (Addr × Obj)), L2N.Zn cls d oe → (∃ vs, oe.data = .fields vs) → wB (X.suite a ((a, oe) :: pn)) suite D σ H
def clN (X : Cx) (q : Cb) : Cl := (q.1, q.2.1, tsN X q.2.2)
/-- the first clause that takes x: what its suite returns -/
def CatchN (X : Cx) (z : Z) (x : XD) (s : S) (d : PyData) : List Cb → Prop
  | [] => False
  | (c, oi, b) :: l => (PySem.W.exmOne X.K (.ref (clsOf x)) c = some false ∧ CatchN X z x s d l) ∨ (PySem.W.exmOne X.K (.ref (clsOf x)) c = some true ∧ ∀ (a : Addr) (oe : Obj) (dx : Option Addr) (pn : List (Addr × Obj)), L2N.Zn (.ref (clsOf x)) dx oe → (∃ vs, oe.data = .fields vs) →
      SR (X.suite a ((a, oe) :: pn)) z b (match oi with | none => List.replicate X.N.length .un | some i => (List.replicate X.N.length .un).set i (.exc a (.ref (clsOf x)) dx x)) s (.rt d s))
section
variable {X : Cx} {z : Z} {es es1 : List Sl} {s s1 : S} {x : XD} {d : PyData} {body rest : List Stmt} {h0 : ExceptHandler} {hs : List ExceptHandler} {pos : Pos} {cb : List Cb}
theorem tsN_ok {suite : List Stmt} (a : Addr) (oe : Obj) (cls : Value) (d : Option Addr) (pn : List (Addr × Obj)) (hz : L2N.Zn cls d oe) (hd : ∃ vs, oe.data = .fields vs) : PSs (X.suite a ((a, oe) :: pn)) suite (tsN X suite a cls d) :=
  ⟨fun pins s σ H D I h => wB_ok.run pins s σ H D I (h I.len oe pn hz hd)⟩
theorem catchN_w {D : Ends} {Wo : WX} : ∀ {l : List Cb}, CatchN X z x s d l → ∀ {cls : Value} {dx : Option Addr} {H : Hp}, XR z H cls dx x → At z H s → (∀ v H', Ez z H H' → At z H' s → Da z H' v d → D.rt v H') → ∀ τ, clW X.K Wo D (l.map (clN X)) cls dx τ H
  | [], h, _, _, _, _, _, _, _ => h.elim
  | (c, oi, b) :: l, h, cls, dx, H, r, A, q, τ => by
    have ec := r.cls
    subst ec
    rcases h with ⟨hm, h⟩ | ⟨hm, h⟩
    · exact ⟨false, hm, (fun e => by cases e), fun _ => catchN_w h r A q τ⟩
    · refine ⟨true, hm, fun _ e he => ?_, fun e => by cases e⟩
      cases oi with
      | none =>
        intro hl oe pn hz hd
        have en := en_un (z := z) (H := H) τ
        rw [hl] at en
        exact h e oe dx pn hz hd τ H en A _ fun v H' k a n => q v H' k a n
      | some i =>
        intro hl oe pn hz hd
        have en := en_un (z := z) (H := H) τ
        rw [List.length_set] at hl
        rw [hl] at en
        exact h e oe dx pn hz hd (τ.set i (some (.ref e))) H (en.set i (.exc r)) A _ fun v H' k a n => q v H' k a n
/-- the body raises, a clause takes it and returns -/
theorem sr_tryN (nd : X.N.Nodup) (hst : X.stack = X.env :: X.outer) (hfr : X.env.frame = some X.env.locals) (hb : ∀ W ps xe, L2N.Takes (X.tr ps xe) W → PassesOwn (model X.prog X.w) X.A X.env xe → SR (X.tr ps xe) z body es s (.ex W es1 x s1)) (hh : HsN X (h0 :: hs) (cb.map (clN X))) (hc : CatchN X z x s1 d cb) :
    SR X z (.Try body (h0 :: hs) [] [] pos :: rest) es s (.rt d s1) := fun σ H en at_ D q => by
  refine ⟨_, pss_cons (ps_tryN (Wo := fun _ _ _ _ => False) (l := cb.map (clN X)) (tb := fun W D σ H => ∀ ps xe, L2N.Takes (X.tr ps xe) W → PassesOwn (model X.prog X.w) X.A X.env xe → wB (X.tr ps xe) body D σ H) hst hfr nd (fun u s' ⟨_, _, _, _, _, _, _, _, _, _, _, _, _, _, _, _, w⟩ => w.elim) (fun W ps xe tk hp => ⟨fun pins s σ H D I h => wB_ok.run pins s σ H D I (h ps xe tk hp)⟩) hh) wB_never, ?_⟩
  intro ps xe tk hp
  exact hb _ ps xe tk hp σ H en at_ _ fun cls dx σ' H' k a n r => catchN_w (D := { nx := tNever D, rt := D.rt, bk := D.bk, ct := D.ct }) hc r a (fun v H2 k2 a2 v2 => q v H2 (k.trans k2) a2 v2) σ'
end
end DL


set_option Elab.async false
set_option linter.all false
set_option maxRecDepth 100000
/-! ### a list walked to its end while an error is handled -/
namespace HotY
open PySem PySem.Spec PyProof.Rows HotX
section
variable {prog : Program} {w : World} {A : Around} {E : Value → Shared → Prop} {s : Shared}
theorem list_end_hot {it l x1 : Addr} {i : Nat} {items : Array Value} {Q : Option Value → Shared → Prop} (hot : HotAt A x1 s.heap) (far : x1 ≠ it) (ahead : s.heap.IsListIter it l i) (isl : s.heap.IsList l items) (out : items[i]? = none)
    (told : ∀ h', Heap.ExtBut it s.heap h' → Q none { s with heap := h' }) : wpAny (model prog w) A (pyNext (.ref it)) Q E s := by
  obtain ⟨oi, hoi, hci, hdi⟩ := id ahead
  obtain ⟨ol, hol, _, nl, hdl⟩ := isl
  obtain ⟨hh, o1, vs1, h1, d1, c1⟩ := hot
  unfold pyNext
  apply wpAny_bind
  apply wpAny_attempt
  apply wpAny_callSpecial?_slot (name := Str.ofString "__next__") ahead.typeIs slot_listiter_next
  refine wpAny_call_entry slot_listiter_next ahead.typeIs entry_listiter_next ?_ (args_listiter_next _)
  show wpAny _ _ (field (.ref it) 0 >>= _) _ _ s
  apply wpAny_bind
  refine wpAny_field hoi hdi (x := .ref l) rfl ?_
  show wpAny _ _ (if (Value.ref l == Value.none) = true then _ else _) _ _ s
  have noNone : ¬ ((Value.ref l == Value.none) = true) := Bool.false_ne_true
  rw [if_neg noNone]
  show wpAny _ _ (field (.ref it) 1 >>= _) _ _ s
  apply wpAny_bind
  refine wpAny_field hoi hdi (x := .int i 0) rfl ?_
  show wpAny _ _ (seqItems? (.ref l) >>= _) _ _ s
  apply wpAny_bind
  refine wpAny_seqItems hol hdl ?_
  simp only [Int.toNat_natCast, out]
  apply wpAny_bind
  apply wpAny_rule
  apply wpAny_bind
  refine wpAny_setField hoi hdi (by simp) ?_
  show wpAny _ _ (newExc (.type "StopIteration") [] >>= _) _ _ _
  apply wpAny_bind
  simp only [newExc, newTuple]
  apply wpAny_bind
  refine wpAny_newObj_type ?_ (by size_fits)
  refine wpAny_bind (m := firstArgMember _ _) ?_
  refine wpAny_of_eq (a := Value.none) (by first | rfl | (simp only [firstArgMember]; rfl)) ?_
  refine wpAny_newObj_type ?_ (by size_fits)
  have still : ∀ {b : Addr} {o : Obj}, b ≠ it → s.heap.get? b = some o → (s.heap.update it (Obj.mapFields (·.setIfInBounds 0 .none))).get? b = some o := fun {b o} ne e => (Heap.get?_update_other _ _ (Ne.symm ne)).trans e
  have k1 := still far h1
  refine raiseNew_hot (x1 := x1) ⟨hh, o1, vs1, Heap.get?_push_of_some _ (Heap.get?_push_of_some _ k1), d1, c1⟩ (Nat.ne_of_lt (Heap.lt_size (Heap.get?_push_of_some _ k1))) (Heap.get?_push_size _ rfl) rfl (by first | (simp; done) | (simp; omega) | (simp only [Array.size_append]; simp; omega)) ?_
  apply wpAny_bind
  refine wpAny_isInstance (T := "StopIteration") (b := true) ⟨_, Heap.get?_update_self _ (Heap.get?_push_size _ rfl) rfl, rfl⟩ isSubtype_stop ?_
  apply wpAny_pure
  apply told
  intro b o ne e
  refine (Heap.get?_update_other _ _ (Nat.ne_of_gt (Heap.lt_size (Heap.get?_push_of_some _ (still ne e))))).trans ?_
  exact Heap.get?_push_of_some _ (Heap.get?_push_of_some _ (still ne e))
end
end HotY
namespace DL
open PySem PySem.Spec PyProof.Rows L2 L2H HotX
variable [TabT]
/-- a block's context that bears the handled error -/
abbrev blkH (X : Cx) (q : Addr × Obj) (s : Shared) (H : Hp) (scope : Scope) (cenv : Env) (fp : List Addr) : Cx := { X.blk s H scope cenv fp with pn := [q] }
section
variable {X : Cx} {q : Addr × Obj} {pins pl : List (Addr × Obj)} {σ : L2.St} {H Hx : Hp} {s sx : Shared} {scope : Scope} {cenv : Env} {fp : List Addr}
theorem inv_blkH (hc : X.calm = false) (I : Inv (X.blk sx Hx scope cenv fp) [] σ H s) (h : s.heap.get? q.1 = some q.2 ∧ H q.1 = none ∧ q.1 ≠ cenv.locals ∧ q.1 ∉ frs X.stack ∧ ∀ v, q.2.data ≠ .cell v) : Inv (blkH X q sx Hx scope cenv fp) [] σ H s := by
  have ok := I.ok
  exact ⟨⟨ok.mod, ok.kind, ok.glob, ok.blt, ok.above, ok.inj, ok.has, ok.cab, ok.hd, ok.frames, ok.stk, ok.exf, ok.bs, ok.bsz, ok.noex, ok.exfs, ok.funs, ok.frf⟩, I.os, I.bare, I.base, I.loc, I.cell, I.free, I.freeC, fun p hp => by
    have e : p = q := by simpa using (show p ∈ [q] ++ ([] : List (Addr × Obj)) from hp)
    rw [e]
    exact h, I.hok, I.len⟩
end
/-- [elt for x in list], no error's address, elt a function of the item: v the new list -/
def tLcH (te telt : TE) (j : Nat) (ws : List Nat) (g : V → V) : TE := fun σ H Q => te σ H fun v H1 => ∃ a xs, v = .ref a ∧ H1 a = some (.lst xs) ∧ xs.length ≤ 1000 ∧ (∀ x ∈ xs, ∀ H', telt ((wipe σ ws).set j (some x)) H' fun y H4 => y = g x ∧ H4 = H') ∧ ∀ D, H1 D = none → Q (.ref D) (upd H1 D (.lst (xs.map g)))
section
variable {X : Cx} {elt iter : Expr} {x : Str} {j : Nat} {scope : Scope} {te telt : TE} {g : V → V} {p pos : Pos} {q : Addr × Obj}
theorem pe_lcH (hc : X.calm = false) (hot : Hot1 X.A q) (hq : q ∈ X.pn) (hN : X.N.Nodup) (hit : PE X iter te) (ok : BlkOk X.N X.env.scope scope [(x, j)]) (hg : ∀ (s : Shared) (H : Hp) (C : Addr) (cl : List (Str × Addr)) (fp : List Addr), PG (blkH X q s H scope (compEnvC scope cl C X.env) fp) (.Name x p) (gName j))
    (he : ∀ (s : Shared) (H : Hp) (C : Addr) (cl : List (Str × Addr)) (fp : List Addr), PE (blkH X q s H scope (compEnvC scope cl C X.env) fp) elt telt) (hs : ∀ x, foldedSetIterable iter X.env x = pure x := by intro _; rfl) :
    PE X (.ListComp elt [⟨.Name x p, iter, [], 0⟩] scope pos) (tLcH te telt j [j] g) := by
  refine ⟨fun pins s σ H Q I told => ?_⟩
  rw [eval_ListComp]
  have caught : ∀ y ∈ scope.names, y.2 = .free → ∃ c, X.env.cells.lookup y.1 = some c := fun y hy e => (ok.free y hy e).elim (fun k => I.ok.has _ (.inl k)) fun k => I.ok.has _ (.inr k)
  apply wpAny_comprehension_free (use := none) rfl hs (closure_ok caught) ok.kind (fun y hy e => (ok.uniq y hy).trans (by rw [e]))
  apply thn (hit.run pins s σ H _ I told)
  rintro u s1 ⟨v, H1, I1, rv, a, xs, rfl, ha, few, pure1, fin⟩
  obtain rfl : u = Value.ref a := rv
  obtain ⟨its, rel, isl, _⟩ := I1.list (.inl (.inl ha))
  refine wpAny_pyIter_list isl.isList ?_
  generalize hit' : s1.heap.objs.size = it
  have up2 : ∀ b o, s1.heap.get? b = some o → (s1.heap.push { cls := .type "list_iterator", data := .fields #[.ref a, .int 0 0] }).get? b = some o := fun b o e => Heap.get?_push_of_some _ e
  have I2 : Inv X pins σ H1 { s1 with heap := s1.heap.push { cls := .type "list_iterator", data := .fields #[.ref a, .int 0 0] } } := I1.kept (t' := s1.toks) up2
  have fp2 : FpOk X pins H1 it := by
    rw [← hit']
    exact I1.fpOk (Nat.le_refl _) (I1.hok.fresh (Nat.le_refl _))
  have at2 : (s1.heap.push { cls := .type "list_iterator", data := .fields #[.ref a, .int 0 0] }).get? it = some { cls := .type "list_iterator", data := .fields #[.ref a, .int 0 0] } := by
    rw [← hit']
    exact Heap.get?_push_size _ rfl
  generalize hs2 : ({ s1 with heap := s1.heap.push { cls := .type "list_iterator", data := .fields #[.ref a, .int 0 0] } } : Shared) = s2 at I2
  have e2 : s2.heap = s1.heap.push { cls := .type "list_iterator", data := .fields #[.ref a, .int 0 0] } := by rw [← hs2]
  rw [← e2] at at2
  refine wpAny_newObj_type (newEnv_comp ?_) (Nat.zero_le _)
  generalize hD : s2.heap.objs.size = D
  have nD : H1 D = none := I2.hok.fresh (Nat.le_of_eq hD)
  generalize hs3 : ({ s2 with heap := s2.heap.push { cls := .type "list", data := .seq ([] : List Value).toArray } } : Shared) = s3
  have e3 : s3.heap = s2.heap.push { cls := .type "list", data := .seq ([] : List Value).toArray } := by rw [← hs3]
  have I3 : Inv X pins σ (upd H1 D (.lst [])) s3 := by
    rw [← hs3]
    refine I2.laid (t' := s2.toks) (fun b o e => Heap.get?_push_of_some _ e) (Nat.le_of_eq hD) ⟨Nat.zero_le _, [], 0, .nil, ?_⟩
    rw [← hD]
    exact Heap.get?_push_size _ rfl
  have itD : it ≠ D := by
    rw [← hD]
    exact Nat.ne_of_lt (Heap.lt_size at2)
  have at3 : s3.heap.get? it = some { cls := .type "list_iterator", data := .fields #[.ref a, .int 0 0] } := by
    rw [e3]
    exact Heap.get?_push_of_some _ at2
  have fp3 : ∀ b ∈ [it], FpOk X pins (upd H1 D (.lst [])) b ∧ b < s3.heap.objs.size := fun b hb => by
    obtain rfl : b = it := by simpa using hb
    exact ⟨⟨by rw [upd_ne itD]; exact fp2.1, fp2.2⟩, Heap.lt_size at3⟩
  have I4 := block_start I3 ok hN fp3
  have pin3 := I3.pin q (List.mem_append_left _ hq)
  show codeAny _ _ (.compStart (.ListComp elt [⟨.Name x p, iter, [], 0⟩] scope pos) 0 (.ref it) (.ref D) (compEnvC scope (cellsFrom (s3.heap.objs.size + 1) scope.names (cloFrom X.env.cells scope.names [])) s3.heap.objs.size X.env)) (compPost (model X.prog X.w) X.A X.xe none (EP X pins σ Q) (.ref D) s3.heap.objs.size) { s3 with heap := pushCells (s3.heap.push { cls := .type "dict", data := .dict #[] }) scope.names }
  have pg := hg s3 (upd H1 D (.lst [])) s3.heap.objs.size (cellsFrom (s3.heap.objs.size + 1) scope.names (cloFrom X.env.cells scope.names [])) [it]
  have pe := he s3 (upd H1 D (.lst [])) s3.heap.objs.size (cellsFrom (s3.heap.objs.size + 1) scope.names (cloFrom X.env.cells scope.names [])) [it]
  generalize hce : compEnvC scope (cellsFrom (s3.heap.objs.size + 1) scope.names (cloFrom X.env.cells scope.names [])) s3.heap.objs.size X.env = ce at I4 pg pe ⊢
  have cL : ce.locals = s3.heap.objs.size := by
    subst hce
    rfl
  have up4 : ∀ b o, s3.heap.get? b = some o → (pushCells (s3.heap.push { cls := .type "dict", data := .dict #[] }) scope.names).get? b = some o := fun b o e => pushCells_keeps _ _ _ _ (Heap.get?_push_of_some _ e)
  have at4 := up4 _ _ at3
  have pin4 := up4 _ _ pin3.1
  generalize hs4 : ({ s3 with heap := pushCells (s3.heap.push { cls := .type "dict", data := .dict #[] }) scope.names } : Shared) = s4 at I4 ⊢
  have e4 : s4.heap = pushCells (s3.heap.push { cls := .type "dict", data := .dict #[] }) scope.names := by rw [← hs4]
  rw [← e4] at at4 pin4
  have qL : q.1 ≠ ce.locals := by
    rw [cL]
    exact Nat.ne_of_lt (Heap.lt_size pin3.1)
  have qS : q.1 ∉ frs X.stack := fun m => by
    rcases List.mem_cons.mp (I3.stkSub q.1 m) with k | k
    · exact pin3.2.2.1 k
    · exact pin3.2.2.2.1 k
  have I5 := inv_blkH hc I4 ⟨pin4, pin3.2.1, qL, qS, pin3.2.2.2.2⟩
  have hotY : ∀ {pl : List (Addr × Obj)} {σ' : L2.St} {H' : Hp} {s' : Shared}, Inv (blkH X q s3 (upd H1 D (.lst [])) scope ce [it]) pl σ' H' s' → ∃ x1, x1 ≠ it ∧ HotAt X.A x1 s'.heap := fun {pl σ' H' s'} J => by
    obtain ⟨hh, vs, hd, h2⟩ := hot
    refine ⟨q.1, fun z => ?_, hh, q.2, vs, (J.pin q (List.mem_append_left _ (List.mem_singleton.mpr rfl))).1, hd, h2⟩
    have w := pin3.1
    rw [z] at w
    have := fp2.2.2.2.2.2 q (List.mem_append_left _ hq)
    exact this z
  have loop : codeAny (model X.prog X.w) X.A (.compLoop (.ListComp elt [⟨.Name x p, iter, [], 0⟩] scope pos) 0 (.ref it) (.ref D) ce) (compPost (model X.prog X.w) X.A X.xe none (EP X pins σ Q) (.ref D) s3.heap.objs.size) s4 := by
    refine compLoop_any (fun n s' => ∃ i, i ≤ xs.length ∧ n = xs.length - i ∧ Inv (blkH X q s3 (upd H1 D (.lst [])) scope ce [it]) [] (wipe σ [j]) (upd H1 D (.lst ((xs.take i).map g))) s' ∧ s'.heap.IsListIter it a i) ?_ xs.length ⟨0, Nat.zero_le _, rfl, I5, _, at4, rfl, rfl⟩
    rintro n s5 ⟨i, hi, rfl, J, st⟩
    have aD : a ≠ D := fun z => by
      rw [z, nD] at ha
      cases ha
    have far : ∀ {pl : List (Addr × Obj)} {σ' : L2.St} {H' : Hp} {s' : Shared}, Inv (blkH X q s3 (upd H1 D (.lst [])) scope ce [it]) pl σ' H' s' → pl = [] → H' it = none → ∀ b ∈ [it], FpOk (blkH X q s3 (upd H1 D (.lst [])) scope ce [it]) pl H' b := fun {pl σ' H' s'} K hpl hn b hb => by
      subst hpl
      have hb' : b = it := by simpa using hb
      subst hb'
      refine ⟨hn, (K.ok.exf b hb).1, K.ok.exfs b hb, .inl hb, fun y c e => (K.ok.exf b hb).2 y c e, fun r hr z => ?_⟩
      have e : r = q := by simpa using (show r ∈ [q] ++ ([] : List (Addr × Obj)) from hr)
      rw [e] at z
      exact fp2.2.2.2.2.2 q (List.mem_append_left _ hq) z
    have nIt : (upd H1 D (.lst ((xs.take i).map g))) it = none := by rw [upd_ne itD]; exact fp2.1
    have atA : (upd H1 D (.lst ((xs.take i).map g))) a = some (.lst xs) := by rw [upd_ne aD]; exact ha
    obtain ⟨us, relU, isU, _⟩ := J.list (.inl (.inl atA))
    obtain ⟨f0, f1, f2, f3, f4, f5⟩ := far J rfl nIt it (List.mem_singleton.mpr rfl)
    have ln := relU.length
    by_cases hlt : i < xs.length
    · obtain ⟨u, hu, ru⟩ := relU.get (List.getElem?_eq_getElem hlt)
      refine wpAny_pyNext_list_item st isU.isList (x := u) (by simpa using hu) fun h' st' sb => ?_
      have J1 : Inv (blkH X q s3 (upd H1 D (.lst [])) scope ce [it]) [] (wipe σ [j]) (upd H1 D (.lst ((xs.take i).map g))) { s5 with heap := h' } := J.turned (t' := s5.toks) (fun b o hb e => (sb.2 b hb).trans e) f0 f1 f3 f4 f5
      obtain ⟨oi, ei, ci, di⟩ := id st'
      refine go_of (s := { s5 with heap := h' }) ei ci di (by decide) ?_
      have J2 := J1.pinned (far J1 rfl nIt) fun b hb => by
        obtain rfl : b = it := by simpa using hb
        exact ⟨oi, ei, fun v z => by rw [di] at z; cases z⟩
      refine thnF (pg.run _ _ _ _ (xs[i]) u (fun σ2 H2 => σ2 = (wipe σ [j]).set j (some xs[i]) ∧ H2 = upd H1 D (.lst ((xs.take i).map g))) J2 ru ⟨rfl, rfl⟩) fun _ s6 ⟨σ6, H6, J6, e6, e7⟩ => ?_
      subst e6 e7
      refine thnF ((pts_nil (X := blkH X q s3 (upd H1 D (.lst [])) scope ce [it])).run _ s6 _ _ (fun b H2 => b = true ∧ H2 = upd H1 D (.lst ((xs.take i).map g))) J6 ⟨rfl, rfl⟩) fun b s7 ⟨H7, J7, e8, e9⟩ => ?_
      subst e8 e9
      simp only [if_true]
      refine thnF (pe.run _ s7 _ _ (fun y H4 => y = g xs[i] ∧ H4 = upd H1 D (.lst ((xs.take i).map g))) J7 (pure1 _ (List.getElem_mem hlt) _)) fun z s8 ⟨y, H8, J8, ry, e10, e11⟩ => ?_
      subst e10 e11
      refine app_ok (X := blkH X q s3 (upd H1 D (.lst [])) scope ce [it]) J8 upd_same (by rw [List.length_map, List.length_take, sizeLine_eq]; omega) ry fun s9 J9 => ?_
      have eH : upd (upd H1 D (.lst ((xs.take i).map g))) D (.lst ((xs.take i).map g ++ [g xs[i]])) = upd H1 D (.lst ((xs.take (i + 1)).map g)) := by
        rw [upd_upd, List.take_succ_eq_append_getElem hlt, List.map_append]
        rfl
      rw [eH] at J9
      refine ⟨xs.length - (i + 1), by omega, i + 1, hlt, rfl, (J9.unpinned (pins := [])).weak (by rw [List.length_set]) (fun k v e => ?_), st'.at fun o e => (J9.pin (it, o) (List.mem_append_right _ (List.mem_append_right _ (mem_pinsAt (List.mem_singleton.mpr rfl) e)))).1⟩
      have hk := wipe_some e
      have ne : k ≠ j := fun z => hk.2 (by rw [z]; exact List.mem_singleton.mpr rfl)
      rw [List.getElem?_set_ne (Ne.symm ne)]
      exact e
    · have ei : i = xs.length := by omega
      subst ei
      obtain ⟨x1, ne1, hotA⟩ := hotY J
      refine HotY.list_end_hot hotA ne1 st isU.isList (by simp; omega) fun h' eb => ?_
      have J1 : Inv (blkH X q s3 (upd H1 D (.lst [])) scope ce [it]) [] (wipe σ [j]) (upd H1 D (.lst ((xs.take xs.length).map g))) { s5 with heap := h' } := J.turned (t' := s5.toks) (fun b o hb e => eb b o hb e) f0 f1 f3 f4 f5
      rw [List.take_length] at J1
      have back : Inv X pins σ (upd H1 D (.lst (xs.map g))) { s5 with heap := h' } := I3.call' (ch := [it]) J1.os J1.base J1.hok J1.bare fun b hb => ⟨(fp3 b hb).1.2.2.2.1, (fp3 b hb).1.2.1, (fp3 b hb).1.2.2.2.2.1, (fp3 b hb).1.2.2.2.2.2⟩
      have nC : (upd H1 D (.lst (xs.map g))) s3.heap.objs.size = none := by
        have z : (upd H1 D (.lst (xs.map g))) ce.locals = none := J1.free
        rw [cL] at z
        exact z
      obtain ⟨m, hn, _⟩ := J1.loc
      have hn : h'.Ns ce.locals m := hn
      rw [cL] at hn
      refine ⟨m, hn, fun h2 sb => ?_⟩
      obtain ⟨c0, c1, c2, c3, c4, c5⟩ := I3.fpOk (Nat.le_refl _) nC
      exact ⟨.ref D, _, back.turned (t' := s5.toks) (fun b o hb e => (sb.2 b hb).trans e) c0 c1 c3 c4 c5, rfl, fin D nD⟩
  exact codeAny_compStart_list loop (wpAny_pyIter_listiter ⟨_, at4, rfl, rfl⟩ loop)
end
end DL


set_option Elab.async false
set_option linter.all false
set_option maxRecDepth 100000
namespace DL
open PySem PySem.Spec PyProof.Rows L2 L2H HotX
variable [TabT]
/-! ### a def that is called while an error is handled, and sees which -/
structure FnE (P : Program) (w : World) (K : PySem.W.Frag) (mg : Str → Option Value) (base : Heap) (k : Nat) (f : Addr) (fd : FuncData) (ps : List Str) (sp : Addr × Obj → List V → Hp → VK → Prop) : Prop where
  len : ∀ q vs H Q, sp q vs H Q → vs.length = ps.length
  go : ∀ (A : Around) (outer : List Env) (s : Shared) (H : Hp) (args : Args) (us : List Value) (vs : List V) (Q : VK) (q : Addr × Obj), RoomH k A → Hot1 A q → PinOk outer H s q → Env0 P w K mg base A outer s H → BindsTo s fd args (ps.zip us) → Vals vs us → sp q vs H Q →
    codeAny (model P w) A (.call (.ref f) args) (CR CX0 outer P w H s Q fun _ _ _ => False) s
section
variable {P : Program} {w : World} {K : PySem.W.Frag} {mg : Str → Option Value} {base : Heap}
abbrev hotCx (P : Program) (w : World) (K : PySem.W.Frag) (mg : Str → Option Value) (base : Heap) (N : List Str) (qual : Str) (st : Stmt) (f : Addr) (cdv : Value) (A : Around) (outer : List Env) (s : Shared) (H : Hp) (q : Addr × Obj) : Cx := cxH CX0 P w K mg base N qual (defScope st) f cdv A outer s H (fun _ _ _ => False) q
theorem fne_of {x qual : Str} {st : Stmt} {f : Addr} {fd : FuncData} {N ps : List Str} {k : Nat} {sp : Addr × Obj → List V → Hp → VK → Prop} (F : Fun K x qual st f fd) (Sc : FnScope N ps (defScope st)) (len : ∀ q vs H Q, sp q vs H Q → vs.length = ps.length)
    (hb : ∀ (cdv : Value) (A : Around) (outer : List Env) (s : Shared) (H : Hp) (vs : List V) (Q : VK) (q : Addr × Obj), Hot1 A q → sp q vs H Q → wB (hotCx P w K mg base N qual st f cdv A outer s H q) (defBody st) { nx := fun _ H' => Q .non H', rt := Q } (L2.start N vs) H) : FnE P w K mg base (k + 1) f fd ps sp := by
  obtain ⟨oc, od, kV, doc, pm, an, cdv, ct, osl, rfl, lk, hcd⟩ := F.ex
  refine ⟨len, fun A outer s H args us vs Q q room hot pin e0 bd vals told => ?_⟩
  have hl := len _ _ _ _ told
  have inK : K.In s.heap := e0.mod.kin.keeps fun b o e => (e0.bs b o e).1
  have free : s.heap.NoLimit := e0.mod.nolimit.keeps fun b o e => (e0.bs b o e).1
  have names : ∀ y ∈ ps.zip us, (defScope st).names.lookup y.1 = some .local ∨ ((defScope st).names.lookup y.1 = some .cell ∧ ((cellsFrom (s.heap.objs.size + 1) (defScope st).names []).lookup y.1).isSome = true) := by
    rintro ⟨n, v⟩ hy
    rcases Sc.par n (List.of_mem_zip hy).1 with h | h
    · exact .inl h
    · exact .inr ⟨h, PySem.W.cellsFrom_some _ _ _ (.inl h)⟩
  apply codeAny_call_function room.depth (inK _ _ lk) rfl Sc.co Sc.gen rfl (PySem.W.codeRec_of inK hcd)
  apply bd
  apply wpAny_newFunctionEnv_cells Sc.kind names
  rintro env rfl s1 done
  refine ⟨free.keeps done.toInCall.keep, codeAny_func ?_⟩
  have I := inv_startH (CX := CX0) (E := fun _ _ _ => False) Sc pin e0 hl vals done
  apply wpAny_mono (wB_ok.run [] s1 (L2.start N vs) H _ I (hb cdv A outer s H vs Q q hot told))
  · intro fl s2 ends
    have fin : ∀ {σ' : L2.St} {H' : Hp} {v : V} {u : Value}, Inv (hotCx P w K mg base N qual st f cdv A outer s H q) [] σ' H' s2 → RelV v u → Q v H' → CE outer P w H s Q u s2 := fun {σ' H' v u} J rv qv => ⟨v, H', J.os, J.bare, J.base, J.hok, rv, qv⟩
    cases fl with
    | ret u =>
      obtain ⟨v, σ', H', J, rv, qv⟩ := ends
      exact fin J rv qv
    | next =>
      obtain ⟨σ', H', J, qv⟩ := ends
      exact fin (v := V.non) (u := Value.none) J rfl qv
    | brk =>
      obtain ⟨_, _, _, qv⟩ := ends
      exact qv.elim
    | cont =>
      obtain ⟨_, _, _, qv⟩ := ends
      exact qv.elim
  · exact fun e s2 h => h
end
/-- the context bears the error at a, of the class at C; z tells of its dict -/
structure PinAt (X : Cx) (z : Z) (a C : Addr) : Prop where
  ex : ∃ (oe : Obj) (dx : Option Addr), (a, oe) ∈ X.pn ∧ Zc (.ref C) dx oe ∧ (∃ vs, oe.data = .fields vs) ∧ ∀ d, dx = some d → ∃ od, (d, od) ∈ z.vol ∧ Stands od d
def rIsP (K : PySem.W.Frag) (a C : Addr) (H0 : Hp → Prop) : List V → Hp → VK → Prop := fun xs H Q => ∃ (c : V) (cv : Value) (b : Bool), xs = [.ref a, c] ∧ H0 H ∧ (∀ u, RelV c u → u = cv) ∧ PySem.W.kitOne K (.ref C) cv = some b ∧ Q (.bl b) H
theorem cr_isP {X : Cx} {z : Z} {a C : Addr} (T : ExcC X.K C) (p : PinAt X z a C) : CallR X (.builtin "isinstance") (rIsP X.K a C fun H => ∀ r ∈ z.vol, H r.1 = some r.2) := by
  intro pins s σ H xs us Q I r h
  obtain ⟨c, cv, b, rfl, hv, hc, ek, q⟩ := h
  obtain ⟨u1, u2, rfl, r1, r2⟩ := vals2 r
  obtain rfl : u1 = Value.ref a := r1
  obtain rfl : u2 = cv := hc _ r2
  obtain ⟨oe, dx, m, zc, ⟨vs, hd⟩, st⟩ := p.ex
  obtain ⟨he, _⟩ := I.pin (a, oe) (List.mem_append_left _ m)
  have inst : ∃ ob od, PySem.W.InstAt s.heap a ob C od := by
    obtain ⟨oc, odi, oda, osl⟩ := oe
    obtain ⟨q1, q2⟩ := zc
    dsimp only at q1 q2 hd
    subst q1 q2 hd
    cases odi with
    | none => exact ⟨_, none, he, rfl, rfl, trivial⟩
    | some d =>
      obtain ⟨od, m2, s2⟩ := st d rfl
      obtain ⟨ob, h4⟩ := s2 X.prog X.w H s.heap (I.hok _ _ (hv _ m2))
      exact ⟨_, some ob, he, rfl, rfl, h4⟩
  exact PySem.W.kia_one (PySem.W.kit_err T) I.kIn inst ek (fun z => nomatch z) fun tk => ⟨.bl b, H, I.kept (t' := tk) fun _ _ z => z, rfl, q⟩
section
variable {X : Cx} {z : Z} {es : List Sl} {s : S} {a C D : Addr} {x y : Str} {b : Bool} {p0 p1 p2 pos : Pos} {T : String}
theorem ev_isOP (i : Nat) (hx : PinAt X z a C) (hC : ExcC X.K C) (hm : X.mg "isinstance" = none) (hy : X.mg y = some (.ref D)) (ek : PySem.W.kitOne X.K (.ref C) (.ref D) = some b) (h : es[i]? = some (.raw (.ref a)) := by rfl) (hN : X.N[i]? = some x := by rfl) (hv : Vis X.env.scope x := by first | exact Or.inl rfl | exact Or.inr (Or.inl rfl) | exact Or.inr (Or.inr rfl))
    (hd : (x == ("__debug__" : Str)) = false := by decide) (hcd : (x == ("__classdict__" : Str)) = false := by decide) (hdy : (y == ("__debug__" : Str)) = false := by decide) (hg : Gl X "isinstance" := by rfl) (hgy : Gl X y := by rfl)
    (hs : starEach [.Name x p1, .Name y p2] X.env = (false, eval (.Name x p1) X.env) :: starEach [.Name y p2] X.env := by rfl) (hs2 : starEach [.Name y p2] X.env = (false, eval (.Name y p2) X.env) :: starEach [] X.env := by rfl) (hpl : (backTo pos (starEach [.Name y p2] X.env)).any (·.1) = false := by rfl) :
    EV X z (.Call (.Name "isinstance" p0) [.Name x p1, .Name y p2] [] pos) es s (.bool b) s :=
  .mk (pe_callB (cr_isP hC hx) hg hm (by decide +kernel) (pa_cons (pe_var hN hv hd hcd) (pa_cons (pe_glob (v := .ref D) hgy hy rfl hdy) pa_nil hs2) hs) (by decide) (by decide) hs hpl) fun σ H en at_ Q q => by
    obtain ⟨u, hu, r⟩ := en.slot h
    cases r
    exact ⟨.ref a, hu, .ref D, .ref D, b, rfl, at_.v, fun u e => e, ek, q _ H (.refl H) at_ (.bl b)⟩
theorem ev_isBP (i : Nat) (hx : PinAt X z a C) (hC : ExcC X.K C) (hm : X.mg "isinstance" = none) (hy : X.mg y = none) (ek : PySem.W.kitOne X.K (.ref C) (.type T) = some b) (hvy : bootBuiltins y = some (.type T) := by decide +kernel) (h : es[i]? = some (.raw (.ref a)) := by rfl) (hN : X.N[i]? = some x := by rfl) (hv : Vis X.env.scope x := by first | exact Or.inl rfl | exact Or.inr (Or.inl rfl) | exact Or.inr (Or.inr rfl))
    (hd : (x == ("__debug__" : Str)) = false := by decide) (hcd : (x == ("__classdict__" : Str)) = false := by decide) (hny : y ≠ "__name__" := by decide) (hdy : (y == ("__debug__" : Str)) = false := by decide) (hg : Gl X "isinstance" := by rfl) (hgy : Gl X y := by rfl)
    (hs : starEach [.Name x p1, .Name y p2] X.env = (false, eval (.Name x p1) X.env) :: starEach [.Name y p2] X.env := by rfl) (hs2 : starEach [.Name y p2] X.env = (false, eval (.Name y p2) X.env) :: starEach [] X.env := by rfl) (hpl : (backTo pos (starEach [.Name y p2] X.env)).any (·.1) = false := by rfl) :
    EV X z (.Call (.Name "isinstance" p0) [.Name x p1, .Name y p2] [] pos) es s (.bool b) s :=
  .mk (pe_callB (cr_isP hC hx) hg hm (by decide +kernel) (pa_cons (pe_var hN hv hd hcd) (pa_cons (pe_ty hy hvy hgy hny hdy) pa_nil hs2) hs) (by decide) (by decide) hs hpl) fun σ H en at_ Q q => by
    obtain ⟨u, hu, r⟩ := en.slot h
    cases r
    exact ⟨.ref a, hu, .ty T, .type T, b, rfl, at_.v, fun u e => e, ek, q _ H (.refl H) at_ (.bl b)⟩
end
/-- g(e) in the suite of e -/
def spE (C : Addr) (d : PyData) : Addr × Obj → List V → Hp → VK → Prop := fun q vs H Q => vs = [.ref q.1] ∧ ∃ (z : Z) (s : S) (dx : Option Addr), Zc (.ref C) dx q.2 ∧ (∀ y, dx = some y → ∃ od, (y, od) ∈ z.vol ∧ Stands od y) ∧ At z H s ∧ ∀ v H', Ez z H H' → At z H' s → Da z H' v d → Q v H'
section
variable {X : Cx} {a f : Addr} {oe : Obj} {pn : List (Addr × Obj)} {fd : FuncData} {ps : List Str} {sp : Addr × Obj → List V → Hp → VK → Prop} {k : Nat} {g n : Str} {p p2 pos : Pos}
theorem pe_callE (i : Nat) (F : FnE X.prog X.w X.K X.mg X.base k f fd ps sp) (ctx : ∃ vs : Array Value, oe.data = .fields vs ∧ vs[2]? = some .none) (room : Room k X.A) (gl : Gl X g) (mx : X.mg g = some (.ref f)) (kp : PySem.W.keepIn X.K (.ref f) = true) (bd : Binds X.K fd ps []) (hN : X.N[i]? = some n) (hv : Vis X.env.scope n)
    (hd : (n == ("__debug__" : Str)) = false) (hcd : (n == ("__classdict__" : Str)) = false) (hdb : (g == ("__debug__" : Str)) = false) (he : starEach [.Name n p2] X.env = (false, eval (.Name n p2) X.env) :: starEach [] X.env) (hpl : (backTo pos (starEach [] X.env)).any (·.1) = false) :
    PE (X.suite a ((a, oe) :: pn)) (.Call (.Name g p) [.Name n p2] [] pos) (fun σ H Q => σ[i]? = some (some (.ref a)) ∧ sp (a, oe) [.ref a] H Q) := by
  constructor
  intro pins s σ H Q I ask
  obtain ⟨hs, told⟩ := ask
  refine wpAny_Call_Name_kw (ld_glob I gl mx (PySem.W.callWith_K (h₀ := X.base) I.ok.mod.kin kp (thn ((pa_cons (X := X.suite a ((a, oe) :: pn)) (pe_var hN hv hd hcd) pa_nil he).run pos pins s σ H (fun vs H1 => vs = [.ref a] ∧ H1 = H) I ⟨.ref a, hs, rfl, rfl⟩) fun us s1 ⟨vs, H1, J, vals, q1, q2⟩ => ⟨J.kIn, ?_⟩) he hpl) hdb)
  subst q1 q2
  have len : us.length = ps.length := vals.length.symm.trans (F.len _ _ _ _ told)
  have b := bd s1 us J.kIn (by rw [List.append_nil]; exact len)
  rw [List.append_nil] at b
  have pin := J.pin (a, oe) (List.mem_append_left _ (List.mem_cons_self ..))
  have ok : PinOk X.stack H1 s1 (a, oe) := ⟨pin.1, pin.2.1, fun m => (List.mem_cons.mp (J.stkSub a m)).elim pin.2.2.1 pin.2.2.2.1, pin.2.2.2.2⟩
  refine wpAny_call (codeAny_mono (F.go (X.suite a ((a, oe) :: pn)).A X.stack s1 H1 ⟨us, []⟩ us [.ref a] Q (a, oe) ⟨room.dp, room.un⟩ ⟨rfl, ctx⟩ ok J.env0 b vals told) fun r s2 done => ?_)
  cases r with
  | error e => exact (show False from done).elim
  | ok fl =>
    cases fl with
    | ret u => exact J.after done
    | _ => exact (show False from done).elim
end
/-- the name g stands for a def that tells d of an error of the class at C, while it is handled -/
def DnE (P : Program) (w : World) (K : PySem.W.Frag) (mg : Str → Option Value) (base : Heap) (k : Nat) (g : Str) (R : Addr → PyData → Prop) : Prop := ∃ f fd ps, (∀ C d, R C d → FnE P w K mg base k f fd ps (spE C d)) ∧ mg g = some (.ref f) ∧ PySem.W.keepIn K (.ref f) = true ∧ Binds K fd ps []
section
variable {X : Cx} {a : Addr} {oe : Obj} {dx : Option Addr} {pn : List (Addr × Obj)} {z : Z} {es : List Sl} {s : S} {d : PyData} {R : Addr → PyData → Prop} {k : Nat} {g n : Str} {p p2 pos : Pos} {xd : XD}
theorem ev_callE (i : Nat) (G : DnE X.prog X.w X.K X.mg X.base k g R) (zn : L2N.Zn (.ref (clsOf xd)) dx oe) (hd : ∃ vs, oe.data = .fields vs) (room : Room k X.A) (hR : R (clsOf xd) d) (h : es[i]? = some (.exc a (.ref (clsOf xd)) dx xd) := by rfl) (hN : X.N[i]? = some n := by rfl)
    (hv : Vis X.env.scope n := by first | exact Or.inl rfl | exact Or.inr (Or.inl rfl) | exact Or.inr (Or.inr rfl)) (hdd : (n == ("__debug__" : Str)) = false := by decide) (hcd : (n == ("__classdict__" : Str)) = false := by decide) (gl : Gl X g := by rfl) (hdb : (g == ("__debug__" : Str)) = false := by decide)
    (he : starEach [.Name n p2] X.env = (false, eval (.Name n p2) X.env) :: starEach [] X.env := by rfl) (hpl : (backTo pos (starEach [] X.env)).any (·.1) = false := by rfl) :
    EV (X.suite a ((a, oe) :: pn)) z (.Call (.Name g p) [.Name n p2] [] pos) es s d s := by
  obtain ⟨f, fd, ps, F, mx, kp, bd⟩ := G
  obtain ⟨vs, hvs⟩ := hd
  refine .mk (pe_callE i (F _ _ hR) ⟨vs, hvs, zn.2.2 vs hvs⟩ room gl mx kp bd hN hv hdd hcd hdb he hpl) fun σ H en at_ Q q => ?_
  obtain ⟨y, hy, r⟩ := en.slot h
  cases r with
  | exc r =>
    refine ⟨hy, rfl, ?_⟩
    cases xd with
    | pl C =>
      obtain ⟨_, rfl⟩ := r
      exact ⟨z, s, none, zn.zc, (fun y e => by cases e), at_, fun v H' e a d => q v H' e a d⟩
    | wf C fl dd =>
      obtain ⟨_, pp, v, rfl, fz, e3, e4⟩ := r
      -- the dict is told of meanwhile
      have A2 : At (z.more [(pp, .xd [(fl, v)])]) H s := by
        refine ⟨at_.d, fun r m => ?_, fun r m => ?_, at_.t⟩
        · rcases List.mem_cons.mp m with rfl | m
          · exact e3
          · exact at_.v r m
        · rcases List.mem_cons.mp m with rfl | m
          · exact ⟨fz.1.1, .xd _⟩
          · exact at_.n r m
      refine ⟨z.more [(pp, .xd [(fl, v)])], s, some pp, zn.zc, (fun y e => ?_), A2, fun u H' k a3 d3 => q u H' (fun b o f hb => ?_) (New.less a3) (da_less d3)⟩
      · cases e
        exact ⟨_, List.mem_cons_self .., stands_xd⟩
      · by_cases hbp : b = pp
        · rw [hbp] at hb ⊢
          rw [e3] at hb
          rw [← hb]
          exact a3.v (pp, .xd [(fl, v)]) (List.mem_cons_self ..)
        · refine k b o (f.more fun r m z => ?_) hb
          obtain rfl := List.mem_singleton.mp m
          exact hbp z.symm
end
end DL


set_option Elab.async false
set_option linter.all false
set_option maxRecDepth 100000
namespace DL
open PySem PySem.Spec PyProof.Rows L2 LamX
variable [TabT]
/-! ### the end of a law whose defs want to know that no repr is under way; cs: code objects and their tables -/
section
variable {P : Program} {w : World} {K : PySem.W.Frag} {mg mb : Str → Option Value} {CX : CXT} {k : Nat} {fa a : Addr} {cs : List (Addr × Addr)} {fd : FuncData} {x : Str} {sp : Sp} {s1 : Shared} {vs : List Value} {ns : List Int}
/-- what is tracked at the start: the script, if it is none of the module's own objects, and the empty tables -/
def startH (K : PySem.W.Frag) (a : Addr) (vs : List Value) (ns : List Int) (cs : List (Addr × Addr)) : Hp := fun b =>
  if b = a ∧ K.lookup a = none then some (.frz { cls := .type "list", data := .seq vs.toArray } (.lst (ns.map V.int))) else if b ∈ cs.map Prod.snd then some (.tbl #[]) else none
theorem startH_a {b : Addr} (h : b = a ∧ K.lookup a = none) : startH K a vs ns cs b = some (.frz { cls := .type "list", data := .seq vs.toArray } (.lst (ns.map V.int))) := if_pos h
theorem startH_t {b : Addr} (h : ¬ (b = a ∧ K.lookup a = none)) (ht : b ∈ cs.map Prod.snd) : startH K a vs ns cs b = some (.tbl #[]) := (if_neg h).trans (if_pos ht)
theorem startH_n {b : Addr} (h : ¬ (b = a ∧ K.lookup a = none)) (ht : b ∉ cs.map Prod.snd) : startH K a vs ns cs b = none := (if_neg h).trans (if_neg ht)
theorem law_callG (KX : K.In s1.heap) (nsG : s1.heap.Ns mainGlobals mg) (nsB : s1.heap.Ns builtinsNs mb) (bb : ∀ x : Str, x ≠ "__name__" → mb x = bootBuiltins x) (nolim : s1.heap.NoLimit) (nogen : s1.gens = #[])
    (tab : ∀ p ∈ cs, s1.heap.get? p.2 = some { cls := .none, data := .fields #[] }) (tabK : ∀ p ∈ cs, K.lookup p.2 = none) (code : ∀ p ∈ cs, PySem.W.CodeHd s1.heap p.1 p.2)
    (blt : ∃ (bm : Addr) (ob : Obj), mg "__builtins__" = some (.ref bm) ∧ bm ≠ builtinsNs ∧ s1.heap.get? bm = some ob ∧ ob.cls = .type "module" ∧ ob.dict = some builtinsNs ∧ ob.data = .plain)
    (scr : s1.heap.get? a = some { cls := .type "list", data := .seq vs.toArray }) (whole : IntsAre vs ns) (small : ns.length ≤ sizeLine) (room : RoomG k callerA)
    (F : ∀ base : Heap, K.In base → base.Ns mainGlobals mg → (∀ p ∈ cs, TabB base mg p.1 p.2) → FnG P w K mg base CX k fa fd [x] sp) (bind : ∀ (s : Shared) (u : Value), BindsTo s fd ⟨[u], []⟩ [(x, u)])
    (told : ∀ H : Hp, (∀ p ∈ cs, H p.2 = some (.tbl #[])) → SqL K H a (ns.map V.int) → sp [.ref a] H (fun v _ => v = .bl true) fun _ _ _ => False) (noCX : ∀ H e s', CX [] H s1 (fun _ _ _ => False) e s' → False) :
    codeAny (model P w) callerA (.call (.ref fa) ⟨[.ref a], []⟩) (fun r s' => r = .ok (.ret (.bool true)) ∧ OldK s1.heap s'.heap ∧ s'.os = s1.os ∧ AllBare s'.gens) s1 := by
  have rv := vals_ints whole
  have lv := whole.length
  have inT : ∀ {b : Addr}, b ∈ cs.map Prod.snd → s1.heap.get? b = some { cls := .none, data := .fields #[] } := fun {b} m => by
    rcases List.mem_map.mp m with ⟨p, hp, rfl⟩
    exact tab p hp
  have notT : a ∉ cs.map Prod.snd := fun m => by
    have e := (inT m).symm.trans scr
    cases congrArg Obj.data (Option.some.inj e)
  have free : ∀ {b : Addr} {o : Obj}, s1.heap.get? b = some o → (∀ xs n, o.data ≠ .seq xs n) → o.data ≠ .fields #[] → startH K a vs ns cs b = none := fun {b o} e n1 n2 => by
    apply startH_n
    · rintro ⟨rfl, _⟩
      rw [scr] at e
      cases e
      exact n1 _ _ rfl
    · intro m
      rw [inT m] at e
      cases e
      exact n2 rfl
  have spaces : ∀ {b : Addr} {m : Str → Option Value}, s1.heap.Ns b m → (hidT s1.heap (startH K a vs ns cs)).Ns b m := fun {b m} ⟨o, es, ep, e, d, r⟩ => ⟨o, es, ep, hidT_get e (free e (fun xs n z => by rw [d] at z; cases z) fun z => by rw [d] at z; cases z), d, r⟩
  have inK : K.In (hidT s1.heap (startH K a vs ns cs)) := fun b o e => hidT_get (KX b o e) (startH_n (by
    rintro ⟨rfl, z⟩
    rw [z] at e
    cases e) fun m => by
    rcases List.mem_map.mp m with ⟨p, hp, rfl⟩
    rw [tabK p hp] at e
    cases e)
  have modl : L2.Mod K mg (hidT s1.heap (startH K a vs ns cs)) := ⟨inK, spaces nsG, ⟨mb, spaces nsB, bb⟩, by
    rcases nolim with ⟨mc, h1, h2⟩
    exact ⟨mc, spaces h1, h2⟩⟩
  have tabs : ∀ p ∈ cs, TabB (hidT s1.heap (startH K a vs ns cs)) mg p.1 p.2 := fun p hp => by
    have tp := tab p hp
    constructor
    · rcases code p hp with ⟨o, us, file, tf, flags, tg, inF, text, tt, e1, r1, r2, r3, rest⟩
      refine ⟨o, us, file, tf, flags, tg, inF, text, tt, hidT_get e1 (free e1 (fun xs n z => ?_) fun z => ?_), r1, r2, r3, rest⟩
      · rw [r2] at z
        cases z
      · rw [r2] at z
        cases z
        simp at r3
    · rcases blt with ⟨bm, ob, b1, b2, b3, b4, b5, b6⟩
      refine ⟨bm, ob, b1, b2, fun z => ?_, fun z => ?_, hidT_get b3 (free b3 (fun xs n z => ?_) fun z => ?_), b4, b5, b6⟩
      · rcases nsG with ⟨o, es, ep, e, d, _⟩
        rw [z, e] at b3
        cases b3
        rw [d] at b6
        cases b6
      · rw [z, tp] at b3
        cases b3
        cases b6
      · rw [b6] at z
        cases z
      · rw [b6] at z
        cases z
    · intro z
      rcases nsG with ⟨o, es, ep, e, d, _⟩
      rw [z, tp] at e
      cases e
      cases d
  have atT : ∀ p ∈ cs, startH K a vs ns cs p.2 = some (.tbl #[]) := fun p hp => startH_t (fun z => notT (z.1 ▸ List.mem_map.mpr ⟨p, hp, rfl⟩)) (List.mem_map.mpr ⟨p, hp, rfl⟩)
  have isL : SqL K (startH K a vs ns cs) a (ns.map V.int) := by
    cases own : K.lookup a with
    | none => exact .inl (.inr ⟨_, startH_a ⟨rfl, own⟩⟩)
    | some o =>
      have e := (KX a o own).symm.trans scr
      cases e
      exact .inr ⟨_, vs.toArray, _, own, rfl, rfl, rfl, by rw [List.size_toArray, lv]; exact small, by simpa using rv⟩
  have ok : HOk P w (startH K a vs ns cs) s1.heap := fun b u z => by
    by_cases h1 : b = a ∧ K.lookup a = none
    · rw [startH_a h1] at z
      cases z
      rw [h1.1]
      exact ⟨scr, by rw [List.length_map]; exact small, vs, _, rv, scr⟩
    · by_cases h2 : b ∈ cs.map Prod.snd
      · rw [startH_t h1 h2] at z
        cases z
        exact inT h2
      · rw [startH_n h1 h2] at z
        cases z
  have env : Env0 P w K mg (hidT s1.heap (startH K a vs ns cs)) callerA [] s1 (startH K a vs ns cs) := ⟨rfl, modl, fun b o e => of_hidT e, Nat.le_of_eq (hidT_size _ _), trivial, fun b m => absurd (show b ∈ ([] : List Addr) from m) (by simp), ok, .of_eq nogen⟩
  refine codeAny_mono ((F _ inK (spaces nsG) tabs).go callerA [] s1 _ ⟨[.ref a], []⟩ [.ref a] [.ref a] _ _ room env (bind s1 (.ref a)) (.cons rfl .nil) (told _ atT isL)) fun r s2 done => ?_
  cases r with
  | error e => exact (noCX _ e s2 done).elim
  | ok fl =>
    cases fl with
    | ret u =>
      rcases done with ⟨v, H2, os, bare, un, ok2, ru, ev⟩
      have ev2 : v = .bl true := ev
      subst ev2
      obtain rfl : u = Value.bool true := ru
      have stays : ∀ b o, b ∉ cs.map Prod.snd → s1.heap.get? b = some o → s2.heap.get? b = some o := fun b o nb e => by
        by_cases h1 : b = a ∧ K.lookup a = none
        · have f2 := un.frzs b _ _ (startH_a h1)
          have e1 := (ok b _ (startH_a h1)).1
          rw [e] at e1
          cases e1
          exact (ok2 b _ f2).1
        · exact un.keep b o e (startH_n h1 nb) (by intro z; exact absurd (show b ∈ ([] : List Addr) from z) (by simp)) (by simp)
      have grown : ∀ p ∈ cs, ∃ more : Array Value, s2.heap.get? p.2 = some { cls := .none, data := .fields more } := fun p hp => by
        rcases un.tbls p.2 #[] (atT p hp) with ⟨more, z⟩
        exact ⟨_, ok2 p.2 _ z⟩
      refine ⟨rfl, ⟨fun b o e => ?_, fun b o e => ?_⟩, os, bare⟩
      · by_cases h2 : b ∈ cs.map Prod.snd
        · rcases List.mem_map.mp h2 with ⟨p, hp, rfl⟩
          rcases grown p hp with ⟨more, hm⟩
          rw [tab p hp] at e
          cases e
          exact .inr (.inl ⟨((code p hp).tab (tab p hp)).isCodeTable, rfl, #[], more, rfl, by rw [Array.empty_append]; exact hm⟩)
        · exact .inl (stays b o h2 e)
      · by_cases h2 : b ∈ cs.map Prod.snd
        · rcases List.mem_map.mp h2 with ⟨p, hp, rfl⟩
          rcases grown p hp with ⟨more, hm⟩
          exact ⟨_, hm⟩
        · exact ⟨o, stays b o h2 e⟩
    | _ => exact (show False from done).elim
end
/-- what is known of the law's promise at the head's heap h -/
def LawG (l : PySem.W.OpenLaw) (w : World) (K : PySem.W.Frag) (CX : CXT) (k n : Nat) (x : Str) (mg : Str → Option Value) (fa : Addr) (h : Heap) : Prop :=
  ∃ (fd : FuncData) (cs : List (Addr × Addr)) (sp : Sp), (∀ p ∈ cs, h.get? p.2 = some { cls := .none, data := .fields #[] }) ∧ (∀ p ∈ cs, K.lookup p.2 = none) ∧ (∀ p ∈ cs, PySem.W.CodeHd h p.1 p.2) ∧ (∀ (s : Shared) (u : Value), BindsTo s fd ⟨[u], []⟩ [(x, u)]) ∧
    (∀ (H : Hp) (a : Addr) (ns : List Int), ns.length ≤ n → (∀ p ∈ cs, H p.2 = some (.tbl #[])) → SqL K H a (ns.map V.int) → sp [.ref a] H (fun v _ => v = .bl true) fun _ _ _ => False) ∧
    ∀ base : Heap, K.In base → base.Ns mainGlobals mg → (∀ p ∈ cs, TabB base mg p.1 p.2) → FnG l.prog w K mg base CX k fa fd [x] sp
theorem walk_G {l : PySem.W.OpenLaw} {n k : Nat} {q : Program} {loose : List Str} {XP : (Str → Option Value) → Heap → Prop} {YP : World → Heap → Prop} {d : DefRec} {K : Params → PySem.W.Frag} {CX : World → CXT} {x : Str}
    (hn : l.most = some n) (small : n ≤ sizeLine) (noDef : d.params.defaults = []) (room : RoomG k callerA) (hY : ∀ (w : World) (h : Heap), YP w h → (K w.params).In h)
    (F : ∀ (w : World) (mg mb : Str → Option Value) (mean : ExcName → Option Value) (fa : Addr) (h : Heap), YP w h → PyProof.Rows.Top q (PySem.W.looseW q loose) mean mg mb h → (K w.params).In h → h.Ns mainGlobals mg → mg d.name = some (.ref fa) → LawG l w (K w.params) (CX w) k n x mg fa h)
    (noCX : ∀ (w : World) (H : Hp) (s : Shared) (e : Value) (s' : Shared), CX w [] H s (fun _ _ _ => False) e s' → False) : PySem.W.WalkO q loose XP YP l.row.toRowW d [] (fun f vs => PySem.call f vs) := by
  refine Att.attach_callB hn noDef fun w s0 s1 mg mb fa o pm cd doc a vs ns G Y ho hd hcd hmg hobj hints hlen hbits hg => ?_
  rcases F w mg mb _ fa _ Y G.T (hY w _ Y) G.T.g hmg with ⟨fd, cs, sp, tab, tabK, code, bind, told, go⟩
  exact law_callG (hY w _ Y) G.T.g G.T.b G.T.builtins G.T.nolimit hg tab tabK code G.T.bmain hobj hints (Nat.le_trans hlen small) room go bind (fun H t L => told H a ns hlen t L) fun H e s' => noCX w H s1 e s'
end DL


set_option Elab.async false
set_option linter.all false
set_option maxRecDepth 100000
set_option exponentiation.threshold 9000
namespace K0
open PySem PySem.Spec PyProof.Rows L2 DL LamX
variable [TabT]
def top (i : Nat) : Stmt := PySem.Challenge.pw_thirdcounts_k00_errors_told.main.body.getD i (.Pass ⟨0, 0, 0, 0⟩)
/-- what the top has bound -/
structure Top (mg : Str → Option Value) : Prop where
  isi : mg "isinstance" = none
  int : mg "int" = none
  len : mg "len" = none
  abs : mg "abs" = none
  range : mg "range" = none
  min : mg "min" = none
  max : mg "max" = none
  repr : mg "repr" = none
  enumerate : mg "enumerate" = none
/-- of at most so many bits -/
def Bd (n : Nat) (t : Int) : Prop := t.natAbs < 2 ^ n
theorem Bd.mono {n m : Nat} {t : Int} (h : Bd n t) (k : n ≤ m) : Bd m t := Nat.lt_of_lt_of_le h (Nat.pow_le_pow_right (by decide) k)
theorem Bd.mul {n m : Nat} {t u : Int} (h : Bd n t) (k : Bd m u) : Bd (n + m) (t * u) := wide_lt h k
theorem Bd.add {n : Nat} {t u : Int} (h : Bd n t) (k : Bd n u) : Bd (n + 1) (t + u) := by
  unfold Bd at *
  have : (2 : Nat) ^ (n + 1) = 2 ^ n + 2 ^ n := by rw [Nat.pow_succ]; omega
  omega
theorem Bd.neg {n : Nat} {t : Int} (h : Bd n t) : Bd n (-t) := by
  unfold Bd at *
  omega
theorem Bd.sub {n : Nat} {t u : Int} (h : Bd n t) (k : Bd n u) : Bd (n + 1) (t - u) := by
  rw [Int.sub_eq_add_neg]
  exact h.add k.neg
theorem Bd.cmul {n m : Nat} {t u : Int} (h : Bd n t) (k : Bd m u) (hn : 0 < n := by decide) (hm : 0 < m := by decide) (hs : n + m ≤ 1000000 := by decide) : CMulW t u := wide_mul h k hn hm hs
theorem Bd.cdiv {n : Nat} {t u : Int} (h : Bd n u) (h0 : u ≠ 0) (hn : 0 < n := by decide) (hs : n ≤ 9000 := by decide) : CDivZ t u := ⟨h0, Nat.lt_of_lt_of_le (PySem.Flt.log2_lt_of hn h) hs⟩
/-- the quotient in lowest terms -/
def gq (t b : Int) : Int := if b < 0 then -((Nat.gcd t.natAbs b.natAbs : Nat) : Int) else ((Nat.gcd t.natAbs b.natAbs : Nat) : Int)
def frT (t b : Int) : Int := t.fdiv (gq t b)
def frB (t b : Int) : Int := b.fdiv (gq t b)
def frD (t b : Int) : PyData := .tuple [.int (frT t b), .int (frB t b)]
theorem gq_ne {t b : Int} (h : b ≠ 0) : gq t b ≠ 0 := by
  have : 0 < Nat.gcd t.natAbs b.natAbs := Nat.gcd_pos_of_pos_right _ (by omega)
  unfold gq
  split <;> omega
theorem gq_bd {n : Nat} {t b : Int} (h : b ≠ 0) (k : Bd n b) : Bd n (gq t b) := by
  have h1 : Nat.gcd t.natAbs b.natAbs ≤ b.natAbs := Nat.gcd_le_right _ (by omega)
  have h2 : (gq t b).natAbs = Nat.gcd t.natAbs b.natAbs := by
    unfold gq
    split <;> omega
  unfold Bd at *
  omega
theorem cpow10 {j : Int} (h0 : 0 ≤ j) (h : j ≤ 100) : CPow 10 j := ⟨h0, by omega, by decide⟩
/-! ### the dice -/
def oneV (s : S) : Int := (s.2.1 + 99990067 * (s.2.2 + 1)).fmod 2305843009213693381
def twoV (s : S) : Int := (oneV s * oneV s + 89 * (s.2.2 + 1)).fmod 2305843009213693343 * 8675309 + oneV s
def rollV (s : S) (n : Int) : Int := if 0 < s.1 then s.1.fmod n else ((twoV s).fdiv 65551).fmod n
def rollS (s : S) (n : Int) : S := if 0 < s.1 then (s.1.fdiv n, s.2.1, s.2.2) else (s.1, s.2.1, s.2.2 + 1)
theorem fmod_bd {i n : Int} (h : 0 < n) : 0 ≤ i.fmod n ∧ i.fmod n < n := by
  rw [Int.fmod_eq_emod_of_nonneg _ (by omega)]
  exact ⟨Int.emod_nonneg _ (by omega), Int.emod_lt_of_pos _ h⟩
theorem roll_bd (s : S) {n : Int} (h : 0 < n) : 0 ≤ rollV s n ∧ rollV s n < n := by
  unfold rollV
  split <;> exact fmod_bd h
theorem gcd_turn (x y : Nat) : Nat.gcd y (x % y) = Nat.gcd x y := by
  rw [Nat.gcd_comm y (x % y), ← Nat.gcd_rec, Nat.gcd_comm]
section
variable {P : Program} {w : World} {K : PySem.W.Frag} {mg : Str → Option Value} {base : Heap} {f : Addr} {fd : FuncData}
abbrev sRoll : Stmt := top 22
theorem scRoll : FnScope ["_law_dice_here", "_law_total", "_law_one", "_law_two", "_law_found"] ["_law_dice_here", "_law_total"] (defScope sRoll) := ⟨rfl, rfl, rfl, by decide +kernel, rfl, by decide +kernel, by decide +kernel⟩
def rRoll : Rel := fun as s d s' => ∃ n, as = [.dice, .val (.int n)] ∧ 0 < n ∧ Bd 9000 n ∧ d = .int (rollV s n) ∧ s' = rollS s n
theorem ok_roll (F : Fun K "_law_roll" "_law_roll" sRoll f fd) (T : Top mg) : FnOk P w K mg base CX0 1 f fd ["_law_dice_here", "_law_total"] (spD rRoll) := by
  refine okD F scRoll (by rintro _ _ _ _ ⟨n, rfl, _⟩; rfl) fun cdv A outer s0 H0 E C z as s d s' h => ?_
  obtain ⟨n, rfl, n0, hn, rfl, rfl⟩ := h
  obtain ⟨a, b, c⟩ := s
  by_cases h0 : 0 < a
  · have e1 : rollV (a, b, c) n = a.fmod n := if_pos h0
    have e2 : rollS (a, b, c) n = (a.fdiv n, b, c) := if_pos h0
    rw [e1, e2]
    refine sr_ifT (ET.is (et_gt (ev_dice 0 0) ev_int) (decide_eq_true h0)) ?_
    refine sr_asg 4 C.nd (ev_mod (show n ≠ 0 by omega) (ev_bty call_int1 rb_int T.int (ed_cons (ev_dice 0 0) ed_nil)) (ev_var 1)) ?_
    refine sr_put 0 0 (ev_div (hn.cdiv (by omega)) (ev_dice 0 0) (ev_var 1)) ?_
    exact sr_ret (ev_var 4)
  · have e1 : rollV (a, b, c) n = ((twoV (a, b, c)).fdiv 65551).fmod n := if_neg h0
    have e2 : rollS (a, b, c) n = (a, b, c + 1) := if_neg h0
    rw [e1, e2]
    have m1 : -(2 ^ 64) < oneV (a, b, c) ∧ oneV (a, b, c) < 2 ^ 64 := by
      have := fmod_bd (i := b + 99990067 * (c + 1)) (n := 2305843009213693381) (by decide)
      unfold oneV
      dsimp only
      omega
    have m2 : -(2 ^ 64) < (oneV (a, b, c) * oneV (a, b, c) + 89 * (c + 1)).fmod 2305843009213693343 ∧ (oneV (a, b, c) * oneV (a, b, c) + 89 * (c + 1)).fmod 2305843009213693343 < 2 ^ 64 := by
      have := fmod_bd (i := oneV (a, b, c) * oneV (a, b, c) + 89 * (c + 1)) (n := 2305843009213693343) (by decide)
      omega
    refine sr_ifF (ET.is (et_gt (ev_dice 0 0) ev_int) (decide_eq_false h0)) ?_
    refine sr_put 0 2 (ev_add (ev_dice 0 2) ev_int) ?_
    refine sr_asg (d := .int (oneV (a, b, c))) 2 C.nd (ev_mod (by decide) (ev_bty call_int1 rb_int T.int (ed_cons (ev_add (ev_dice 0 1) (ev_mulL (by decide) ev_int (ev_dice 0 2))) ed_nil)) ev_int) ?_
    refine sr_asg (d := .int (twoV (a, b, c))) 3 C.nd (ev_add (ev_mulL m2 (ev_mod (by decide) (ev_bty call_int1 rb_int T.int (ed_cons (ev_add (ev_mulL m1 (ev_var 2) (ev_var 2)) (ev_mulL (by decide) ev_int (ev_dice 0 2))) ed_nil)) ev_int) ev_int) (ev_var 2)) ?_
    exact sr_ret (ev_mod (show n ≠ 0 by omega) (ev_bty call_int1 rb_int T.int (ed_cons (ev_div ⟨by decide, by decide⟩ (ev_var 3) ev_int) ed_nil)) (ev_var 1))
abbrev sGcd : Stmt := top 24
theorem scGcd : FnScope ["_law_one", "_law_other"] ["_law_one", "_law_other"] (defScope sGcd) := ⟨rfl, rfl, rfl, by decide +kernel, rfl, by decide +kernel, by decide +kernel⟩
def rGcd' : Rel := fun as s d s' => ∃ a b, as = [.val (.int a), .val (.int b)] ∧ d = .int (Nat.gcd a.natAbs b.natAbs : Nat) ∧ s' = s
theorem ok_gcd (F : Fun K "_law_gcd" "_law_gcd" sGcd f fd) (T : Top mg) : FnOk P w K mg base CX0 1 f fd ["_law_one", "_law_other"] (spD rGcd') := by
  refine okD F scGcd (by rintro _ _ _ _ ⟨a, b, rfl, _⟩; rfl) fun cdv A outer s0 H0 E C z as s₁ d s h => ?_
  obtain ⟨a, b, rfl, rfl, rfl⟩ := h
  refine sr_par 0 1 C.calm C.nd (ed_cons (ev_bltn call_abs rb_abs T.abs (ed_cons (ev_var 0) ed_nil)) (ed_cons (ev_bltn call_abs rb_abs T.abs (ed_cons (ev_var 1) ed_nil)) ed_nil)) ?_
  refine sr_whileW C.hp (fun m es s' => s' = s ∧ ∃ x : Nat, es = [.val (.int (x : Int)), .val (.int (m : Int))] ∧ Nat.gcd x m = Nat.gcd a.natAbs b.natAbs) (m0 := b.natAbs) ⟨rfl, a.natAbs, rfl, rfl⟩ ?_
  rintro m es s' ⟨rfl, x, rfl, hg⟩
  by_cases hm : 0 < m
  · right
    refine ⟨ET.is (et_gt (ev_var 1) ev_int) (decide_eq_true (by omega)), _, s', x % m, Nat.mod_lt _ hm, ⟨rfl, m, rfl, by rw [gcd_turn, hg]⟩, ?_⟩
    have e : ((x : Int)).fmod (m : Int) = ((x % m : Nat) : Int) := by
      rw [Int.fmod_eq_emod_of_nonneg _ (by omega)]
      rfl
    refine sr_par 0 1 C.calm C.nd (ed_cons (ev_var 1) (ed_cons (EV.is (ev_mod (show (m : Int) ≠ 0 by omega) (ev_bty call_int1 rb_int T.int (ed_cons (ev_var 0) ed_nil)) (ev_var 1)) (by rw [e])) ed_nil)) sr_nil
  · left
    have e0 : m = 0 := by omega
    subst e0
    rw [Nat.gcd_zero_right] at hg
    subst hg
    exact ⟨ET.is (et_gt (ev_var 1) ev_int) (decide_eq_false (by decide)), sr_ret (ev_var 0)⟩
def rQuot : Rel := fun as s d s' => ∃ t b, as = [.val (.int t), .val (.int b)] ∧ b ≠ 0 ∧ Bd 9000 b ∧ d = frD t b ∧ s' = s
abbrev sLFr : Stmt := top 25
theorem scLFr : FnScope ["_law_top", "_law_bottom", "_law_shared"] ["_law_top", "_law_bottom"] (defScope sLFr) := ⟨rfl, rfl, rfl, by decide +kernel, rfl, by decide +kernel, by decide +kernel⟩
theorem ok_lfr (F : Fun K "_law_fraction" "_law_fraction" sLFr f fd) (G : Dn P w K mg base 1 "_law_gcd" rGcd') : FnOk P w K mg base CX0 2 f fd ["_law_top", "_law_bottom"] (spD rQuot) := by
  refine okD F scLFr (by rintro _ _ _ _ ⟨v, t, rfl, _⟩; rfl) fun cdv A outer s0 H0 E C z as s₁ d s h => ?_
  obtain ⟨t, b, rfl, hb, hB, rfl, rfl⟩ := h
  refine sr_asg 2 C.nd (ev_call G C.hr (ea_cons (ev_var 0) (ea_cons (ev_var 1) ea_nil)) ⟨_, _, rfl, rfl, rfl⟩) ?_
  have fin : SR (cxOf CX0 P w K mg base ["_law_top", "_law_bottom", "_law_shared"] "_law_fraction" (defScope sLFr) f cdv A outer s0 H0 E).nox z ((defBody sLFr).drop 2) [.val (.int t), .val (.int b), .val (.int (gq t b))] s (.rt (frD t b) s) :=
    sr_ret (ev_tup (ed_cons (ev_div ((gq_bd hb hB).cdiv (gq_ne hb)) (ev_var 0) (ev_var 2)) (ed_cons (ev_div ((gq_bd hb hB).cdiv (gq_ne hb)) (ev_var 1) (ev_var 2)) ed_nil)))
  by_cases h0 : b < 0
  · have e : gq t b = -((Nat.gcd t.natAbs b.natAbs : Nat) : Int) := if_pos h0
    rw [e] at fin
    exact sr_ifTn (ET.is (et_lt (ev_var 1) ev_int) (decide_eq_true h0)) (sr_asg 2 C.nd (ev_neg (ev_var 2)) sr_nil) fin
  · have e : gq t b = ((Nat.gcd t.natAbs b.natAbs : Nat) : Int) := if_neg h0
    rw [e] at fin
    exact sr_ifF (ET.is (et_lt (ev_var 1) ev_int) (decide_eq_false h0)) fin
end
def pickD (s : S) (ds : List PyData) : PyData := ds.getD (rollV s (ds.length : Int)).toNat .none
theorem pick_get (s : S) {ds : List PyData} (h : ds ≠ []) : ∃ i, i < ds.length ∧ rollV s (ds.length : Int) = (i : Int) ∧ ds[i]? = some (pickD s ds) := by
  have hl : 0 < ds.length := List.length_pos_iff.mpr h
  have hb := roll_bd s (n := (ds.length : Int)) (by omega)
  refine ⟨(rollV s (ds.length : Int)).toNat, by omega, by omega, ?_⟩
  unfold pickD
  rw [List.getD_eq_getElem?_getD, List.getElem?_eq_getElem (by omega)]
  rfl
section
variable {P : Program} {w : World} {K : PySem.W.Frag} {mg : Str → Option Value} {base : Heap} {f : Addr} {fd : FuncData}
abbrev sPick : Stmt := top 23
theorem scPick : FnScope ["_law_dice_here", "_law_items"] ["_law_dice_here", "_law_items"] (defScope sPick) := ⟨rfl, rfl, rfl, by decide +kernel, rfl, by decide +kernel, by decide +kernel⟩
def rPick : Rel := fun as s d s' => ∃ ds, (as = [.dice, .val (.list ds)] ∨ as = [.dice, .own ds]) ∧ ds ≠ [] ∧ ds.length ≤ 1000 ∧ d = pickD s ds ∧ s' = rollS s (ds.length : Int)
theorem bd_small {n : Nat} (h : n ≤ 10 ^ 30) : Bd 9000 (n : Int) := by
  unfold Bd
  rw [Int.natAbs_natCast]
  exact Nat.lt_of_le_of_lt h (by decide)
theorem ok_pick (F : Fun K "_law_pick" "_law_pick" sPick f fd) (T : Top mg) (G : Dn P w K mg base 1 "_law_roll" rRoll) : FnOk P w K mg base CX0 2 f fd ["_law_dice_here", "_law_items"] (spD rPick) := by
  refine okD F scPick (by rintro _ _ _ _ ⟨ds, rfl | rfl, _⟩ <;> rfl) fun cdv A0 outer s0 H0 E C z as s₁ d s h => ?_
  obtain ⟨ds, has, h0, hl, rfl, rfl⟩ := h
  have hp : 0 < ds.length := List.length_pos_iff.mpr h0
  obtain ⟨i, hi, hr, hg⟩ := pick_get s₁ h0
  have b9 : Bd 9000 (ds.length : Int) := bd_small (by omega)
  rcases has with rfl | rfl
  · exact sr_ret (ev_ixL (i := (i : Int)) (ev_var 1) (EV.is (ev_call G C.hr (ea_dice 0 (ea_cons (ev_bltn call_len rb_len T.len (ed_cons (ev_var 1) ed_nil)) ea_nil)) ⟨_, rfl, by omega, b9, rfl, rfl⟩) (by rw [hr])) (atI_nat hg))
  · exact sr_ret (ev_ixO (ds := ds) 1 (EV.is (ev_call G C.hr (ea_dice 0 (ea_cons (ev_lenO (ds := ds) 1 T.len) ea_nil)) ⟨_, rfl, by omega, b9, rfl, rfl⟩) (by rw [hr])) (atI_nat hg))

end
section
variable {X : Cx} {z : Z} {s : S}
theorem rb_max (hc : X.calm = true) {i j : Int} : RB z s (fun xs H Q => ∃ i j, xs = [.int i, .int j] ∧ Q (.int (if j > i then j else i)) H) [.int i, .int j] (.int (max i j)) := fun vs H at_ h Q q => by
  cases h with
  | cons h r =>
    cases h
    cases r with
    | cons h r =>
      cases h
      cases r
      refine ⟨i, j, rfl, ?_⟩
      have e : (if j > i then j else i) = max i j := by
        by_cases h : j > i
        · rw [if_pos h]; omega
        · rw [if_neg h]; omega
      rw [e]
      exact q _ H (.refl H) at_ (.int _)
end
def z0 : Z := ⟨none, []⟩
theorem at0 {H : Hp} {s : S} (t : Tabs TabT.T H) : At z0 H s := ⟨fun a h => (by cases h), fun p h => (by cases h), fun p h => (by cases h), t⟩
theorem fz0 {a : Addr} (h : ∀ q, (a, q) ∉ TabT.T) : Fz z0 a := ⟨⟨fun h => (by cases h), h⟩, fun o h => (by cases h)⟩
theorem far_tab {H : Hp} {a : Addr} {o : HO} (t : Tabs TabT.T H) (h : H a = some o) (n : ∀ xs, o ≠ .tbl xs) : ∀ q, (a, q) ∉ TabT.T := fun q hq => by
  obtain ⟨ps, e, _⟩ := t _ hq
  have e : H a = some (.tbl ps) := e
  rw [e] at h
  exact n ps (Option.some.inj h).symm
section
variable {P : Program} {w : World} {K : PySem.W.Frag} {mg : Str → Option Value} {base : Heap} {f : Addr} {fd : FuncData}
abbrev sDice : Stmt := top 21
theorem scDice : FnScope ["_law_script", "_law_spot", "_law_cell", "_law_left"] ["_law_script", "_law_spot"] (defScope sDice) := ⟨rfl, rfl, rfl, by decide +kernel, rfl, by decide +kernel, by decide +kernel⟩
/-- a new list of three ints -/
def spDice (K : PySem.W.Frag) : Sp := fun vs H Q _ => ∃ (a : Addr) (i : Nat) (ns : List Int), vs = [.ref a, .int (i : Int)] ∧ SqL K H a (ns.map V.int) ∧ ns.length ≤ 63 ∧ Tabs TabT.T H ∧ ∀ (s : S) (H1 : Hp) (p : Addr), Ez z0 H H1 → Tabs TabT.T H1 → H1 p = none → Q (.ref p) (upd H1 p (DL.dv s))
theorem ok_dice (F : Fun K "_law_dice" "_law_dice" sDice f fd) (T : Top mg)  : FnOk P w K mg base CX0 1 f fd ["_law_script", "_law_spot"] (spDice K) := by
  refine F.ok scDice (fun vs H Q E h => ?_) (fun cdv A outer s0 H0 vs Q E hr h => ?_)
  · obtain ⟨a, i, ns, rfl, _⟩ := h
    rfl
  · obtain ⟨a, i, ns, rfl, hS, hl, t0, q⟩ := h
    have C : Ctx (cxOf CX0 P w K mg base ["_law_script", "_law_spot", "_law_cell", "_law_left"] "_law_dice" (defScope sDice) f cdv A outer s0 H0 E).nox 0 ["_law_script", "_law_spot", "_law_cell", "_law_left"] := ⟨scDice.nd, rfl, PassesOwn.never, hr, hr.units⟩
    refine ⟨_, pss_cons (ps_set (i := 2) scDice.nd rfl (.inl rfl) (pe_ifExp (pt_cmpR op_lt (L2.pv 1) (pe_callB call_len (by rfl) T.len (by decide +kernel) (pa_cons (L2.pv 0) pa_nil)) (nomark _)) (pe_callTy call_int1 (by rfl) T.int (by decide +kernel) (pa_cons (pe_ix ix_list (L2.pv 0) (L2.pv 1) (fun _ _ => rfl)) pa_nil)) wE_ok))
      (pss_cons wS_ok (pss_one (ps_ret (pe_lst wA_ok)))), ?_⟩
    have e0 : ∀ (c : Int) (H0 : Hp), En z0 H0 [some (.ref a), some (.int (i : Int)), some (.int c), none] [.un, .val (.int (i : Int)), .val (.int c), .un] := fun c _ => .cons .un (.cons (.val (.int _)) (.cons (.val (.int _)) (.cons .un .nil)))
    -- the rest, from the cell on
    have rest : ∀ (c : Int) (H3 : Hp), Ez z0 H0 H3 → Tabs TabT.T H3 → (tSeq (wS (cxOf CX0 P w K mg base ["_law_script", "_law_spot", "_law_cell", "_law_left"] "_law_dice" (defScope sDice) f cdv A outer s0 H0 E).nox ((defBody sDice).getD 1 (.Pass ⟨0, 0, 0, 0⟩))) (tRet (tLst (wA (cxOf CX0 P w K mg base ["_law_script", "_law_spot", "_law_cell", "_law_left"] "_law_dice" (defScope sDice) f cdv A outer s0 H0 E).nox
        (match (defBody sDice)[2]? with | some (Stmt.Return (some (Expr.List es _)) _) => es | _ => []))))) { nx := fun _ H' => Q .non H', rt := Q } [some (.ref a), some (.int (i : Int)), some (.int c), none] H3 := fun c H3 e3 t3 => by
      have m1 : -(2 ^ 64) < (c.natAbs : Int).fmod 1152921504606846869 ∧ (c.natAbs : Int).fmod 1152921504606846869 < 2 ^ 64 := by
        have := fmod_bd (i := (c.natAbs : Int)) (n := 1152921504606846869) (by decide)
        omega
      have B1 : Bd 300 ((10 : Int) ^ (56 : Int).toNat) := by unfold Bd; decide
      have B2 : Bd 300 ((10 : Int) ^ (60 : Int).toNat) := by unfold Bd; decide
      have L1 : EV (cxOf CX0 P w K mg base ["_law_script", "_law_spot", "_law_cell", "_law_left"] "_law_dice" (defScope sDice) f cdv A outer s0 H0 E).nox z0 (match (defBody sDice)[1]? with | some (Stmt.Assign _ e _) => e | _ => .Constant .none 0 ⟨0, 0, 0, 0⟩) [.un, .val (.int (i : Int)), .val (.int c), .un] (0, 0, 0) (.int ((max 0 ((c.natAbs : Int) - 10 ^ (16 : Int).toNat)).fmod (10 ^ (56 : Int).toNat * 10 ^ (60 : Int).toNat))) (0, 0, 0) :=
        ev_mod (by decide) (ev_bltn (call_max2 C.calm) (rb_max C.calm) T.max (ed_cons ev_int (ed_cons (ev_sub (ev_bltn call_abs rb_abs T.abs (ed_cons (ev_var 2) ed_nil)) (ev_pow (cpow10 (by decide) (by decide)) ev_int ev_int)) ed_nil))) (ev_mul (B1.cmul B2) (ev_pow (cpow10 (by decide) (by decide)) ev_int ev_int) (ev_pow (cpow10 (by decide) (by decide)) ev_int ev_int))
      refine ⟨_, ps_set (i := 3) scDice.nd rfl (.inl rfl) wE_ok, ?_⟩
      refine L1 _ H3 (e0 c H3) (at0 t3) _ fun v H1 e1 a1 v1 => ?_
      have en1 : En z0 H1 [some (.ref a), some (.int (i : Int)), some (.int c), some v] [.un, .val (.int (i : Int)), .val (.int c), .val (.int ((max 0 ((c.natAbs : Int) - 10 ^ (16 : Int).toNat)).fmod (10 ^ (56 : Int).toNat * 10 ^ (60 : Int).toNat)))] := .cons .un (.cons (.val (.int _)) (.cons (.val (.int _)) (.cons (.val v1) .nil)))
      have D : ED (cxOf CX0 P w K mg base ["_law_script", "_law_spot", "_law_cell", "_law_left"] "_law_dice" (defScope sDice) f cdv A outer s0 H0 E).nox z0 (match (defBody sDice)[2]? with | some (Stmt.Return (some (Expr.List es _)) _) => es | _ => []) [.un, .val (.int (i : Int)), .val (.int c), .val (.int ((max 0 ((c.natAbs : Int) - 10 ^ (16 : Int).toNat)).fmod (10 ^ (56 : Int).toNat * 10 ^ (60 : Int).toNat)))] (0, 0, 0)
          [.int ((max 0 ((c.natAbs : Int) - 10 ^ (16 : Int).toNat)).fmod (10 ^ (56 : Int).toNat * 10 ^ (60 : Int).toNat)), .int ((c.natAbs : Int).fmod 1152921504606846869 * 61 + 1009 * (i : Int) + 43 * (if decide (c < 0) = true then 1 else 0) + 17), .int 0] (0, 0, 0) :=
        ed_cons (ev_var 3) (ed_cons (ev_add (ev_add (ev_add (ev_mulL m1 (ev_mod (by decide) (ev_bltn call_abs rb_abs T.abs (ed_cons (ev_var 2) ed_nil)) ev_int) ev_int) (ev_mulL (by decide) ev_int (ev_var 1))) (ev_mulL (by decide) ev_int (ev_bty call_int1 rb_intB T.int (ed_cons (ev_lt (ev_var 2) ev_int) ed_nil)))) ev_int) (ed_cons ev_int ed_nil))
      refine D _ H1 en1 (at0 a1.t) _ fun vs H2 e2 a2 v2 => ?_
      cases v2 with
      | cons h r =>
        cases h
        cases r with
        | cons h r =>
          cases h
          cases r with
          | cons h r =>
            cases h
            cases r
            exact ⟨(by show 3 ≤ sizeLine; decide), fun p hp => q (_, _, _) H2 p (e3.trans (e1.trans e2)) a2.t hp⟩
    -- the cell
    refine ⟨_, rfl, .ref a, rfl, .ref a, _, rfl, .inl ⟨_, hS, rfl⟩, _, _, rfl, rfl, _, rfl, ?_⟩
    rw [List.length_map]
    by_cases hi : i < ns.length
    · rw [decide_eq_true (show (i : Int) < (ns.length : Int) by omega)]
      refine iteT ⟨.ref a, rfl, _, rfl, a, _, (i : Int), .int ns[i], rfl, rfl, hS, atI_nat (j := i) (by rw [List.getElem?_map, List.getElem?_eq_getElem hi]; rfl), .inl ⟨_, rfl, ?_⟩⟩
      exact rest ns[i] H0 (.refl H0) t0
    · rw [decide_eq_false (show ¬ (i : Int) < (ns.length : Int) by omega)]
      refine iteF ?_
      have L0 : EV (cxOf CX0 P w K mg base ["_law_script", "_law_spot", "_law_cell", "_law_left"] "_law_dice" (defScope sDice) f cdv A outer s0 H0 E).nox z0 (match (defBody sDice)[0]? with | some (Stmt.Assign _ (Expr.IfExp _ _ e _) _) => e | _ => .Constant .none 0 ⟨0, 0, 0, 0⟩) [.un, .val (.int (i : Int)), .un, .un] (0, 0, 0) (.int (89 * (i : Int) + 53)) (0, 0, 0) :=
        ev_add (ev_mulL (by decide) ev_int (ev_var 1)) ev_int
      refine L0 _ H0 (.cons .un (.cons (.val (.int _)) (.cons .un (.cons .un .nil)))) (at0 t0) _ fun v H1 e1 a1 v1 => ?_
      cases v1
      exact rest _ H1 e1 a1.t
end
end K0


set_option Elab.async false
set_option linter.all false
set_option maxRecDepth 100000
set_option exponentiation.threshold 9000
namespace K0
open PySem PySem.Spec PyProof.Rows L2 DL LamX
variable [TabT]
section
variable {P : Program} {w : World} {K : PySem.W.Frag} {mg : Str → Option Value} {base : Heap} {f : Addr} {fd : FuncData}
def pickI (s : S) (l : List Int) : Int := l.getD (rollV s l.length).toNat 0
theorem pickI_mem (s : S) {l : List Int} (h : 0 < l.length) : pickI s l ∈ l := by
  have hb := roll_bd s (n := l.length) (by omega)
  unfold pickI
  rw [List.getD_eq_getElem?_getD, List.getElem?_eq_getElem (show (rollV s l.length).toNat < l.length by omega)]
  exact List.getElem_mem _
theorem pick_int (s : S) {l : List Int} (h : 0 < l.length) : pickD s (l.map .int) = .int (pickI s l) := by
  have hb := roll_bd s (n := l.length) (by omega)
  unfold pickD pickI
  rw [List.length_map, List.getD_eq_getElem?_getD, List.getD_eq_getElem?_getD, List.getElem?_map, List.getElem?_eq_getElem (show (rollV s l.length).toNat < l.length by omega)]
  rfl
def mostL : List Int := [3, 12, 10 ^ (9 : Int).toNat, 10 ^ (40 : Int).toNat]
def lowL : List Int := [1, 4, 12, 1000]
def dMost (s : S) : Int := pickI s mostL
def dS1 (s : S) : S := rollS s 4
def dTop (s : S) : Int := rollV (dS1 s) (2 * dMost s + 1) - dMost s
def dS2 (s : S) : S := rollS (dS1 s) (2 * dMost s + 1)
def dWay (s : S) : Int := rollV (dS2 s) 6
def dS3 (s : S) : S := rollS (dS2 s) 6
def drawnV (s : S) : PyData :=
  if dWay s < 2 then .int (dTop s) else if dWay s = 2 then frD (dTop s * 10 ^ (30 : Int).toNat + 7) (1 + rollV (dS3 s) (10 ^ (50 : Int).toNat)) else frD (dTop s) (1 + rollV (rollS (dS3 s) 4) (pickI (dS3 s) lowL))
def drawnS (s : S) : S := if dWay s < 2 then dS3 s else if dWay s = 2 then rollS (dS3 s) (10 ^ (50 : Int).toNat) else rollS (rollS (dS3 s) 4) (pickI (dS3 s) lowL)
theorem most_bd (s : S) : 3 ≤ dMost s ∧ dMost s ≤ 10 ^ 40 := by
  have h := pickI_mem s (l := mostL) (by decide)
  unfold dMost
  simp only [mostL, List.mem_cons, List.not_mem_nil, or_false] at h
  rcases h with e | e | e | e <;> rw [show pickI s mostL = _ from e] <;> decide
theorem low_bd (s : S) : 1 ≤ pickI s lowL ∧ pickI s lowL ≤ 1000 := by
  have h := pickI_mem s (l := lowL) (by decide)
  simp only [lowL, List.mem_cons, List.not_mem_nil, or_false] at h
  rcases h with e | e | e | e <;> rw [show pickI s lowL = _ from e] <;> decide
theorem top_bd (s : S) : -(10 ^ 40) ≤ dTop s ∧ dTop s ≤ 10 ^ 40 := by
  have h := most_bd s
  have h2 := roll_bd (dS1 s) (n := 2 * dMost s + 1) (by omega)
  unfold dTop
  omega
abbrev sDrawn : Stmt := top 26
theorem scDrawn : FnScope ["_law_dice_here", "_law_most", "_law_top", "_law_way"] ["_law_dice_here"] (defScope sDrawn) := ⟨rfl, rfl, rfl, by decide +kernel, rfl, by decide +kernel, by decide +kernel⟩
def rDrawn : Rel := fun as s d s' => as = [.dice] ∧ d = drawnV s ∧ s' = drawnS s
theorem ok_drawn (F : Fun K "_law_nm_drawn" "_law_nm_drawn" sDrawn f fd) (G1 : Dn P w K mg base 2 "_law_pick" rPick) (G2 : Dn P w K mg base 1 "_law_roll" rRoll) (G3 : Dn P w K mg base 2 "_law_fraction" rQuot) : FnOk P w K mg base CX0 3 f fd ["_law_dice_here"] (spD rDrawn) := by
  refine okD F scDrawn (by rintro _ _ _ _ ⟨rfl, _⟩; rfl) fun cdv A outer s0 H0 E C z as s d s' h => ?_
  obtain ⟨rfl, rfl, rfl⟩ := h
  have hm := most_bd s
  have ht := top_bd s
  have h2 := roll_bd (dS3 s) (n := 10 ^ (50 : Int).toNat) (by decide)
  have h3 := low_bd (dS3 s)
  have h4 := roll_bd (rollS (dS3 s) 4) (n := pickI (dS3 s) lowL) (by omega)
  refine sr_asg (d := .int (dMost s)) (s1 := dS1 s) 1 C.nd (ev_call G1 C.hr (ea_dice 0 (ea_cons (ev_lst (ed_cons ev_int (ed_cons ev_int (ed_cons (ev_pow (cpow10 (by decide) (by decide)) ev_int ev_int) (ed_cons (ev_pow (cpow10 (by decide) (by decide)) ev_int ev_int) ed_nil))))) ea_nil)) ⟨mostL.map .int, .inl rfl, by decide, by decide, (pick_int s (by decide)).symm, rfl⟩) ?_
  refine sr_asg (d := .int (dTop s)) (s1 := dS2 s) 2 C.nd (ev_sub (ev_call G2 (C.hr.mono (by decide)) (ea_dice 0 (ea_cons (ev_add (ev_mulL (by decide) ev_int (ev_var 1)) ev_int) ea_nil)) ⟨2 * dMost s + 1, rfl, by omega, Bd.mono (n := 200) (by unfold Bd; omega) (by decide), rfl, rfl⟩) (ev_var 1)) ?_
  refine sr_asg (d := .int (dWay s)) (s1 := dS3 s) 3 C.nd (ev_call G2 (C.hr.mono (by decide)) (ea_dice 0 (ea_cons ev_int ea_nil)) ⟨6, rfl, by decide, Bd.mono (n := 200) (by unfold Bd; decide) (by decide), rfl, rfl⟩) ?_
  unfold drawnV drawnS
  by_cases w1 : dWay s < 2
  · rw [if_pos w1, if_pos w1]
    exact sr_ifT (ET.is (et_lt (ev_var 3) ev_int) (decide_eq_true w1)) (sr_ret (ev_var 2))
  · rw [if_neg w1, if_neg w1]
    refine sr_ifF (ET.is (et_lt (ev_var 3) ev_int) (decide_eq_false w1)) ?_
    by_cases w2 : dWay s = 2
    · rw [if_pos w2, if_pos w2]
      refine sr_ifT (ET.is (et_eqI C.hu (ev_var 3) ev_int) (decide_eq_true w2)) (sr_ret ?_)
      have bt : Bd 200 (dTop s) := by unfold Bd; omega
      have b3 : Bd 200 ((10 : Int) ^ (30 : Int).toNat) := by unfold Bd; decide
      have h5 : rollV (dS3 s) (10 ^ (50 : Int).toNat) < 10 ^ 50 := h2.2
      exact ev_call G3 C.hr (ea_cons (ev_add (ev_mul (bt.cmul b3) (ev_var 2) (ev_pow (cpow10 (by decide) (by decide)) ev_int ev_int)) ev_int) (ea_cons (ev_add ev_int (ev_call G2 (C.hr.mono (by decide)) (ea_dice 0 (ea_cons (ev_pow (cpow10 (by decide) (by decide)) ev_int ev_int) ea_nil)) ⟨_, rfl, by decide, Bd.mono (n := 200) (by unfold Bd; decide) (by decide), rfl, rfl⟩)) ea_nil))
        ⟨_, _, rfl, by omega, Bd.mono (n := 200) (by unfold Bd; omega) (by decide), rfl, rfl⟩
    · rw [if_neg w2, if_neg w2]
      refine sr_ifF (ET.is (et_eqI C.hu (ev_var 3) ev_int) (decide_eq_false w2)) (sr_ret ?_)
      exact ev_call G3 C.hr (ea_cons (ev_var 2) (ea_cons (ev_add ev_int (ev_call G2 (C.hr.mono (by decide)) (ea_dice 0 (ea_cons (EV.st (s1 := rollS (dS3 s) 4) (ev_call G1 C.hr (ea_dice 0 (ea_cons (ev_lst (ed_cons ev_int (ed_cons ev_int (ed_cons ev_int (ed_cons ev_int ed_nil))))) ea_nil)) ⟨lowL.map .int, .inl rfl, by decide, by decide, (pick_int (dS3 s) (by decide)).symm, rfl⟩) rfl) ea_nil)) ⟨pickI (dS3 s) lowL, rfl, by omega, Bd.mono (n := 200) (by unfold Bd; omega) (by decide), rfl, rfl⟩)) ea_nil))
        ⟨dTop s, 1 + rollV (rollS (dS3 s) 4) (pickI (dS3 s) lowL), rfl, by omega, Bd.mono (n := 200) (by unfold Bd; omega) (by decide), rfl, rfl⟩
end
end K0


set_option Elab.async false
set_option linter.all false
set_option maxRecDepth 100000
set_option maxHeartbeats 4000000
namespace K0
open PySem PySem.Spec PyProof.Rows L2 DL LamX L2H
variable [TabT]
/-! ### the classes: 0 to 11 those with a message, 12 to 17 those that keep something, 18 the base -/
def nm : Nat → Str
  | 0 => "InvalidTable"
  | 1 => "InvalidPoly"
  | 2 => "InvalidScheme"
  | 3 => "InvalidCounts"
  | 4 => "InvalidWeb"
  | 5 => "InvalidKinds"
  | 6 => "InvalidLot"
  | 7 => "InvalidOrder"
  | 8 => "InvalidParting"
  | 9 => "InvalidMoves"
  | 10 => "InvalidPledge"
  | 11 => "InvalidOperation"
  | 12 => "ParseError"
  | 13 => "InvalidNumber"
  | 14 => "UnknownName"
  | 15 => "NothingToUndo"
  | 16 => "TooMany"
  | 17 => "Refused"
  | _ => "ThirdError"
def el : Nat → String
  | 0 => "ValueError"
  | 1 => "IndexError"
  | 2 => "KeyError"
  | 3 => "RuntimeError"
  | 4 => "OverflowError"
  | _ => "ArithmeticError"
def ownB (d i : Nat) : Bool := d == i
def farB (d i : Nat) : Bool := if i < 6 then d == 12 + i else decide (d ≤ 12) || d == 18
def elB (d i : Nat) : Bool := match d with
  | 13 => i == 1
  | 14 => i == 2
  | 15 => i == 3
  | 16 => i == 4 || i == 5
  | 17 => i == 5
  | _ => i == 0
def b01 (b : Bool) : PyData := .int (if b then 1 else 0)
def ownD (d : Nat) : PyData := .list ((List.range 12).map fun i => b01 (ownB d i))
def farD (d : Nat) : PyData := .list ((List.range 7).map fun i => b01 (farB d i))
def elD (d : Nat) : PyData := .list ((List.range 6).map fun i => b01 (elB d i))
structure Cls (K : PySem.W.Frag) (mg : Str → Option Value) (cl : Nat → Addr) : Prop where
  m : ∀ d, d < 19 → mg (nm d) = some (.ref (cl d))
  ex : ∀ d, d < 19 → ExcC K (cl d)
  o : ∀ d, d < 19 → ∀ i, i < 12 → PySem.W.kitOne K (.ref (cl d)) (.ref (cl i)) = some (ownB d i)
  f : ∀ d, d < 19 → ∀ i, i < 7 → PySem.W.kitOne K (.ref (cl d)) (.ref (cl (12 + i))) = some (farB d i)
  e : ∀ d, d < 19 → ∀ i, i < 6 → PySem.W.kitOne K (.ref (cl d)) (.type (el i)) = some (elB d i)
structure TopE (mg : Str → Option Value) : Prop where
  e0 : mg "ValueError" = none
  e1 : mg "IndexError" = none
  e2 : mg "KeyError" = none
  e3 : mg "RuntimeError" = none
  e4 : mg "OverflowError" = none
  e5 : mg "ArithmeticError" = none
abbrev NK : List Str := ["_law_error", "_law_found", "_law_one"]
def RK (cl : Nat → Addr) (D : Nat → PyData) : RelZ := fun z as s d s' => ∃ a c, as = [.raw (.ref a)] ∧ c < 19 ∧ XAt z a (cl c) ∧ d = D c ∧ s' = s
def EK (cl : Nat → Addr) (D : Nat → PyData) : Addr → PyData → Prop := fun C d => ∃ c, c < 19 ∧ C = cl c ∧ d = D c
/-! [int(x) for x in ..], within a suite too -/
section
variable {X : Cx} {z : Z} {es : List Sl} {s : S} {iter : Expr} {x : Str} {j : Nat} {scope : Scope} {p p1 p2 p3 pos : Pos} {q : Addr × Obj} {bs : List Bool}
abbrev rInt1 : List V → Hp → VK → Prop := fun xs H Q => (∃ i, xs = [.int i] ∧ Q (.int i) H) ∨ ∃ k, xs = [.bl k] ∧ Q (.int (if k then 1 else 0)) H
def b01V : V → V
  | .bl k => .int (if k then 1 else 0)
  | v => v
theorem da_bools {H : Hp} : ∀ {bs : List Bool} {vs : List V}, DaAll z H vs (bs.map .bool) → vs = bs.map V.bl
  | [], _, h => by
    cases h
    rfl
  | b :: bs, _, h => by
    cases h with
    | cons h r =>
      cases h
      rw [da_bools r]
      rfl
theorem da_ints {H : Hp} : ∀ bs : List Bool, DaAll z H ((bs.map V.bl).map b01V) (bs.map b01)
  | [] => .nil
  | b :: bs => .cons (.int _) (da_ints bs)
theorem ev_lcHB (hc : X.calm = false) (hot : Hot1 X.A q) (hq : q ∈ X.pn) (hN : X.N.Nodup) (hit : EV X z iter es s (.list (bs.map .bool)) s) (hl : bs.length ≤ 1000) (ok : BlkOk X.N X.env.scope scope [(x, j)])
    (hg : ∀ (s : Shared) (H : Hp) (C : Addr) (cl : List (Str × Addr)) (fp : List Addr), PG (blkH X q s H scope (compEnvC scope cl C X.env) fp) (.Name x p) (gName j))
    (he : ∀ (s : Shared) (H : Hp) (C : Addr) (cl : List (Str × Addr)) (fp : List Addr), PE (blkH X q s H scope (compEnvC scope cl C X.env) fp) (.Call (.Name "int" p1) [.Name x p2] [] p3) (tCB rInt1 (tCons (tVar j) tNil)))
    (hj : j < es.length) (hs : ∀ x, foldedSetIterable iter X.env x = pure x := by intro _; rfl) :
    EV X z (.ListComp (.Call (.Name "int" p1) [.Name x p2] [] p3) [{ target := .Name x p, iter := iter, ifs := [], is_async := 0 }] scope pos) es s (.list (bs.map b01)) s :=
  .mk (pe_lcH (g := b01V) hc hot hq hN wE_ok ok hg he hs) fun σ H en at_ Q k => hit σ H en at_ _ fun v H1 e1 a1 v1 => by
    cases v1 with
    | @lst a xs _ fa ha r =>
      have ex := da_bools r
      subst ex
      refine ⟨a, _, rfl, ha, by rw [List.length_map]; exact hl, fun u hu H' => ?_, fun D nD => ?_⟩
      · obtain ⟨b, _, rfl⟩ := List.mem_map.mp hu
        have hj2 : j < (wipe σ [j]).length := by rw [wipe_length, en.length]; exact hj
        exact ⟨.bl b, List.getElem?_set_self hj2, .inr ⟨b, rfl, rfl, rfl⟩⟩
      · exact k _ _ (e1.trans (.new nD)) (a1.new nD) (.lst (a1.fresh nD) upd_same (da_ints bs))
end
end K0


set_option Elab.async false
set_option linter.all false
set_option maxRecDepth 100000
set_option maxHeartbeats 4000000
namespace K0
open PySem PySem.Spec PyProof.Rows L2 DL LamX L2H
variable [TabT]
section
variable {P : Program} {w : World} {K : PySem.W.Frag} {mg : Str → Option Value} {base : Heap} {f : Addr} {fd : FuncData} {cl : Nat → Addr}
abbrev sOwn : Stmt := top 27
theorem sc_own : FnScope NK ["_law_error"] (defScope sOwn) := ⟨rfl, rfl, rfl, by decide +kernel, rfl, by decide +kernel, by decide +kernel⟩
theorem ok_own (F : Fun K "_law_own_kinds" "_law_own_kinds" sOwn f fd) (T0 : Top mg) (TE : TopE mg) (T : Cls K mg cl) : FnOk P w K mg base CX0 1 f fd ["_law_error"] (spZ (RK cl ownD)) := by
  refine okZ F sc_own (by rintro _ _ _ _ _ ⟨a, c, rfl, _⟩; rfl) fun cdv A outer s0 H0 E C z as s₁ d s h => ?_
  obtain ⟨a, c, rfl, hc, hx, rfl, rfl⟩ := h
  refine sr_asg (d := .list [.bool (ownB c 0), .bool (ownB c 1), .bool (ownB c 2)]) 1 C.nd (ev_lst (ed_cons (ev_isO 0 hx (T.ex c hc) T0.isi (T.m 0 (by decide)) (T.o c hc 0 (by decide))) (ed_cons (ev_isO 0 hx (T.ex c hc) T0.isi (T.m 1 (by decide)) (T.o c hc 1 (by decide))) (ed_cons (ev_isO 0 hx (T.ex c hc) T0.isi (T.m 2 (by decide)) (T.o c hc 2 (by decide))) ed_nil)))) ?_
  refine sr_asg (d := .list [.bool (ownB c 0), .bool (ownB c 1), .bool (ownB c 2), .bool (ownB c 3), .bool (ownB c 4), .bool (ownB c 5)]) 1 C.nd (EV.is (ev_catL (ds := [.bool (ownB c 0), .bool (ownB c 1), .bool (ownB c 2)]) (fs' := [.bool (ownB c 3), .bool (ownB c 4), .bool (ownB c 5)]) (Nat.le_of_ble_eq_true rfl) (ev_var 1) (ev_lst (ed_cons (ev_isO 0 hx (T.ex c hc) T0.isi (T.m 3 (by decide)) (T.o c hc 3 (by decide))) (ed_cons (ev_isO 0 hx (T.ex c hc) T0.isi (T.m 4 (by decide)) (T.o c hc 4 (by decide))) (ed_cons (ev_isO 0 hx (T.ex c hc) T0.isi (T.m 5 (by decide)) (T.o c hc 5 (by decide))) ed_nil))))) rfl) ?_
  refine sr_asg (d := .list [.bool (ownB c 0), .bool (ownB c 1), .bool (ownB c 2), .bool (ownB c 3), .bool (ownB c 4), .bool (ownB c 5), .bool (ownB c 6), .bool (ownB c 7), .bool (ownB c 8)]) 1 C.nd (EV.is (ev_catL (ds := [.bool (ownB c 0), .bool (ownB c 1), .bool (ownB c 2), .bool (ownB c 3), .bool (ownB c 4), .bool (ownB c 5)]) (fs' := [.bool (ownB c 6), .bool (ownB c 7), .bool (ownB c 8)]) (Nat.le_of_ble_eq_true rfl) (ev_var 1) (ev_lst (ed_cons (ev_isO 0 hx (T.ex c hc) T0.isi (T.m 6 (by decide)) (T.o c hc 6 (by decide))) (ed_cons (ev_isO 0 hx (T.ex c hc) T0.isi (T.m 7 (by decide)) (T.o c hc 7 (by decide))) (ed_cons (ev_isO 0 hx (T.ex c hc) T0.isi (T.m 8 (by decide)) (T.o c hc 8 (by decide))) ed_nil))))) rfl) ?_
  refine sr_asg (d := .list [.bool (ownB c 0), .bool (ownB c 1), .bool (ownB c 2), .bool (ownB c 3), .bool (ownB c 4), .bool (ownB c 5), .bool (ownB c 6), .bool (ownB c 7), .bool (ownB c 8), .bool (ownB c 9), .bool (ownB c 10)]) 1 C.nd (EV.is (ev_catL (ds := [.bool (ownB c 0), .bool (ownB c 1), .bool (ownB c 2), .bool (ownB c 3), .bool (ownB c 4), .bool (ownB c 5), .bool (ownB c 6), .bool (ownB c 7), .bool (ownB c 8)]) (fs' := [.bool (ownB c 9), .bool (ownB c 10)]) (Nat.le_of_ble_eq_true rfl) (ev_var 1) (ev_lst (ed_cons (ev_isO 0 hx (T.ex c hc) T0.isi (T.m 9 (by decide)) (T.o c hc 9 (by decide))) (ed_cons (ev_isO 0 hx (T.ex c hc) T0.isi (T.m 10 (by decide)) (T.o c hc 10 (by decide))) ed_nil)))) rfl) ?_
  refine sr_ret (EV.is (d := .list (((List.range 12).map fun i => PyData.bool (ownB c i)).map fun d => match d with | .bool b => b01 b | d => d)) (ev_lcF (ds := (List.range 12).map fun i => PyData.bool (ownB c i)) (j := 2) C.calm C.nd (fun d => match d with | .bool b => b01 b | d => d) (EV.is (ev_catL (ds := [.bool (ownB c 0), .bool (ownB c 1), .bool (ownB c 2), .bool (ownB c 3), .bool (ownB c 4), .bool (ownB c 5), .bool (ownB c 6), .bool (ownB c 7), .bool (ownB c 8), .bool (ownB c 9), .bool (ownB c 10)]) (fs' := [.bool (ownB c 11)]) (Nat.le_of_ble_eq_true rfl) (ev_var 1) (ev_lst (ed_cons (ev_isO 0 hx (T.ex c hc) T0.isi (T.m 11 (by decide)) (T.o c hc 11 (by decide))) ed_nil))) rfl) (by rw [List.length_map, List.length_range]; decide) (blkOk_by (N := NK) (sc := defScope sOwn) (own := [("_law_one", 2)]) (by decide +kernel)) (fun _ _ _ _ _ => pg_name C.nd rfl (Or.inl rfl)) (fun d hd z' s0 H0 C' cl fp => ?_)) (by rw [List.map_map]; rfl))
  obtain ⟨i, _, rfl⟩ := List.mem_map.mp hd
  exact ev_bty call_int1 rb_intB T0.int (ed_cons (ev_var 2) ed_nil)
theorem ok_ownH (F : Fun K "_law_own_kinds" "_law_own_kinds" sOwn f fd) (T0 : Top mg) (TE : TopE mg) (T : Cls K mg cl) : ∀ C d, EK cl ownD C d → FnE P w K mg base 1 f fd ["_law_error"] (spE C d) := by
  rintro _ _ ⟨c, hc, rfl, rfl⟩
  refine fne_of F sc_own (fun q vs H Q h => by rw [h.1]; rfl) fun cdv A outer s0 H0 vs Q q hot told => ?_
  obtain ⟨rfl, z, s, dx, zc, st, at_, fin⟩ := told
  have nd : NK.Nodup := sc_own.nd
  have px : PinAt (hotCx P w K mg base NK "_law_own_kinds" sOwn f cdv A outer s0 H0 q) z q.1 (cl c) := by
    obtain ⟨_, vs, hd, _⟩ := hot
    exact ⟨q.2, dx, List.mem_singleton.mpr rfl, zc, ⟨vs, hd⟩, st⟩
  have go : SR (hotCx P w K mg base NK "_law_own_kinds" sOwn f cdv A outer s0 H0 q) z (defBody sOwn) [.raw (.ref q.1), .un, .un] s (.rt (ownD c) s) := by
    refine sr_asg (d := .list [.bool (ownB c 0), .bool (ownB c 1), .bool (ownB c 2)]) 1 nd (ev_lst (ed_cons (ev_isOP 0 px (T.ex c hc) T0.isi (T.m 0 (by decide)) (T.o c hc 0 (by decide))) (ed_cons (ev_isOP 0 px (T.ex c hc) T0.isi (T.m 1 (by decide)) (T.o c hc 1 (by decide))) (ed_cons (ev_isOP 0 px (T.ex c hc) T0.isi (T.m 2 (by decide)) (T.o c hc 2 (by decide))) ed_nil)))) ?_
    refine sr_asg (d := .list [.bool (ownB c 0), .bool (ownB c 1), .bool (ownB c 2), .bool (ownB c 3), .bool (ownB c 4), .bool (ownB c 5)]) 1 nd (EV.is (ev_catL (ds := [.bool (ownB c 0), .bool (ownB c 1), .bool (ownB c 2)]) (fs' := [.bool (ownB c 3), .bool (ownB c 4), .bool (ownB c 5)]) (Nat.le_of_ble_eq_true rfl) (ev_var 1) (ev_lst (ed_cons (ev_isOP 0 px (T.ex c hc) T0.isi (T.m 3 (by decide)) (T.o c hc 3 (by decide))) (ed_cons (ev_isOP 0 px (T.ex c hc) T0.isi (T.m 4 (by decide)) (T.o c hc 4 (by decide))) (ed_cons (ev_isOP 0 px (T.ex c hc) T0.isi (T.m 5 (by decide)) (T.o c hc 5 (by decide))) ed_nil))))) rfl) ?_
    refine sr_asg (d := .list [.bool (ownB c 0), .bool (ownB c 1), .bool (ownB c 2), .bool (ownB c 3), .bool (ownB c 4), .bool (ownB c 5), .bool (ownB c 6), .bool (ownB c 7), .bool (ownB c 8)]) 1 nd (EV.is (ev_catL (ds := [.bool (ownB c 0), .bool (ownB c 1), .bool (ownB c 2), .bool (ownB c 3), .bool (ownB c 4), .bool (ownB c 5)]) (fs' := [.bool (ownB c 6), .bool (ownB c 7), .bool (ownB c 8)]) (Nat.le_of_ble_eq_true rfl) (ev_var 1) (ev_lst (ed_cons (ev_isOP 0 px (T.ex c hc) T0.isi (T.m 6 (by decide)) (T.o c hc 6 (by decide))) (ed_cons (ev_isOP 0 px (T.ex c hc) T0.isi (T.m 7 (by decide)) (T.o c hc 7 (by decide))) (ed_cons (ev_isOP 0 px (T.ex c hc) T0.isi (T.m 8 (by decide)) (T.o c hc 8 (by decide))) ed_nil))))) rfl) ?_
    refine sr_asg (d := .list [.bool (ownB c 0), .bool (ownB c 1), .bool (ownB c 2), .bool (ownB c 3), .bool (ownB c 4), .bool (ownB c 5), .bool (ownB c 6), .bool (ownB c 7), .bool (ownB c 8), .bool (ownB c 9), .bool (ownB c 10)]) 1 nd (EV.is (ev_catL (ds := [.bool (ownB c 0), .bool (ownB c 1), .bool (ownB c 2), .bool (ownB c 3), .bool (ownB c 4), .bool (ownB c 5), .bool (ownB c 6), .bool (ownB c 7), .bool (ownB c 8)]) (fs' := [.bool (ownB c 9), .bool (ownB c 10)]) (Nat.le_of_ble_eq_true rfl) (ev_var 1) (ev_lst (ed_cons (ev_isOP 0 px (T.ex c hc) T0.isi (T.m 9 (by decide)) (T.o c hc 9 (by decide))) (ed_cons (ev_isOP 0 px (T.ex c hc) T0.isi (T.m 10 (by decide)) (T.o c hc 10 (by decide))) ed_nil)))) rfl) ?_
    refine sr_ret (EV.is (d := .list (((List.range 12).map (ownB c)).map b01)) (ev_lcHB (bs := (List.range 12).map (ownB c)) (j := 2) (q := q) rfl hot (List.mem_singleton.mpr rfl) nd (EV.is (ev_catL (ds := [.bool (ownB c 0), .bool (ownB c 1), .bool (ownB c 2), .bool (ownB c 3), .bool (ownB c 4), .bool (ownB c 5), .bool (ownB c 6), .bool (ownB c 7), .bool (ownB c 8), .bool (ownB c 9), .bool (ownB c 10)]) (fs' := [.bool (ownB c 11)]) (Nat.le_of_ble_eq_true rfl) (ev_var 1) (ev_lst (ed_cons (ev_isOP 0 px (T.ex c hc) T0.isi (T.m 11 (by decide)) (T.o c hc 11 (by decide))) ed_nil))) rfl) (by rw [List.length_map, List.length_range]; decide) (blkOk_by (N := NK) (sc := defScope sOwn) (own := [("_law_one", 2)]) (by decide +kernel)) (fun _ _ _ _ _ => pg_name nd rfl (Or.inl rfl)) (fun _ _ _ _ _ => pe_callTy call_int1 rfl T0.int (by decide +kernel) (pa_cons (pe_var rfl (Or.inl rfl)) pa_nil)) (by show 2 < 3; decide)) (by rw [List.map_map]; rfl))
  exact go _ H0 (.cons .raw (.cons .un (.cons .un .nil))) at_ _ fun v H' e a r => fin v H' e a r
abbrev sFar : Stmt := top 28
theorem sc_far : FnScope NK ["_law_error"] (defScope sFar) := ⟨rfl, rfl, rfl, by decide +kernel, rfl, by decide +kernel, by decide +kernel⟩
theorem ok_far (F : Fun K "_law_far_kinds" "_law_far_kinds" sFar f fd) (T0 : Top mg) (TE : TopE mg) (T : Cls K mg cl) : FnOk P w K mg base CX0 1 f fd ["_law_error"] (spZ (RK cl farD)) := by
  refine okZ F sc_far (by rintro _ _ _ _ _ ⟨a, c, rfl, _⟩; rfl) fun cdv A outer s0 H0 E C z as s₁ d s h => ?_
  obtain ⟨a, c, rfl, hc, hx, rfl, rfl⟩ := h
  refine sr_asg (d := .list [.bool (farB c 0), .bool (farB c 1), .bool (farB c 2)]) 1 C.nd (ev_lst (ed_cons (ev_isO 0 hx (T.ex c hc) T0.isi (T.m 12 (by decide)) (T.f c hc 0 (by decide))) (ed_cons (ev_isO 0 hx (T.ex c hc) T0.isi (T.m 13 (by decide)) (T.f c hc 1 (by decide))) (ed_cons (ev_isO 0 hx (T.ex c hc) T0.isi (T.m 14 (by decide)) (T.f c hc 2 (by decide))) ed_nil)))) ?_
  refine sr_asg (d := .list [.bool (farB c 0), .bool (farB c 1), .bool (farB c 2), .bool (farB c 3), .bool (farB c 4), .bool (farB c 5)]) 1 C.nd (EV.is (ev_catL (ds := [.bool (farB c 0), .bool (farB c 1), .bool (farB c 2)]) (fs' := [.bool (farB c 3), .bool (farB c 4), .bool (farB c 5)]) (Nat.le_of_ble_eq_true rfl) (ev_var 1) (ev_lst (ed_cons (ev_isO 0 hx (T.ex c hc) T0.isi (T.m 15 (by decide)) (T.f c hc 3 (by decide))) (ed_cons (ev_isO 0 hx (T.ex c hc) T0.isi (T.m 16 (by decide)) (T.f c hc 4 (by decide))) (ed_cons (ev_isO 0 hx (T.ex c hc) T0.isi (T.m 17 (by decide)) (T.f c hc 5 (by decide))) ed_nil))))) rfl) ?_
  refine sr_ret (EV.is (d := .list (((List.range 7).map fun i => PyData.bool (farB c i)).map fun d => match d with | .bool b => b01 b | d => d)) (ev_lcF (ds := (List.range 7).map fun i => PyData.bool (farB c i)) (j := 2) C.calm C.nd (fun d => match d with | .bool b => b01 b | d => d) (EV.is (ev_catL (ds := [.bool (farB c 0), .bool (farB c 1), .bool (farB c 2), .bool (farB c 3), .bool (farB c 4), .bool (farB c 5)]) (fs' := [.bool (farB c 6)]) (Nat.le_of_ble_eq_true rfl) (ev_var 1) (ev_lst (ed_cons (ev_isO 0 hx (T.ex c hc) T0.isi (T.m 18 (by decide)) (T.f c hc 6 (by decide))) ed_nil))) rfl) (by rw [List.length_map, List.length_range]; decide) (blkOk_by (N := NK) (sc := defScope sFar) (own := [("_law_one", 2)]) (by decide +kernel)) (fun _ _ _ _ _ => pg_name C.nd rfl (Or.inl rfl)) (fun d hd z' s0 H0 C' cl fp => ?_)) (by rw [List.map_map]; rfl))
  obtain ⟨i, _, rfl⟩ := List.mem_map.mp hd
  exact ev_bty call_int1 rb_intB T0.int (ed_cons (ev_var 2) ed_nil)
theorem ok_farH (F : Fun K "_law_far_kinds" "_law_far_kinds" sFar f fd) (T0 : Top mg) (TE : TopE mg) (T : Cls K mg cl) : ∀ C d, EK cl farD C d → FnE P w K mg base 1 f fd ["_law_error"] (spE C d) := by
  rintro _ _ ⟨c, hc, rfl, rfl⟩
  refine fne_of F sc_far (fun q vs H Q h => by rw [h.1]; rfl) fun cdv A outer s0 H0 vs Q q hot told => ?_
  obtain ⟨rfl, z, s, dx, zc, st, at_, fin⟩ := told
  have nd : NK.Nodup := sc_far.nd
  have px : PinAt (hotCx P w K mg base NK "_law_far_kinds" sFar f cdv A outer s0 H0 q) z q.1 (cl c) := by
    obtain ⟨_, vs, hd, _⟩ := hot
    exact ⟨q.2, dx, List.mem_singleton.mpr rfl, zc, ⟨vs, hd⟩, st⟩
  have go : SR (hotCx P w K mg base NK "_law_far_kinds" sFar f cdv A outer s0 H0 q) z (defBody sFar) [.raw (.ref q.1), .un, .un] s (.rt (farD c) s) := by
    refine sr_asg (d := .list [.bool (farB c 0), .bool (farB c 1), .bool (farB c 2)]) 1 nd (ev_lst (ed_cons (ev_isOP 0 px (T.ex c hc) T0.isi (T.m 12 (by decide)) (T.f c hc 0 (by decide))) (ed_cons (ev_isOP 0 px (T.ex c hc) T0.isi (T.m 13 (by decide)) (T.f c hc 1 (by decide))) (ed_cons (ev_isOP 0 px (T.ex c hc) T0.isi (T.m 14 (by decide)) (T.f c hc 2 (by decide))) ed_nil)))) ?_
    refine sr_asg (d := .list [.bool (farB c 0), .bool (farB c 1), .bool (farB c 2), .bool (farB c 3), .bool (farB c 4), .bool (farB c 5)]) 1 nd (EV.is (ev_catL (ds := [.bool (farB c 0), .bool (farB c 1), .bool (farB c 2)]) (fs' := [.bool (farB c 3), .bool (farB c 4), .bool (farB c 5)]) (Nat.le_of_ble_eq_true rfl) (ev_var 1) (ev_lst (ed_cons (ev_isOP 0 px (T.ex c hc) T0.isi (T.m 15 (by decide)) (T.f c hc 3 (by decide))) (ed_cons (ev_isOP 0 px (T.ex c hc) T0.isi (T.m 16 (by decide)) (T.f c hc 4 (by decide))) (ed_cons (ev_isOP 0 px (T.ex c hc) T0.isi (T.m 17 (by decide)) (T.f c hc 5 (by decide))) ed_nil))))) rfl) ?_
    refine sr_ret (EV.is (d := .list (((List.range 7).map (farB c)).map b01)) (ev_lcHB (bs := (List.range 7).map (farB c)) (j := 2) (q := q) rfl hot (List.mem_singleton.mpr rfl) nd (EV.is (ev_catL (ds := [.bool (farB c 0), .bool (farB c 1), .bool (farB c 2), .bool (farB c 3), .bool (farB c 4), .bool (farB c 5)]) (fs' := [.bool (farB c 6)]) (Nat.le_of_ble_eq_true rfl) (ev_var 1) (ev_lst (ed_cons (ev_isOP 0 px (T.ex c hc) T0.isi (T.m 18 (by decide)) (T.f c hc 6 (by decide))) ed_nil))) rfl) (by rw [List.length_map, List.length_range]; decide) (blkOk_by (N := NK) (sc := defScope sFar) (own := [("_law_one", 2)]) (by decide +kernel)) (fun _ _ _ _ _ => pg_name nd rfl (Or.inl rfl)) (fun _ _ _ _ _ => pe_callTy call_int1 rfl T0.int (by decide +kernel) (pa_cons (pe_var rfl (Or.inl rfl)) pa_nil)) (by show 2 < 3; decide)) (by rw [List.map_map]; rfl))
  exact go _ H0 (.cons .raw (.cons .un (.cons .un .nil))) at_ _ fun v H' e a r => fin v H' e a r
abbrev sEld : Stmt := top 29
theorem sc_eld : FnScope NK ["_law_error"] (defScope sEld) := ⟨rfl, rfl, rfl, by decide +kernel, rfl, by decide +kernel, by decide +kernel⟩
theorem ok_eld (F : Fun K "_law_elder_kinds" "_law_elder_kinds" sEld f fd) (T0 : Top mg) (TE : TopE mg) (T : Cls K mg cl) : FnOk P w K mg base CX0 1 f fd ["_law_error"] (spZ (RK cl elD)) := by
  refine okZ F sc_eld (by rintro _ _ _ _ _ ⟨a, c, rfl, _⟩; rfl) fun cdv A outer s0 H0 E C z as s₁ d s h => ?_
  obtain ⟨a, c, rfl, hc, hx, rfl, rfl⟩ := h
  refine sr_asg (d := .list [.bool (elB c 0), .bool (elB c 1), .bool (elB c 2)]) 1 C.nd (ev_lst (ed_cons (ev_isB 0 hx (T.ex c hc) T0.isi TE.e0 (T.e c hc 0 (by decide))) (ed_cons (ev_isB 0 hx (T.ex c hc) T0.isi TE.e1 (T.e c hc 1 (by decide))) (ed_cons (ev_isB 0 hx (T.ex c hc) T0.isi TE.e2 (T.e c hc 2 (by decide))) ed_nil)))) ?_
  refine sr_asg (d := .list [.bool (elB c 0), .bool (elB c 1), .bool (elB c 2), .bool (elB c 3), .bool (elB c 4)]) 1 C.nd (EV.is (ev_catL (ds := [.bool (elB c 0), .bool (elB c 1), .bool (elB c 2)]) (fs' := [.bool (elB c 3), .bool (elB c 4)]) (Nat.le_of_ble_eq_true rfl) (ev_var 1) (ev_lst (ed_cons (ev_isB 0 hx (T.ex c hc) T0.isi TE.e3 (T.e c hc 3 (by decide))) (ed_cons (ev_isB 0 hx (T.ex c hc) T0.isi TE.e4 (T.e c hc 4 (by decide))) ed_nil)))) rfl) ?_
  refine sr_ret (EV.is (d := .list (((List.range 6).map fun i => PyData.bool (elB c i)).map fun d => match d with | .bool b => b01 b | d => d)) (ev_lcF (ds := (List.range 6).map fun i => PyData.bool (elB c i)) (j := 2) C.calm C.nd (fun d => match d with | .bool b => b01 b | d => d) (EV.is (ev_catL (ds := [.bool (elB c 0), .bool (elB c 1), .bool (elB c 2), .bool (elB c 3), .bool (elB c 4)]) (fs' := [.bool (elB c 5)]) (Nat.le_of_ble_eq_true rfl) (ev_var 1) (ev_lst (ed_cons (ev_isB 0 hx (T.ex c hc) T0.isi TE.e5 (T.e c hc 5 (by decide))) ed_nil))) rfl) (by rw [List.length_map, List.length_range]; decide) (blkOk_by (N := NK) (sc := defScope sEld) (own := [("_law_one", 2)]) (by decide +kernel)) (fun _ _ _ _ _ => pg_name C.nd rfl (Or.inl rfl)) (fun d hd z' s0 H0 C' cl fp => ?_)) (by rw [List.map_map]; rfl))
  obtain ⟨i, _, rfl⟩ := List.mem_map.mp hd
  exact ev_bty call_int1 rb_intB T0.int (ed_cons (ev_var 2) ed_nil)
theorem ok_eldH (F : Fun K "_law_elder_kinds" "_law_elder_kinds" sEld f fd) (T0 : Top mg) (TE : TopE mg) (T : Cls K mg cl) : ∀ C d, EK cl elD C d → FnE P w K mg base 1 f fd ["_law_error"] (spE C d) := by
  rintro _ _ ⟨c, hc, rfl, rfl⟩
  refine fne_of F sc_eld (fun q vs H Q h => by rw [h.1]; rfl) fun cdv A outer s0 H0 vs Q q hot told => ?_
  obtain ⟨rfl, z, s, dx, zc, st, at_, fin⟩ := told
  have nd : NK.Nodup := sc_eld.nd
  have px : PinAt (hotCx P w K mg base NK "_law_elder_kinds" sEld f cdv A outer s0 H0 q) z q.1 (cl c) := by
    obtain ⟨_, vs, hd, _⟩ := hot
    exact ⟨q.2, dx, List.mem_singleton.mpr rfl, zc, ⟨vs, hd⟩, st⟩
  have go : SR (hotCx P w K mg base NK "_law_elder_kinds" sEld f cdv A outer s0 H0 q) z (defBody sEld) [.raw (.ref q.1), .un, .un] s (.rt (elD c) s) := by
    refine sr_asg (d := .list [.bool (elB c 0), .bool (elB c 1), .bool (elB c 2)]) 1 nd (ev_lst (ed_cons (ev_isBP 0 px (T.ex c hc) T0.isi TE.e0 (T.e c hc 0 (by decide))) (ed_cons (ev_isBP 0 px (T.ex c hc) T0.isi TE.e1 (T.e c hc 1 (by decide))) (ed_cons (ev_isBP 0 px (T.ex c hc) T0.isi TE.e2 (T.e c hc 2 (by decide))) ed_nil)))) ?_
    refine sr_asg (d := .list [.bool (elB c 0), .bool (elB c 1), .bool (elB c 2), .bool (elB c 3), .bool (elB c 4)]) 1 nd (EV.is (ev_catL (ds := [.bool (elB c 0), .bool (elB c 1), .bool (elB c 2)]) (fs' := [.bool (elB c 3), .bool (elB c 4)]) (Nat.le_of_ble_eq_true rfl) (ev_var 1) (ev_lst (ed_cons (ev_isBP 0 px (T.ex c hc) T0.isi TE.e3 (T.e c hc 3 (by decide))) (ed_cons (ev_isBP 0 px (T.ex c hc) T0.isi TE.e4 (T.e c hc 4 (by decide))) ed_nil)))) rfl) ?_
    refine sr_ret (EV.is (d := .list (((List.range 6).map (elB c)).map b01)) (ev_lcHB (bs := (List.range 6).map (elB c)) (j := 2) (q := q) rfl hot (List.mem_singleton.mpr rfl) nd (EV.is (ev_catL (ds := [.bool (elB c 0), .bool (elB c 1), .bool (elB c 2), .bool (elB c 3), .bool (elB c 4)]) (fs' := [.bool (elB c 5)]) (Nat.le_of_ble_eq_true rfl) (ev_var 1) (ev_lst (ed_cons (ev_isBP 0 px (T.ex c hc) T0.isi TE.e5 (T.e c hc 5 (by decide))) ed_nil))) rfl) (by rw [List.length_map, List.length_range]; decide) (blkOk_by (N := NK) (sc := defScope sEld) (own := [("_law_one", 2)]) (by decide +kernel)) (fun _ _ _ _ _ => pg_name nd rfl (Or.inl rfl)) (fun _ _ _ _ _ => pe_callTy call_int1 rfl T0.int (by decide +kernel) (pa_cons (pe_var rfl (Or.inl rfl)) pa_nil)) (by show 2 < 3; decide)) (by rw [List.map_map]; rfl))
  exact go _ H0 (.cons .raw (.cons .un (.cons .un .nil))) at_ _ fun v H' e a r => fin v H' e a r
end
end K0


set_option Elab.async false
set_option linter.all false
set_option maxRecDepth 100000
set_option maxHeartbeats 4000000
namespace K0
open PySem PySem.Spec PyProof.Rows L2 DL LamX L2H
variable [TabT]
abbrev bmV : List Value := [.type "ValueError", .type "Exception", .type "BaseException", .type "object"]
/-- what is told of the classes with a message, and of the base -/
structure ClsP (K : PySem.W.Frag) (cl : Nat → Addr) : Prop where
  x : ∀ d, d < 12 → PySem.W.excIn K (cl d) bmV "ValueError.__new__" = true
  x18 : PySem.W.excIn K (cl 18) bmV "ValueError.__new__" = true
  k : ∀ d, d < 12 → PySem.W.keepIn K (.ref (cl d)) = true
  k18 : PySem.W.keepIn K (.ref (cl 18)) = true
abbrev bmIx : List Value := [.type "IndexError", .type "LookupError", .type "Exception", .type "BaseException", .type "object"]
abbrev bmKy : List Value := [.type "KeyError", .type "LookupError", .type "Exception", .type "BaseException", .type "object"]
abbrev bmRt : List Value := [.type "RuntimeError", .type "Exception", .type "BaseException", .type "object"]
abbrev bmOv : List Value := [.type "OverflowError", .type "ArithmeticError", .type "Exception", .type "BaseException", .type "object"]
abbrev bmAr : List Value := [.type "ArithmeticError", .type "Exception", .type "BaseException", .type "object"]
/-- what is told of those that keep something, in any context of the law -/
structure Kp (P : Program) (w : World) (K : PySem.W.Frag) (mg : Str → Option Value) (base : Heap) (cl : Nat → Addr) : Prop where
  k12 : ∀ X : Cx, X.prog = P → X.w = w → X.K = K → X.mg = mg → X.base = base → OxV X "ParseError" (cl 12) "spot" "ValueError.__new__" bmV
  k13 : ∀ X : Cx, X.prog = P → X.w = w → X.K = K → X.mg = mg → X.base = base → OxV X "InvalidNumber" (cl 13) "given" "IndexError.__new__" bmIx
  k14 : ∀ X : Cx, X.prog = P → X.w = w → X.K = K → X.mg = mg → X.base = base → OxV X "UnknownName" (cl 14) "name" "LookupError.__new__" bmKy
  k15 : ∀ X : Cx, X.prog = P → X.w = w → X.K = K → X.mg = mg → X.base = base → OxV X "NothingToUndo" (cl 15) "wanted" "RuntimeError.__new__" bmRt
  k16 : ∀ X : Cx, X.prog = P → X.w = w → X.K = K → X.mg = mg → X.base = base → OxV X "TooMany" (cl 16) "limit" "OverflowError.__new__" bmOv
  k17 : ∀ X : Cx, X.prog = P → X.w = w → X.K = K → X.mg = mg → X.base = base → OxV X "Refused" (cl 17) "reason" "ArithmeticError.__new__" bmAr
section
variable {P : Program} {w : World} {K : PySem.W.Frag} {mg : Str → Option Value} {base : Heap} {f : Addr} {fd : FuncData} {cl : Nat → Addr}
theorem okL {x qual : Str} {st : Stmt} {N : List Str} {k : Nat} {cs : List Addr} (F : Fun K x qual st f fd) (Sc : FnScope N [] (defScope st)) (hb : ∀ cdv A outer s0 H0 E, Ctx (cxOf CX0 P w K mg base N qual (defScope st) f cdv A outer s0 H0 E).nox k N → ∀ z s, LR (cxOf CX0 P w K mg base N qual (defScope st) f cdv A outer s0 H0 E).nox z (defBody st) (List.replicate N.length .un) s cs) :
    FnOk P w K mg base CX0 (k + 1) f fd [] (spL cs) := by
  refine F.ok Sc (fun vs H Q E h => by rw [h.1]; rfl) fun cdv A outer s0 H0 vs Q E hr h => ?_
  obtain ⟨rfl, z, s, at_, q⟩ := h
  have C : Ctx (cxOf CX0 P w K mg base N qual (defScope st) f cdv A outer s0 H0 E).nox k N := ⟨Sc.nd, rfl, PassesOwn.never, hr, hr.units⟩
  exact ⟨_, wB_ok, hb cdv A outer s0 H0 E C z s _ H0 (En.uns N.length) at_ { nx := fun _ H' => Q .non H', rt := Q } q⟩
abbrev sPln : Stmt := top 30
theorem scPln : FnScope ["_law_found"] [] (defScope sPln) := ⟨rfl, rfl, rfl, by decide +kernel, rfl, by decide +kernel, by decide +kernel⟩
abbrev FV := PySem.F.excBase_ValueError
theorem ok_plain (F : Fun K "_law_plain" "_law_plain" sPln f fd) (T : Cls K mg cl) (TP : ClsP K cl) : FnOk P w K mg base CX0 1 f fd [] (spL ((List.range 12).map cl)) := by
  refine okL F scPln fun cdv A outer s0 H0 E C z s => ?_
  show LR _ _ _ _ _ ([cl 0, cl 1, cl 2, cl 3, cl 4] ++ [cl 5, cl 6, cl 7, cl 8, cl 9] ++ [cl 10, cl 11])
  refine lr_asg (cs := [cl 0, cl 1, cl 2, cl 3, cl 4]) 0 C.nd (el_lst (exs_pl FV (TP.x 0 (by decide)) (T.m 0 (by decide)) (TP.k 0 (by decide)) fun _ => exs_pl FV (TP.x 1 (by decide)) (T.m 1 (by decide)) (TP.k 1 (by decide)) fun _ => exs_pl FV (TP.x 2 (by decide)) (T.m 2 (by decide)) (TP.k 2 (by decide)) fun _ => exs_pl FV (TP.x 3 (by decide)) (T.m 3 (by decide)) (TP.k 3 (by decide)) fun _ => exs_pl FV (TP.x 4 (by decide)) (T.m 4 (by decide)) (TP.k 4 (by decide)) fun _ => exs_nil) (by simp)) fun nv u vs m l => ?_
  refine lr_asg (cs := [cl 0, cl 1, cl 2, cl 3, cl 4] ++ [cl 5, cl 6, cl 7, cl 8, cl 9]) 0 C.nd (el_cat (el_var 0 m l) (fun nv2 => el_lst (exs_pl FV (TP.x 5 (by decide)) (T.m 5 (by decide)) (TP.k 5 (by decide)) fun _ => exs_pl FV (TP.x 6 (by decide)) (T.m 6 (by decide)) (TP.k 6 (by decide)) fun _ => exs_pl FV (TP.x 7 (by decide)) (T.m 7 (by decide)) (TP.k 7 (by decide)) fun _ => exs_pl FV (TP.x 8 (by decide)) (T.m 8 (by decide)) (TP.k 8 (by decide)) fun _ => exs_pl FV (TP.x 9 (by decide)) (T.m 9 (by decide)) (TP.k 9 (by decide)) fun _ => exs_nil) (by simp)) (by simp)) fun nv3 u2 vs2 m2 l2 => ?_
  exact lr_ret (el_cat (el_var 0 m2 l2) (fun nv2 => el_lst (exs_pl FV (TP.x 10 (by decide)) (T.m 10 (by decide)) (TP.k 10 (by decide)) fun _ => exs_pl FV (TP.x 11 (by decide)) (T.m 11 (by decide)) (TP.k 11 (by decide)) fun _ => exs_nil) (by simp)) (by simp))
abbrev sKpt : Stmt := top 32
theorem scKpt : FnScope ["_law_value", "_law_found"] ["_law_value"] (defScope sKpt) := ⟨rfl, rfl, rfl, by decide +kernel, rfl, by decide +kernel, by decide +kernel⟩
def rKpt : Rel := fun as s d s' => ∃ v, as = [.val v] ∧ d = .list [v, v, v, v, v, v] ∧ s' = s
/-- fields are read off -/
structure ClsF (K : PySem.W.Frag) (cl : Nat → Addr) : Prop where
  xf : ∀ i, i < 6 → XfC K (cl (12 + i))
  n0 : PySem.W.findIn K (.ref (cl 12)) "spot" = some none
  n1 : PySem.W.findIn K (.ref (cl 13)) "given" = some none
  n2 : PySem.W.findIn K (.ref (cl 14)) "name" = some none
  n3 : PySem.W.findIn K (.ref (cl 15)) "wanted" = some none
  n4 : PySem.W.findIn K (.ref (cl 16)) "limit" = some none
  n5 : PySem.W.findIn K (.ref (cl 17)) "reason" = some none
theorem ok_kept (F : Fun K "_law_kept" "_law_kept" sKpt f fd) (KP : Kp P w K mg base cl) (T : ClsF K cl) : FnOk P w K mg base CX0 3 f fd ["_law_value"] (spD rKpt) := by
  refine okD F scKpt (by rintro _ _ _ _ ⟨v, rfl, _⟩; rfl) fun cdv A outer s0 H0 E C z as s₁ d s h => ?_
  obtain ⟨v, rfl, rfl, rfl⟩ := h
  refine sr_asg (d := .list [v, v, v]) 1 C.nd (ev_lst (ed_cons (ev_oxf (KP.k12 _ rfl rfl rfl rfl rfl) (T.xf 0 (by decide)) T.n0 C.hr (ev_var 0)) (ed_cons (ev_oxf (KP.k13 _ rfl rfl rfl rfl rfl) (T.xf 1 (by decide)) T.n1 C.hr (ev_var 0)) (ed_cons (ev_oxf (KP.k14 _ rfl rfl rfl rfl rfl) (T.xf 2 (by decide)) T.n2 C.hr (ev_var 0)) ed_nil)))) ?_
  exact sr_ret (EV.is (ev_catL (ds := [v, v, v]) (fs' := [v, v, v]) (Nat.le_of_ble_eq_true rfl) (ev_var 1) (ev_lst (ed_cons (ev_oxf (KP.k15 _ rfl rfl rfl rfl rfl) (T.xf 3 (by decide)) T.n3 C.hr (ev_var 0)) (ed_cons (ev_oxf (KP.k16 _ rfl rfl rfl rfl rfl) (T.xf 4 (by decide)) T.n4 C.hr (ev_var 0)) (ed_cons (ev_oxf (KP.k17 _ rfl rfl rfl rfl rfl) (T.xf 5 (by decide)) T.n5 C.hr (ev_var 0)) ed_nil))))) rfl)
end
end K0


set_option Elab.async false
set_option linter.all false
set_option maxRecDepth 100000
set_option maxHeartbeats 8000000
namespace K0
open PySem PySem.Spec PyProof.Rows L2 DL LamX L2H
variable [TabT]
theorem pl_own : ∀ i, i < 19 → (nod (ownD i) = true ∧ SeqAt.shaped (ownD i) = true) ∧ PyData.eqv (ownD i) (ownD i) = true := by decide +kernel
theorem pl_far : ∀ i, i < 19 → (nod (farD i) = true ∧ SeqAt.shaped (farD i) = true) ∧ PyData.eqv (farD i) (farD i) = true := by decide +kernel
theorem pl_el : ∀ i, i < 19 → (nod (elD i) = true ∧ SeqAt.shaped (elD i) = true) ∧ PyData.eqv (elD i) (elD i) = true := by decide +kernel
theorem b01_dec (i j : Nat) : PyData.int (if decide ((i : Int) = (j : Int)) then 1 else 0) = b01 (ownB i j) := by
  unfold b01 ownB
  by_cases h : i = j
  · subst h
    simp
  · rw [decide_eq_false (by omega), show (i == j) = false by simpa using h]
/-- the rows of what the keeping ones are of Python's own classes -/
def elRows : List PyData := (List.range 6).map fun i => elD (12 + i)
theorem far_keep : ∀ i, i < 6 → farD (12 + i) = .list (((List.range 6).map fun j => b01 (ownB i j)) ++ [b01 (ownB i 0)])
  | 0, _ => rfl
  | 1, _ => rfl
  | 2, _ => rfl
  | 3, _ => rfl
  | 4, _ => rfl
  | 5, _ => rfl
  | n + 6, h => absurd h (by omega)
theorem own_keep : ∀ i, i < 6 → ownD (12 + i) = .list (List.replicate 12 (.int 0))
  | 0, _ => rfl
  | 1, _ => rfl
  | 2, _ => rfl
  | 3, _ => rfl
  | 4, _ => rfl
  | 5, _ => rfl
  | n + 6, h => absurd h (by omega)
theorem far_own : ∀ i, i < 12 → farD i = .list [.int 0, .int 0, .int 0, .int 0, .int 0, .int 0, .int 1]
  | 0, _ => rfl
  | 1, _ => rfl
  | 2, _ => rfl
  | 3, _ => rfl
  | 4, _ => rfl
  | 5, _ => rfl
  | 6, _ => rfl
  | 7, _ => rfl
  | 8, _ => rfl
  | 9, _ => rfl
  | 10, _ => rfl
  | 11, _ => rfl
  | n + 12, h => absurd h (by omega)
theorem el_own : ∀ i, i < 12 → elD i = .list [.int 1, .int 0, .int 0, .int 0, .int 0, .int 0]
  | 0, _ => rfl
  | 1, _ => rfl
  | 2, _ => rfl
  | 3, _ => rfl
  | 4, _ => rfl
  | 5, _ => rfl
  | 6, _ => rfl
  | 7, _ => rfl
  | 8, _ => rfl
  | 9, _ => rfl
  | 10, _ => rfl
  | 11, _ => rfl
  | n + 12, h => absurd h (by omega)
structure Gk (P : Program) (w : World) (K : PySem.W.Frag) (mg : Str → Option Value) (base : Heap) (cl : Nat → Addr) : Prop where
  own : DnZ P w K mg base 1 "_law_own_kinds" (RK cl ownD)
  far : DnZ P w K mg base 1 "_law_far_kinds" (RK cl farD)
  eld : DnZ P w K mg base 1 "_law_elder_kinds" (RK cl elD)
section
variable {P : Program} {w : World} {K : PySem.W.Frag} {mg : Str → Option Value} {base : Heap} {f fp : Addr} {fd fdp : FuncData} {cl : Nat → Addr}
abbrev sDrv : Stmt := top 31
abbrev ND : List Str := ["_law_value", "_law_at", "_law_error", "_law_keeping", "_law_elders", "_law_due", "_law_base", "_law_place"]
theorem scDrv : FnScope ND ["_law_value"] (defScope sDrv) := ⟨rfl, rfl, rfl, by decide +kernel, rfl, by decide +kernel, by decide +kernel⟩
def rDrv : Rel := fun as s d s' => ∃ v, as = [.val v] ∧ d = .bool true ∧ s' = s
theorem ok_drv (F : Fun K "_law_derived_right" "_law_derived_right" sDrv f fd) (T0 : Top mg) (T : Cls K mg cl) (TP : ClsP K cl) (KP : Kp P w K mg base cl) (G : Gk P w K mg base cl)
    (GP : FnOk P w K mg base CX0 1 fp fdp [] (spL ((List.range 12).map cl))) (mP : mg "_law_plain" = some (.ref fp)) (kP : PySem.W.keepIn K (.ref fp) = true) (bP : Binds K fdp [] []) : FnOk P w K mg base CX0 3 f fd ["_law_value"] (spD rDrv) := by
  refine okD F scDrv (by rintro _ _ _ _ ⟨v, rfl, _⟩; rfl) fun cdv A outer s0 H0 E C z as s₁ d s h => ?_
  obtain ⟨v, rfl, rfl, rfl⟩ := h
  have r1 : Room 1 (cxOf CX0 P w K mg base ND "_law_derived_right" (defScope sDrv) f cdv A outer s0 H0 E).nox.A := C.hr.mono (by decide)
  -- the first loop
  refine sr_forX 1 2 C.hp C.calm T0.enumerate (el_call0 GP r1 mP kP bP) (fun _ => [.val v, .un, .un, .un, .un, .un, .un, .un]) (Le.refl _) (fun z1 g1 i u Ci hi hx => ?_) (fun z1 g1 => ?_) (pg_tup C.calm (pgs_cons (pg_name C.nd rfl (.inr rfl)) (pgs_cons (pg_name C.nd rfl (.inl rfl)) pgs_nil)))
  · have hlt : i < 12 := by
      have := (List.getElem?_eq_some_iff.mp hi).1
      simpa using this
    have eC : Ci = cl i := by
      rw [List.getElem?_map, List.getElem?_range hlt] at hi
      exact (Option.some.inj hi).symm
    subst eC
    have po := pl_own i (by omega)
    have pf := pl_far i (by omega)
    have pe := pl_el i (by omega)
    refine sr_ifF (ET.is (et_ne C.hu po.1 po.1 (ev_callZ G.own r1 (ea_raw 2 ea_nil) ⟨u, i, rfl, by omega, hx, rfl, rfl⟩) (d2 := ownD i) (s2 := s) ?_) (by rw [po.2]; rfl)) ?_
    · refine ev_lcFR (j := 7) (n := 12) C.calm C.nd T0.range (fun j => b01 (ownB i j)) (fun _ => s) (ed_cons ev_int ed_nil) rfl (by decide) (blkOk_by (N := ND) (sc := defScope sDrv) (own := [("_law_place", 7)]) (by decide +kernel)) (fun _ _ _ _ _ => pg_name C.nd rfl (Or.inl rfl)) (fun j hj z' s0 H0 C' cl fp => ?_)
      exact EV.is (ev_bty call_int1 rb_intB T0.int (ed_cons (ev_eqI C.hu (ev_var 1) (ev_var 7)) ed_nil)) (b01_dec i j)
    · refine sr_ifF (et_w (ew_orF (ET.is (et_ne C.hu pf.1 pf.1 (ev_callZ G.far r1 (ea_raw 2 ea_nil) ⟨u, i, rfl, by omega, hx, rfl, rfl⟩) (d2 := farD i) (s2 := s) ?_) (by rw [pf.2]; rfl)) (ew_or1 (ET.is (et_ne C.hu pe.1 pe.1 (ev_callZ G.eld r1 (ea_raw 2 ea_nil) ⟨u, i, rfl, by omega, hx, rfl, rfl⟩) (d2 := elD i) (s2 := s) ?_) (by rw [pe.2]; rfl))))) (sr_le sr_nil ?_)
      · exact EV.is (ev_lst (ed_cons ev_int (ed_cons ev_int (ed_cons ev_int (ed_cons ev_int (ed_cons ev_int (ed_cons ev_int (ed_cons ev_int ed_nil)))))))) (far_own i hlt).symm
      · exact EV.is (ev_lst (ed_cons ev_int (ed_cons ev_int (ed_cons ev_int (ed_cons ev_int (ed_cons ev_int (ed_cons ev_int ed_nil))))))) (el_own i hlt).symm
      · exact .same (.un (.un (.same (.same (.same (.same (.same .nil)))))))
  -- those that keep something
  · refine sr_keep 3 0 C.nd (exs_ox 0 (KP.k12 _ rfl rfl rfl rfl rfl) (C.hr.mono (by decide)) fun _ => exs_ox 0 (KP.k13 _ rfl rfl rfl rfl rfl) (C.hr.mono (by decide)) fun _ => exs_ox 0 (KP.k14 _ rfl rfl rfl rfl rfl) (C.hr.mono (by decide)) fun _ => exs_ox 0 (KP.k15 _ rfl rfl rfl rfl rfl) (C.hr.mono (by decide)) fun _ => exs_ox 0 (KP.k16 _ rfl rfl rfl rfl rfl) (C.hr.mono (by decide)) fun _ => exs_nil) (KP.k17 _ rfl rfl rfl rfl rfl) (C.hr.mono (by decide)) (by simp) (by decide) (by show 3 < 8; decide) fun nv2 ul vs ml lx => ?_
    refine sr_lstApp (ds := [elD 12, elD 13, elD 14, elD 15, elD 16]) (d2 := elD 17) 4 C.nd (ed_cons (ev_lst (ed_cons ev_int (ed_cons ev_int (ed_cons ev_int (ed_cons ev_int (ed_cons ev_int (ed_cons ev_int ed_nil))))))) (ed_cons (ev_lst (ed_cons ev_int (ed_cons ev_int (ed_cons ev_int (ed_cons ev_int (ed_cons ev_int (ed_cons ev_int ed_nil))))))) (ed_cons (ev_lst (ed_cons ev_int (ed_cons ev_int (ed_cons ev_int (ed_cons ev_int (ed_cons ev_int (ed_cons ev_int ed_nil))))))) (ed_cons (ev_lst (ed_cons ev_int (ed_cons ev_int (ed_cons ev_int (ed_cons ev_int (ed_cons ev_int (ed_cons ev_int ed_nil))))))) (ed_cons (ev_lst (ed_cons ev_int (ed_cons ev_int (ed_cons ev_int (ed_cons ev_int (ed_cons ev_int (ed_cons ev_int ed_nil))))))) ed_nil)))))
      (fun z' pl => ev_lst (ed_cons ev_int (ed_cons ev_int (ed_cons ev_int (ed_cons ev_int (ed_cons ev_int (ed_cons ev_int ed_nil))))))) (by simp) ?_ (by show 4 < 8; decide)
    refine sr_forX (cs := [cl 12, cl 13, cl 14, cl 15, cl 16, cl 17]) 1 2 C.hp C.calm T0.enumerate (el_var 3 ml lx) (fun _ => [.val v, .un, .un, .un, .val (.list elRows), .un, .un, .un]) (.same (.same (.same (.un (.same (.same (.same (.same .nil)))))))) (fun z2 g2 i u Ci hi hx => ?_) (fun z2 g2 => ?_) (pg_tup C.calm (pgs_cons (pg_name C.nd rfl (.inr rfl)) (pgs_cons (pg_name C.nd rfl (.inl rfl)) pgs_nil)))
    · have hlt : i < 6 := (List.getElem?_eq_some_iff.mp hi).1
      have eC : Ci = cl (12 + i) := by
        have e : [cl 12, cl 13, cl 14, cl 15, cl 16, cl 17] = (List.range 6).map fun i => cl (12 + i) := rfl
        rw [e, List.getElem?_map, List.getElem?_range hlt] at hi
        exact (Option.some.inj hi).symm
      subst eC
      have po := pl_own (12 + i) (by omega)
      have pf := pl_far (12 + i) (by omega)
      have pe := pl_el (12 + i) (by omega)
      refine sr_asg (d := farD (12 + i)) (s1 := s) 5 C.nd (EV.is (ev_catL (ds := (List.range 6).map fun j => b01 (ownB i j)) (fs' := [b01 (ownB i 0)]) (Nat.le_of_ble_eq_true rfl) (s1 := s) ?_ (ev_lst (ed_cons (EV.is (ev_bty call_int1 rb_intB T0.int (ed_cons (ev_eqI C.hu (ev_var 1) ev_int) ed_nil)) (b01_dec i 0)) ed_nil))) (far_keep i hlt).symm) ?_
      · refine ev_lcFR (j := 7) (n := 6) C.calm C.nd T0.range (fun j => b01 (ownB i j)) (fun _ => s) (ed_cons ev_int ed_nil) rfl (by decide) (blkOk_by (N := ND) (sc := defScope sDrv) (own := [("_law_place", 7)]) (by decide +kernel)) (fun _ _ _ _ _ => pg_name C.nd rfl (Or.inl rfl)) (fun j hj z' s0 H0 C' cl fp => ?_)
        exact EV.is (ev_bty call_int1 rb_intB T0.int (ed_cons (ev_eqI C.hu (ev_var 1) (ev_var 7)) ed_nil)) (b01_dec i j)
      · refine sr_ifF (et_w (ew_orF (ET.is (et_ne C.hu po.1 po.1 (ev_callZ G.own r1 (ea_raw 2 ea_nil) ⟨u, 12 + i, rfl, by omega, hx, rfl, rfl⟩) (d2 := ownD (12 + i)) (s2 := s) ?_) (by rw [po.2]; rfl)) (ew_orF (ET.is (et_ne C.hu pf.1 pf.1 (ev_callZ G.far r1 (ea_raw 2 ea_nil) ⟨u, 12 + i, rfl, by omega, hx, rfl, rfl⟩) (ev_var 5)) (by rw [pf.2]; rfl)) (ew_or1 (ET.is (et_ne C.hu pe.1 pe.1 (ev_callZ G.eld r1 (ea_raw 2 ea_nil) ⟨u, 12 + i, rfl, by omega, hx, rfl, rfl⟩) (d2 := elD (12 + i)) (s2 := s) ?_) (by rw [pe.2]; rfl)))))) (sr_le sr_nil ?_)
        · exact EV.is (ev_rep (ds := [.int 0]) (n := 12) (by decide) (by decide) (by decide) (ev_lst (ed_cons ev_int ed_nil)) ev_int) (by rw [own_keep i hlt]; rfl)
        · refine ev_ixL (i := (i : Int)) (ev_var 4) (ev_var 1) (atI_nat (j := i) ?_)
          unfold elRows
          rw [List.getElem?_map, List.getElem?_range hlt]
          rfl
        · exact .same (.un (.un (.same (.same (.un (.same (.same .nil)))))))
    -- the base
    · have pf := pl_far 18 (by omega)
      have po := pl_own 18 (by omega)
      have pe := pl_el 18 (by omega)
      refine sr_asgP 6 C.nd FV TP.x18 (T.m 18 (by decide)) TP.k18 fun nv3 u hx => ?_
      refine sr_ifF (et_w (ew_orF (ET.is (et_ne C.hu pf.1 pf.1 (ev_callZ G.far r1 (ea_raw 6 ea_nil) ⟨u, 18, rfl, by omega, hx, rfl, rfl⟩) (d2 := farD 18) (s2 := s) ?_) (by rw [pf.2]; rfl)) (ew_or1 (ET.is (et_ne C.hu po.1 po.1 (ev_callZ G.own r1 (ea_raw 6 ea_nil) ⟨u, 18, rfl, by omega, hx, rfl, rfl⟩) (d2 := ownD 18) (s2 := s) ?_) (by rw [po.2]; rfl))))) ?_
      · exact EV.is (ev_lst (ed_cons ev_int (ed_cons ev_int (ed_cons ev_int (ed_cons ev_int (ed_cons ev_int (ed_cons ev_int (ed_cons ev_int ed_nil)))))))) rfl
      · exact EV.is (ev_rep (ds := [.int 0]) (n := 12) (by decide) (by decide) (by decide) (ev_lst (ed_cons ev_int ed_nil)) ev_int) rfl
      · refine sr_ret (EV.is (ev_eq C.hu pe.1 pe.1 (ev_callZ G.eld r1 (ea_raw 6 ea_nil) ⟨u, 18, rfl, by omega, hx, rfl, rfl⟩) (ev_ixL (i := 0) (ev_var 4) ev_int (atI_nat (j := 0) rfl))) (by rw [pe.2]))
end
end K0


set_option Elab.async false
set_option linter.all false
set_option maxRecDepth 100000
set_option maxHeartbeats 8000000
namespace K0
open PySem PySem.Spec PyProof.Rows L2 DL LamX L2H
variable [TabT]
/-- which clause takes which error -/
structure ClsM (K : PySem.W.Frag) (cl : Nat → Addr) : Prop where
  a : PySem.W.exmOne K (.ref (cl 4)) (.ref (cl 18)) = some true
  b : PySem.W.exmOne K (.ref (cl 12)) (.ref (cl 18)) = some true
  c0 : PySem.W.exmOne K (.ref (cl 16)) (.ref (cl 18)) = some false
  c1 : PySem.W.exmOne K (.ref (cl 16)) (.ref (cl 16)) = some true
  d0 : PySem.W.exmOne K (.ref (cl 14)) (.ref (cl 18)) = some false
  d1 : PySem.W.exmOne K (.ref (cl 14)) (.ref (cl 16)) = some false
  d2 : PySem.W.exmOne K (.ref (cl 14)) (.ref (cl 14)) = some true
  s4 : PySem.W.subIn K (.ref (cl 4)) (.type "BaseException") = some true
  t4 : PySem.W.typeIn K (.ref (cl 4)) = some (.type "type")
def metD (v : PyData) : Nat → PyData
  | 0 => .tuple [.str "base", ownD 4]
  | 1 => .tuple [.str "base", ownD 12]
  | 2 => .tuple [.str "many", .str v.shown]
  | _ => .tuple [.str "name", .str v.shown]
section
variable {P : Program} {w : World} {K : PySem.W.Frag} {mg : Str → Option Value} {base : Heap} {f : Addr} {fd : FuncData} {cl : Nat → Addr}
abbrev sMet : Stmt := top 33
abbrev NM : List Str := ["_law_value", "_law_way", "e"]
theorem scMet : FnScope NM ["_law_value", "_law_way"] (defScope sMet) := ⟨rfl, rfl, rfl, by decide +kernel, rfl, by decide +kernel, by decide +kernel⟩
def rMet : Rel := fun as s d s' => ∃ (v : PyData) (n : Nat), as = [.val v, .val (.int (n : Int))] ∧ n < 4 ∧ ShwX v ∧ d = metD v n ∧ s' = s
theorem ok_met (F : Fun K "_law_met" "_law_met" sMet f fd) (T0 : Top mg) (T : Cls K mg cl) (TP : ClsP K cl) (TF : ClsF K cl) (TM : ClsM K cl) (KP : Kp P w K mg base cl) (GE : DnE P w K mg base 1 "_law_own_kinds" (EK cl ownD)) : FnG P w K mg base CX0 4 f fd ["_law_value", "_law_way"] (spD rMet) := by
  refine fng_of F scMet (fun vs H Q E h => ?_) (fun cdv A outer s0 H0 vs Q E room h => ?_)
  · obtain ⟨z, as, s, d, s', ⟨v, n, rfl, _⟩, en, _⟩ := h
    have := en.length
    rw [List.length_map] at this
    exact this
  · obtain ⟨z, as, s, d, s', ⟨v, n, rfl, hn, sv, rfl, rfl⟩, en, at_, q⟩ := h
    have e1 : vs.length = 2 := by
      have := en.length
      rwa [List.length_map] at this
    have C : CtxG (cxOf CX0 P w K mg base NM "_law_met" (defScope sMet) f cdv A outer s0 H0 E).nox 3 NM := ⟨⟨scMet.nd, rfl, PassesOwn.never, room.r, room.r.units⟩, room.g⟩
    have hu66 : (cxOf CX0 P w K mg base NM "_law_met" (defScope sMet) f cdv A outer s0 H0 E).nox.A.units + 66 < cLine := by
      have := room.r.un
      show (A.deeper _).units + 66 < cLine
      omega
    have go : SR (cxOf CX0 P w K mg base NM "_law_met" (defScope sMet) f cdv A outer s0 H0 E).nox z (defBody sMet) [.val v, .val (.int (n : Int)), .un] s' (.rt (metD v n) s') := by
      match n, hn with
      | 0, _ =>
        refine sr_tryN (x := .pl (cl 4)) (s1 := s') (cb := [(.ref (cl 18), some 2, _), (.ref (cl 16), some 2, _), (.ref (cl 14), some 2, _)]) C.nd rfl rfl (fun W ps xe tk hp => sr_ifX (ET.is (et_eqI C.hu (ev_var 1) ev_int) rfl) (sr_raiseN C.calm tk (emn_pl FV (TP.x 4 (by decide)) (T.m 4 (by decide)) (TP.k 4 (by decide)) (raises_own TM.s4 TM.t4)))) (.named ⟨rfl, by decide, .inl (T.m 18 (by decide))⟩ rfl rfl (fun e oe ty dx ps hz hd => tsN_ok e oe ty dx ps hz hd) (.named ⟨rfl, by decide, .inl (T.m 16 (by decide))⟩ rfl rfl (fun e oe ty dx ps hz hd => tsN_ok e oe ty dx ps hz hd) (.named ⟨rfl, by decide, .inl (T.m 14 (by decide))⟩ rfl rfl (fun e oe ty dx ps hz hd => tsN_ok e oe ty dx ps hz hd) .nil))) ?_
        exact .inr ⟨TM.a, fun a oe dx pn zn hd => sr_ret (ev_tup (ed_cons ev_str (ed_cons (ev_callE (xd := .pl (cl 4)) 2 GE zn hd (C.hr.mono (by decide)) ⟨4, by decide, rfl, rfl⟩) ed_nil)))⟩
      | 1, _ =>
        refine sr_tryN (x := .wf (cl 12) "spot" v) (s1 := s') (cb := [(.ref (cl 18), some 2, _), (.ref (cl 16), some 2, _), (.ref (cl 14), some 2, _)]) C.nd rfl rfl (fun W ps xe tk hp => sr_ifF (ET.is (et_eqI C.hu (ev_var 1) ev_int) rfl) (sr_ifX (ET.is (et_eqI C.hu (ev_var 1) ev_int) rfl) (sr_raiseN C.calm tk (emn_ox (KP.k12 _ rfl rfl rfl rfl rfl) (C.hr.mono (by decide)) (ev_var 0))))) (.named ⟨rfl, by decide, .inl (T.m 18 (by decide))⟩ rfl rfl (fun e oe ty dx ps hz hd => tsN_ok e oe ty dx ps hz hd) (.named ⟨rfl, by decide, .inl (T.m 16 (by decide))⟩ rfl rfl (fun e oe ty dx ps hz hd => tsN_ok e oe ty dx ps hz hd) (.named ⟨rfl, by decide, .inl (T.m 14 (by decide))⟩ rfl rfl (fun e oe ty dx ps hz hd => tsN_ok e oe ty dx ps hz hd) .nil))) ?_
        exact .inr ⟨TM.b, fun a oe dx pn zn hd => sr_ret (ev_tup (ed_cons ev_str (ed_cons (ev_callE (xd := .wf (cl 12) "spot" v) 2 GE zn hd (C.hr.mono (by decide)) ⟨12, by decide, rfl, rfl⟩) ed_nil)))⟩
      | 2, _ =>
        refine sr_tryN (x := .wf (cl 16) "limit" v) (s1 := s') (cb := [(.ref (cl 18), some 2, _), (.ref (cl 16), some 2, _), (.ref (cl 14), some 2, _)]) C.nd rfl rfl (fun W ps xe tk hp => sr_ifF (ET.is (et_eqI C.hu (ev_var 1) ev_int) rfl) (sr_ifF (ET.is (et_eqI C.hu (ev_var 1) ev_int) rfl) (sr_ifX (ET.is (et_eqI C.hu (ev_var 1) ev_int) rfl) (sr_raiseN C.calm tk (emn_ox (KP.k16 _ rfl rfl rfl rfl rfl) (C.hr.mono (by decide)) (ev_var 0)))))) (.named ⟨rfl, by decide, .inl (T.m 18 (by decide))⟩ rfl rfl (fun e oe ty dx ps hz hd => tsN_ok e oe ty dx ps hz hd) (.named ⟨rfl, by decide, .inl (T.m 16 (by decide))⟩ rfl rfl (fun e oe ty dx ps hz hd => tsN_ok e oe ty dx ps hz hd) (.named ⟨rfl, by decide, .inl (T.m 14 (by decide))⟩ rfl rfl (fun e oe ty dx ps hz hd => tsN_ok e oe ty dx ps hz hd) .nil))) ?_
        exact .inl ⟨TM.c0, .inr ⟨TM.c1, fun a oe dx pn zn hd => sr_ret (ev_tup (ed_cons ev_str (ed_cons (ev_reprX C.gd hu66 T0.repr sv (ev_xf 2 (TF.xf 4 (by decide)) TF.n4 zn.zc hd)) ed_nil)))⟩⟩
      | 3, _ =>
        refine sr_tryN (x := .wf (cl 14) "name" v) (s1 := s') (cb := [(.ref (cl 18), some 2, _), (.ref (cl 16), some 2, _), (.ref (cl 14), some 2, _)]) C.nd rfl rfl (fun W ps xe tk hp => sr_ifF (ET.is (et_eqI C.hu (ev_var 1) ev_int) rfl) (sr_ifF (ET.is (et_eqI C.hu (ev_var 1) ev_int) rfl) (sr_ifF (ET.is (et_eqI C.hu (ev_var 1) ev_int) rfl) (sr_raiseN C.calm tk (emn_ox (KP.k14 _ rfl rfl rfl rfl rfl) (C.hr.mono (by decide)) (ev_var 0)))))) (.named ⟨rfl, by decide, .inl (T.m 18 (by decide))⟩ rfl rfl (fun e oe ty dx ps hz hd => tsN_ok e oe ty dx ps hz hd) (.named ⟨rfl, by decide, .inl (T.m 16 (by decide))⟩ rfl rfl (fun e oe ty dx ps hz hd => tsN_ok e oe ty dx ps hz hd) (.named ⟨rfl, by decide, .inl (T.m 14 (by decide))⟩ rfl rfl (fun e oe ty dx ps hz hd => tsN_ok e oe ty dx ps hz hd) .nil))) ?_
        exact .inl ⟨TM.d0, .inl ⟨TM.d1, .inr ⟨TM.d2, fun a oe dx pn zn hd => sr_ret (ev_tup (ed_cons ev_str (ed_cons (ev_reprX C.gd hu66 T0.repr sv (ev_xf 2 (TF.xf 2 (by decide)) TF.n2 zn.zc hd)) ed_nil)))⟩⟩⟩
    refine ⟨_, wB_ok, go (L2.start NM vs) H0 ?_ at_ { nx := fun _ H' => Q .non H', rt := Q } fun u H' e a r => q u H' e a r⟩
    unfold L2.start
    rw [e1]
    exact en.app (.uns _)
end
end K0


set_option Elab.async false
set_option linter.all false
set_option maxRecDepth 100000
set_option maxHeartbeats 4000000
set_option exponentiation.threshold 9000
namespace K0
open PySem PySem.Spec PyProof.Rows L2 DL LamX L2H
variable [TabT]
/-- data whose repr is told, short -/
structure Gd (d : PyData) : Prop where
  o : okd d = true
  s : d.showable = true
  k : d.depth ≤ 8
  l : d.leavesShort 2000 = true
  w : d.weight ≤ 600
theorem Gd.shw {d : PyData} (g : Gd d) : ShwX d := ⟨g.o, g.s, Nat.le_trans g.k (by decide), by
  have h := PyData.shown_le 2000 (by decide) d g.l
  have w := g.w
  have e : sizeLine = 16777216 := by decide
  omega⟩
theorem Gd.six {d : PyData} (g : Gd d) : ShwX (.list [d, d, d, d, d, d]) := by
  have k := g.k
  have w := g.w
  refine ⟨?_, ?_, ?_, ?_⟩
  · simp only [okd, okdAll, g.o, Bool.and_self]
  · simp only [PyData.showable, PyData.showableAll, g.s, Bool.and_self]
  · simp only [PyData.depth, PyData.depthAll]
    omega
  · have h := PyData.shown_le 2000 (by decide) (.list [d, d, d, d, d, d]) (by simp only [PyData.leavesShort, PyData.leavesShortAll, g.l, Bool.and_self])
    have e : sizeLine = 16777216 := by decide
    have e2 : (PyData.list [d, d, d, d, d, d]).weight = 6 * d.weight + 6 := by
      simp only [PyData.weight, PyData.weightAll]
      omega
    rw [e2] at h
    omega
theorem log_lt {i : Int} (h : Bd 240 i) : i.natAbs.log2 < 240 := PySem.Flt.log2_lt_of (by decide) h
theorem int_short {i : Int} (h : Bd 240 i) : (PyData.int i).showable = true ∧ (PyData.int i).leavesShort 2000 = true ∧ (PyData.int i).weight ≤ 240 := by
  have l := log_lt h
  refine ⟨?_, ?_, ?_⟩
  · simp only [PyData.showable, decide_eq_true_eq]
    omega
  · have e := int_text_length_le (k := 240) (by decide) l
    simp only [PyData.leavesShort, decide_eq_true_eq]
    show (Str.ofString (toString i)).length ≤ 2000
    rw [PySem.ofString_length]
    omega
  · simp only [PyData.weight]
    split <;> omega
theorem gd_int {i : Int} (h : Bd 240 i) : Gd (.int i) := by
  obtain ⟨a, b, c⟩ := int_short h
  exact ⟨rfl, a, (by show (PyData.int 0).depth ≤ 8; decide), b, by omega⟩
theorem gd_pair {t b : Int} (h : Bd 240 t) (k : Bd 240 b) : Gd (.tuple [.int t, .int b]) := by
  obtain ⟨a1, a2, a3⟩ := int_short h
  obtain ⟨b1, b2, b3⟩ := int_short k
  refine ⟨rfl, ?_, ?_, ?_, ?_⟩
  · simp only [PyData.showable, PyData.showableAll, Bool.and_true, Bool.and_eq_true] at a1 b1 ⊢
    exact ⟨a1, b1⟩
  · show (PyData.tuple [.int 0, .int 0]).depth ≤ 8
    decide
  · simp only [PyData.leavesShort, PyData.leavesShortAll, Bool.and_true, Bool.and_eq_true] at a2 b2 ⊢
    exact ⟨a2, b2⟩
  · have e : (PyData.tuple [.int t, .int b]).weight = (PyData.int t).weight + 1 + ((PyData.int b).weight + 1 + 0) := by simp only [PyData.weight, PyData.weightAll]
    omega
theorem fdiv_bd {n : Nat} {t g : Int} (hg : g ∣ t) (h : Bd n t) : Bd n (t.fdiv g) := by
  obtain ⟨c, rfl⟩ := hg
  by_cases h0 : g = 0
  · subst h0
    rw [Int.fdiv_zero]
    rw [Int.zero_mul] at h
    exact h
  · rw [Int.mul_fdiv_cancel_left _ h0]
    unfold Bd at *
    rw [Int.natAbs_mul] at h
    have : 1 ≤ g.natAbs := by omega
    exact Nat.lt_of_le_of_lt (Nat.le_mul_of_pos_left _ this) h
theorem gq_dvd (t b : Int) : gq t b ∣ t ∧ gq t b ∣ b := by
  have h1 : ((Nat.gcd t.natAbs b.natAbs : Nat) : Int) ∣ t := Int.ofNat_dvd_left.mpr (Nat.gcd_dvd_left _ _)
  have h2 : ((Nat.gcd t.natAbs b.natAbs : Nat) : Int) ∣ b := Int.ofNat_dvd_left.mpr (Nat.gcd_dvd_right _ _)
  unfold gq
  split
  · exact ⟨Int.neg_dvd.mpr h1, Int.neg_dvd.mpr h2⟩
  · exact ⟨h1, h2⟩
theorem gd_fr {t b : Int} (h : Bd 240 t) (k : Bd 240 b) : Gd (frD t b) := gd_pair (fdiv_bd (gq_dvd t b).1 h) (fdiv_bd (gq_dvd t b).2 k)
theorem gd_drawn (s : S) : Gd (drawnV s) := by
  have h := top_bd s
  unfold drawnV
  split
  · exact gd_int (by unfold Bd; omega)
  · split
    · have h2 := roll_bd (dS3 s) (n := 10 ^ (50 : Int).toNat) (by decide)
      have e : (10 : Int) ^ (50 : Int).toNat = 10 ^ 50 := rfl
      have e3 : (10 : Int) ^ (30 : Int).toNat = 10 ^ 30 := rfl
      rw [e] at h2 ⊢
      rw [e3]
      exact gd_fr (by unfold Bd; omega) (by unfold Bd; omega)
    · have h3 := low_bd (dS3 s)
      have h2 := roll_bd (rollS (dS3 s) 4) (n := pickI (dS3 s) lowL) (by omega)
      exact gd_fr (by unfold Bd; omega) (by unfold Bd; omega)
def valL (s : S) : List PyData := [.none, .int 0, .bool true, .str "one", .tuple [.int 1, .str "b"], .list [.int 2], .dict [(.str "a", .int 1)], .int (10 ^ (60 : Int).toNat), .int (-5), .tuple [], drawnV s]
theorem gd_val (s : S) : ∀ d ∈ valL s, Gd d := by
  intro d hd
  simp only [valL, List.mem_cons, List.not_mem_nil, or_false] at hd
  rcases hd with rfl | rfl | rfl | rfl | rfl | rfl | rfl | rfl | rfl | rfl | rfl
  · exact ⟨rfl, rfl, by decide, rfl, by decide⟩
  · exact gd_int (by unfold Bd; decide)
  · exact ⟨rfl, rfl, by decide, rfl, by decide⟩
  · exact ⟨rfl, rfl, by decide, by decide +kernel, by decide +kernel⟩
  · exact ⟨rfl, by decide +kernel, by decide +kernel, by decide +kernel, by decide +kernel⟩
  · exact ⟨rfl, by decide +kernel, by decide +kernel, by decide +kernel, by decide +kernel⟩
  · exact ⟨rfl, by decide +kernel, by decide +kernel, by decide +kernel, by decide +kernel⟩
  · exact gd_int (by unfold Bd; decide)
  · exact gd_int (by unfold Bd; decide)
  · exact ⟨rfl, rfl, by decide +kernel, rfl, by decide +kernel⟩
  · exact gd_drawn s
end K0


set_option Elab.async false
set_option linter.all false
set_option maxRecDepth 100000
set_option maxHeartbeats 8000000
set_option exponentiation.threshold 9000
namespace K0
open PySem PySem.Spec PyProof.Rows L2 DL LamX L2H
variable [TabT]
/-! ### data of little depth -/
def Pq (k : Nat) (d : PyData) : Prop := nod d = true ∧ d.canLay0 = true ∧ d.depth ≤ k
theorem pq_int {i : Int} {k : Nat} : Pq k (.int i) := ⟨rfl, rfl, by unfold PyData.depth; omega⟩
theorem pq_all {k : Nat} : ∀ {ds : List PyData}, (∀ d ∈ ds, Pq k d) → nodAll ds = true ∧ PyData.canLayAll0 ds = true ∧ PyData.depthAll ds ≤ k
  | [], _ => ⟨rfl, rfl, by unfold PyData.depthAll; omega⟩
  | d :: ds, h => by
    obtain ⟨a1, a2, a3⟩ := pq_all fun e he => h e (List.mem_cons_of_mem _ he)
    obtain ⟨b1, b2, b3⟩ := h d (List.mem_cons_self ..)
    refine ⟨?_, ?_, ?_⟩
    · simp only [nodAll, a1, b1, Bool.and_self]
    · simp only [PyData.canLayAll0, a2, b2, Bool.and_self]
    · simp only [PyData.depthAll]
      omega
theorem pq_tup {k : Nat} {ds : List PyData} (h : ∀ d ∈ ds, Pq k d) : Pq (k + 1) (.tuple ds) := by
  obtain ⟨a1, a2, a3⟩ := pq_all h
  exact ⟨by simp only [nod, a1], by simp only [PyData.canLay0, a2], by simp only [PyData.depth]; omega⟩
theorem pq_lst {k : Nat} {ds : List PyData} (h : ∀ d ∈ ds, Pq k d) : Pq (k + 1) (.list ds) := by
  obtain ⟨a1, a2, a3⟩ := pq_all h
  exact ⟨by simp only [nod, a1], by simp only [PyData.canLay0, a2], by simp only [PyData.depth]; omega⟩
theorem Pq.pl {k : Nat} {d : PyData} (h : Pq k d) (hk : k ≤ 64 := by decide) : Pl d := ⟨h.1, by
  unfold SeqAt.shaped
  rw [h.2.1, Bool.true_and, decide_eq_true_eq]
  exact Nat.le_trans h.2.2 hk⟩
theorem Pq.refl {k : Nat} {d : PyData} (h : Pq k d) : PyData.eqv d d = true := by
  first
    | exact SeqAt.eqv_refl d h.2.1
    | exact PySem.eqv_refl d h.2.1
    | exact PyData.eqv_refl d h.2.1
theorem Pq.mono {k l : Nat} {d : PyData} (h : Pq k d) (e : k ≤ l) : Pq l d := ⟨h.1, h.2.1, Nat.le_trans h.2.2 e⟩
theorem pq_str {x : Str} {k : Nat} (h : PyData.strOk x = true) : Pq k (.str x) := ⟨rfl, by unfold PyData.canLay0; exact h, by unfold PyData.depth; omega⟩

/-! ### texts that can be compared -/
theorem strOk_app {x y : Str} (hx : PyData.strOk x = true) (hy : PyData.strOk y = true) : PyData.strOk (x ++ y) = true := by
  unfold PyData.strOk at *
  show (x.cps ++ y.cps).all _ = true
  simp only [Array.all_append, hx, hy, Bool.and_self]
theorem strOk_of (s : String) : PyData.strOk (Str.ofString s) = true := by
  rw [Str.ofString_eq_toList]
  unfold PyData.strOk
  rw [Array.all_eq_true']
  intro c hc
  obtain ⟨ch, _, rfl⟩ := List.mem_map.mp (Array.mem_toList_iff.mpr hc)
  exact decide_eq_true (by
    have := ch.valid
    have h2 : ch.toNat = ch.val.toNat := rfl
    rcases this with h | h <;> omega)
theorem strOk_from : ∀ (ts : List Str) (k : Nat) (acc : Str), PyData.strOk acc = true → (∀ t ∈ ts, PyData.strOk t = true) → PyData.strOk (textFrom k acc ts) = true
  | [], _, _, h, _ => h
  | t :: r, k, acc, h, a => by
    show PyData.strOk (textFrom (k + 1) _ r) = true
    refine strOk_from r (k + 1) _ (strOk_app (strOk_app h ?_) (a t (List.mem_cons_self ..))) fun u hu => a u (List.mem_cons_of_mem _ hu)
    split <;> decide +kernel
theorem strOk_list {ts : List Str} (a : ∀ t ∈ ts, PyData.strOk t = true) : PyData.strOk (listText ts) = true := strOk_app (strOk_from ts 0 _ (by decide +kernel) a) (by decide +kernel)
theorem strOk_int (i : Int) : PyData.strOk (PyData.int i).shown = true := strOk_of _
theorem strOk_pair (t b : Int) : PyData.strOk (PyData.tuple [.int t, .int b]).shown = true := by
  show PyData.strOk (tupleText [(PyData.int t).shown, (PyData.int b).shown]) = true
  unfold tupleText
  refine strOk_app (strOk_app (by decide +kernel) ?_) (strOk_of _)
  show PyData.strOk ((PyData.int t).shown ++ ", " ++ (PyData.int b).shown) = true
  exact strOk_app (strOk_app (strOk_int t) (by decide +kernel)) (strOk_int b)
theorem ok_drawnT (s : S) : PyData.strOk (drawnV s).shown = true := by
  unfold drawnV
  split
  · exact strOk_int _
  · split
    · exact strOk_pair _ _
    · exact strOk_pair _ _
theorem ok_val (s : S) : ∀ d ∈ valL s, PyData.strOk d.shown = true := by
  intro d hd
  simp only [valL, List.mem_cons, List.not_mem_nil, or_false] at hd
  rcases hd with rfl | rfl | rfl | rfl | rfl | rfl | rfl | rfl | rfl | rfl | rfl
  · decide +kernel
  · decide +kernel
  · decide +kernel
  · decide +kernel
  · decide +kernel
  · decide +kernel
  · decide +kernel
  · exact strOk_int _
  · exact strOk_int _
  · decide +kernel
  · exact ok_drawnT s
theorem ok_six {d : PyData} (h : PyData.strOk d.shown = true) : PyData.strOk (PyData.list [d, d, d, d, d, d]).shown = true := by
  show PyData.strOk (listText [d.shown, d.shown, d.shown, d.shown, d.shown, d.shown]) = true
  exact strOk_list (by
    intro t ht
    simp only [List.mem_cons, List.not_mem_nil, or_false, or_self] at ht
    rw [ht]
    exact h)
theorem pick_mem (s : S) {ds : List PyData} (h : ds ≠ []) : pickD s ds ∈ ds := by
  obtain ⟨i, _, _, hg⟩ := pick_get s h
  exact List.mem_of_getElem? hg
/-- what the four ways are to tell -/
def toldD (v : PyData) : PyData := .list ((List.range 4).map (metD v))
theorem pq_ints {l : List PyData} (h : ∀ d ∈ l, ∃ i, d = .int i) : Pq 1 (.list l) := pq_lst fun d hd => by
  obtain ⟨i, rfl⟩ := h d hd
  exact pq_int
theorem pq_own (c : Nat) : Pq 1 (ownD c) := pq_ints fun d hd => by
  obtain ⟨i, _, rfl⟩ := List.mem_map.mp hd
  exact ⟨_, rfl⟩
theorem pq_two {k : Nat} {a b : PyData} (ha : Pq k a) (hb : Pq k b) : Pq (k + 1) (.tuple [a, b]) := pq_tup fun d hd => by
  rcases List.mem_cons.mp hd with rfl | hd
  · exact ha
  · rcases List.mem_cons.mp hd with rfl | hd
    · exact hb
    · cases hd
theorem pq_told {v : PyData} (h : PyData.strOk v.shown = true) : Pq 3 (toldD v) := pq_lst fun d hd => by
  obtain ⟨i, hi, rfl⟩ := List.mem_map.mp hd
  have hi := List.mem_range.mp hi
  match i, hi with
  | 0, _ => exact pq_two (pq_str (by decide +kernel)) (pq_own 4)
  | 1, _ => exact pq_two (pq_str (by decide +kernel)) (pq_own 12)
  | 2, _ => exact pq_two (pq_str (by decide +kernel)) (pq_str h)
  | 3, _ => exact pq_two (pq_str (by decide +kernel)) (pq_str h)
structure Gw (P : Program) (w : World) (K : PySem.W.Frag) (mg : Str → Option Value) (base : Heap) : Prop where
  pick : Dn P w K mg base 2 "_law_pick" rPick
  drawn : Dn P w K mg base 3 "_law_nm_drawn" rDrawn
  kept : Dn P w K mg base 3 "_law_kept" rKpt
  drv : Dn P w K mg base 3 "_law_derived_right" rDrv
  met : Dg P w K mg base 4 "_law_met" rMet
section
variable {P : Program} {w : World} {K : PySem.W.Frag} {mg : Str → Option Value} {base : Heap} {f : Addr} {fd : FuncData}
abbrev sLaw : Stmt := top 34
abbrev nLaw : List Str := ["_law_script", "_law_spot", "_law_dice_here", "_law_value", "_law_web", "_law_told", "_law_way"]
theorem scLaw : FnScope nLaw ["_law_script"] (defScope sLaw) := ⟨rfl, rfl, rfl, by decide +kernel, rfl, by decide +kernel, by decide +kernel⟩
def turnS (s : S) : S := rollS (drawnS s) 11
theorem law_turn {cdv : Value} {A : Around} {outer : List Env} {s0 : Shared} {H0 : Hp} {E : XK} (C : CtxG (cxOf CX0 P w K mg base nLaw "law" (defScope sLaw) f cdv A outer s0 H0 E).nox 5 nLaw) (hu66 : (cxOf CX0 P w K mg base nLaw "law" (defScope sLaw) f cdv A outer s0 H0 E).nox.A.units + 66 < cLine) (T : Top mg) (G : Gw P w K mg base) {z : Z} {a : Addr} (s : S) :
    SR (cxOf CX0 P w K mg base nLaw "law" (defScope sLaw) f cdv A outer s0 H0 E).nox z ((loopB (defBody sLaw)[0]?).drop 1) [.raw (.ref a), .un, .dice, .un, .un, .un, .un] s (.nx [.raw (.ref a), .un, .dice, .un, .un, .un, .un] (turnS s)) := by
  have hv : pickD (drawnS s) (valL s) ∈ valL s := pick_mem _ (by simp [valL])
  have gv := gd_val s _ hv
  have ov := ok_val s _ hv
  generalize hvv : pickD (drawnS s) (valL s) = v at hv gv ov
  have six := ok_six ov
  refine sr_asg (d := v) (s1 := turnS s) 3 C.nd (ev_call G.pick (C.hr.mono (by decide)) (ea_dice 2 (ea_cons (ev_lst (ed_cons ev_non (ed_cons ev_int (ed_cons ev_bl (ed_cons ev_str (ed_cons (ev_tup (ed_cons ev_int (ed_cons ev_str ed_nil))) (ed_cons (ev_lst (ed_cons ev_int ed_nil)) (ed_cons ev_dspS (ed_cons (ev_pow (cpow10 (by decide) (by decide)) ev_int ev_int) (ed_cons (ev_neg ev_int) (ed_cons (ev_tup ed_nil) (ed_cons (ev_call G.drawn (C.hr.mono (by decide)) (ea_dice 2 ea_nil) ⟨rfl, rfl, rfl⟩) ed_nil)))))))))))) ea_nil)) ⟨valL s, .inl rfl, by simp [valL], by simp [valL], hvv.symm, rfl⟩) ?_
  refine sr_ifF (s1 := turnS s) (et_w (ew_orF (ET.is (et_ne C.hu (pq_str (k := 0) six).pl (pq_str (k := 0) six).pl (ev_reprX C.gd hu66 T.repr gv.six (ev_call G.kept (C.hr.mono (by decide)) (ea_cons (ev_var 3) ea_nil) ⟨v, rfl, rfl, rfl⟩)) (ev_reprX C.gd hu66 T.repr gv.six (EV.is (ev_rep (ds := [v]) (n := 6) (by decide) (by decide) (by show 1 * 6 ≤ 100000; decide) (ev_lst (ed_cons (ev_var 3) ed_nil)) ev_int) rfl))) (by rw [(pq_str (k := 0) six).refl]; rfl)) (ew_or1 (et_notF (et_val (ev_call G.drv (C.hr.mono (by decide)) (ea_cons (ev_var 3) ea_nil) ⟨v, rfl, rfl, rfl⟩)))))) ?_
  refine sr_asg (d := metD v 0) (s1 := turnS s) 4 C.nd (EV.is (ev_tup (ed_cons ev_str (ed_cons (ev_lst (ed_cons ev_int (ed_cons ev_int (ed_cons ev_int (ed_cons ev_int (ed_cons ev_int (ed_cons ev_int (ed_cons ev_int (ed_cons ev_int (ed_cons ev_int (ed_cons ev_int (ed_cons ev_int (ed_cons ev_int ed_nil))))))))))))) ed_nil))) rfl) ?_
  refine sr_lcR (j := 6) (k := 5) (n := 4) C.calm C.nd T.range (metD v) (fun _ => turnS s) (ed_cons ev_int ed_nil) rfl (by decide) (blkOk_by (N := nLaw) (sc := defScope sLaw) (own := [("_law_way", 6)]) (by decide +kernel)) (fun _ _ _ _ _ => pg_name C.nd rfl (Or.inl rfl)) (fun i hi z' s0 H0 C' cl fp => ?_) ?_
  · exact ev_callG G.met ⟨by exact C.hr.mono (by decide), by exact C.gd⟩ (ea_cons (ev_var 3) (ea_cons (ev_var 6) ea_nil)) ⟨v, i, rfl, hi, gv.shw, rfl, rfl⟩
  · refine sr_ifF (s1 := turnS s) (ET.is (et_ne C.hu (pq_told ov).pl (pq_told ov).pl (ev_var 5) (EV.is (ev_lst (ed_cons (ev_var 4) (ed_cons (ev_tup (ed_cons ev_str (ed_cons (EV.is (ev_rep (ds := [.int 0]) (n := 12) (by decide) (by decide) (by decide) (ev_lst (ed_cons ev_int ed_nil)) ev_int) (show _ = ownD 12 from rfl)) ed_nil))) (ed_cons (ev_tup (ed_cons ev_str (ed_cons (ev_reprX C.gd hu66 T.repr gv.shw (ev_var 3)) ed_nil))) (ed_cons (ev_tup (ed_cons ev_str (ed_cons (ev_reprX C.gd hu66 T.repr gv.shw (ev_var 3)) ed_nil))) ed_nil))))) rfl)) (by rw [(pq_told ov).refl]; rfl)) (sr_le sr_nil ?_)
    exact .same (.same (.same (.un (.un (.un (.same .nil))))))
end
end K0


set_option Elab.async false
set_option linter.all false
set_option maxRecDepth 100000
set_option maxHeartbeats 8000000
namespace K0
open PySem PySem.Spec PyProof.Rows L2 DL LamX L2H
variable [TabT]
def spLaw (K : PySem.W.Frag) : Sp := fun vs H Q _ => ∃ (a : Addr) (ns : List Int), vs = [.ref a] ∧ SqL K H a (ns.map V.int) ∧ ns.length ≤ 63 ∧ Tabs TabT.T H ∧ ∀ H', Q (.bl true) H'
section
variable {P : Program} {w : World} {K : PySem.W.Frag} {mg : Str → Option Value} {base : Heap} {f : Addr} {fd : FuncData}
theorem ok_law (F : Fun K "law" "law" sLaw f fd) (T : Top mg) (G : Gw P w K mg base) {fD : Addr} {fdD : FuncData} (GD : FnOk P w K mg base CX0 1 fD fdD ["_law_script", "_law_spot"] (spDice K)) (mD : mg "_law_dice" = some (.ref fD)) (kD : PySem.W.keepIn K (.ref fD) = true) (bD : Binds K fdD ["_law_script", "_law_spot"] []) : FnG P w K mg base CX0 6 f fd ["_law_script"] (spLaw K) := by
  refine fng_of F scLaw (fun vs H Q E h => ?_) (fun cdv A outer s0 H0 vs Q E hr h => ?_)
  · obtain ⟨a, ns, rfl, _⟩ := h
    rfl
  · obtain ⟨a, ns, rfl, hS, hl, t0, q⟩ := h
    have C : CtxG (cxOf CX0 P w K mg base nLaw "law" (defScope sLaw) f cdv A outer s0 H0 E).nox 5 nLaw := ⟨⟨scLaw.nd, rfl, PassesOwn.never, hr.r, hr.r.units⟩, hr.g⟩
    have hu66 : (cxOf CX0 P w K mg base nLaw "law" (defScope sLaw) f cdv A outer s0 H0 E).nox.A.units + 66 < cLine := by
      have := hr.r.un
      show (A.deeper _).units + 66 < cLine
      omega
    refine ⟨_, pss_cons (ps_for PassesOwn.never rfl (pi_range1 rfl T.range (pa_cons (pe_callB (call_max2 rfl) (by rfl) T.max (by decide +kernel) (pa_cons pe_int (pa_cons (pe_callB (call_min2 rfl) (by rfl) T.min (by decide +kernel) (pa_cons pe_int (pa_cons (pe_callB call_len (by rfl) T.len (by decide +kernel) (pa_cons (L2.pv 0) pa_nil)) pa_nil))) pa_nil))) pa_nil))
      (pg_name (i := 1) scLaw.nd rfl (Or.inl rfl)) (pss_cons (ps_set (i := 2) scLaw.nd rfl (.inl rfl) (pe_call GD (hr.r.mono (by decide)) (by rfl) mD kD bD .nil pass0 (pa_cons (L2.pv 0) (pa_cons (L2.pv 1) pa_nil)))) wB_ok)) (pss_one (ps_ret pe_bl)), ?_⟩
    refine ⟨.ref a, rfl, .ref a, _, rfl, .inl ⟨_, hS, rfl⟩, _, _, rfl, _, _, rfl, _, rfl, ?_, ?_, ?_⟩
    · rw [List.length_map]
      split <;> split <;> omega
    · rw [List.length_map]
      split <;> split <;> omega
    refine for_range (lo := 0) (fun i σ H => ∃ x1 x2 x3 x4 x5 x6, σ = [some (.ref a), x1, x2, x3, x4, x5, x6] ∧ SqL K H a (ns.map V.int) ∧ Tabs TabT.T H) ⟨_, _, _, _, _, _, rfl, hS, t0⟩ (fun i σ H hi w => ?_) (fun σ H w => ?_)
    · obtain ⟨x1, x2, x3, x4, x5, x6, rfl, hA, ht⟩ := w
      refine ⟨.ref a, rfl, .int (0 + (i : Int)), rfl, a, i, ns, by rw [Int.zero_add]; rfl, hA, hl, ht, fun s H1 p e1 t1 hp => ?_⟩
      refine law_turn C hu66 T G (z := ⟨some p, []⟩) (a := a) s _ _ (.cons .raw (.cons .un (.cons (.dice rfl) (.cons .un (.cons .un (.cons .un (.cons .un .nil))))))) ⟨fun b hb => ?_, fun p h => (by cases h), fun p h => (by cases h), tabs_new t1 hp⟩ _ fun σ' H' e2 a2 n2 => ?_
      · cases hb
        exact upd_same
      · have mv : ∀ o, H a = some o → (∀ xs, o ≠ .tbl xs) → H' a = some o := fun o ho nt => by
          have far := far_tab ht ho nt
          have h1 := e1 a o (fz0 far) ho
          have na := ne_of_none h1 hp
          exact e2 a o ⟨⟨fun h => na (Option.some.inj h).symm, far⟩, fun o h => (by cases h)⟩ (by rw [upd_ne na]; exact h1)
        have hA3 : SqL K H' a (ns.map V.int) := by
          rcases hA with (h | ⟨o, h⟩) | h
          · exact .inl (.inl (mv _ h fun xs e => by cases e))
          · exact .inl (.inr ⟨o, mv _ h fun xs e => by cases e⟩)
          · exact .inr h
        cases n2 with
        | cons h1 n2 =>
          cases h1
          cases n2 with
          | cons h1 n2 =>
            cases n2 with
            | cons h1 n2 =>
              cases n2 with
              | cons h1 n2 =>
                cases n2 with
                | cons h1 n2 =>
                  cases n2 with
                  | cons h1 n2 =>
                    cases n2 with
                    | cons h1 n2 =>
                      cases n2
                      exact ⟨_, _, _, _, _, _, rfl, hA3, a2.t⟩
    · exact q H
end
end K0


set_option Elab.async false
set_option linter.all false
set_option maxRecDepth 100000
set_option maxHeartbeats 8000000
namespace PySem.F
open PySem
/-- self.f = v below KeyError -/
theorem store_KeyErr : StoreFacts "KeyError" [.type "KeyError", .type "LookupError", .type "Exception", .type "BaseException", .type "object"] "object.__setattr__" "object" := by
  refine { mro := by kernel_rfl, slot := ?_, entry := entry_object_sa, kind := by decide +kernel, split := by decide +kernel, hasOwner := by decide +kernel, args := fun a b c => ?_, passes := fun self => by kernel_rfl }
  · refine Slot.of (owner := "object") (n := "__setattr__") ?_ (by decide +kernel) (by decide +kernel) (by decide +kernel) ?_ ?_
    · rw [typeLookup_type, builtinLookup_eq_fast]
      kernel_rfl
    · first
        | exact .inl (by decide +kernel)
        | exact .inr (by decide +kernel)
    · rw [isSubtype_type]
      kernel_rfl
  · unfold argsOk
    kernel_rfl
end PySem.F
namespace K0
open PySem PySem.Spec PyProof.Rows L2 DL LamX L2H
/-- a def of the top: what stands under its name -/
def DefAt (K : PySem.W.Frag) (x : Str) (st : Stmt) : Prop := ∃ (f : Addr) (oc : Value) (od an : Option Addr) (sl : Array (Option Value)) (kV dc pm cd ct : Value), PySem.W.nsIn K mainGlobals x = some (some (.ref f)) ∧
  K.lookup f = some ⟨oc, od, .func (PySem.W.fnOf x x (defArgs st) (defBody st) (defScope st) .none kV dc pm an cd ct), sl⟩ ∧ PySem.W.codeIn K cd x = true ∧ PySem.W.keepIn K (.ref f) = true
theorem DefAt.mk' {K : PySem.W.Frag} {x : Str} {st : Stmt} {f : Addr} {oc : Value} {od an : Option Addr} {sl : Array (Option Value)} {kV dc pm cd ct : Value} (a : PySem.W.nsIn K mainGlobals x = some (some (.ref f)))
    (l : K.lookup f = some ⟨oc, od, .func (PySem.W.fnOf x x (defArgs st) (defBody st) (defScope st) .none kV dc pm an cd ct), sl⟩) (c : PySem.W.codeIn K cd x = true) (k : PySem.W.keepIn K (.ref f) = true) : DefAt K x st := ⟨f, oc, od, an, sl, kV, dc, pm, cd, ct, a, l, c, k⟩
theorem DefAt.fn {K : PySem.W.Frag} {h : Heap} {mg : Str → Option Value} {x : Str} {st : Stmt} (X : K.In h) (G : h.Ns mainGlobals mg) (D : DefAt K x st) : ∃ f fd, Fun K x x st f fd ∧ mg x = some (.ref f) := by
  obtain ⟨f, oc, od, an, sl, kV, dc, pm, cd, ct, a, l, c, k⟩ := D
  exact ⟨f, _, fun_mk l c k, PySem.W.mg_of X G a⟩
/-- a class of errors with a field, below own classes that are below a built-in one -/
def ClsAtM (K : PySem.W.Frag) (x qual f : Str) (st : Stmt) (newId : String) (bmB : List Value) : Prop :=
  ∃ (bmA : List Value), ClsAt K x qual f st newId bmA ∧ PySem.W.excTail bmB bmA = true
theorem ClsAtM.all [TabT] {K : PySem.W.Frag} {x qual f : Str} {st : Stmt} {newId : String} {bmB : List Value} {h : Heap} {mg : Str → Option Value} (D : ClsAtM K x qual f st newId bmB) (X : K.In h) (G : h.Ns mainGlobals mg) : ∃ C, ClsOk K mg C x qual f st newId bmB := by
  obtain ⟨bmA, D, ht⟩ := D
  obtain ⟨C, fI, nm, q, N, bs, sn, sub, ab, col, dd, m0, m1, m2, m3, m5, oc, od, an, sl, kV, dc, pm, cd, ct, aC, xL, sa, ga, gg, nb, a1, t1, l1, c1, k1, kC, eC, tC, hC, iC, sC⟩ := D
  exact ⟨C, PySem.W.mg_of X G aC, ⟨⟨nm, q, N, bs, _, sn, sub, ab, col, dd, m0, m1, m2, m3, m5, xL, ht⟩, sa, nb, eC, tC, kC⟩, ⟨ga, gg, eC, hC⟩, cls_own eC iC tC sC, fI, _, a1, t1, fun_mk l1 c1 k1⟩
theorem ClsAtM.mk' {K : PySem.W.Frag} {x qual f : Str} {st : Stmt} {newId : String} {bmB bmA : List Value} (D : ClsAt K x qual f st newId bmA) (ht : PySem.W.excTail bmB bmA = true) : ClsAtM K x qual f st newId bmB := ⟨bmA, D, ht⟩

theorem ref_inj {o : Option Value} {a b : Addr} (h : o = some (.ref a)) (k : o = some (.ref b)) : a = b := by
  rw [h] at k
  cases k
  rfl
/-! ### the classes, told by the written part -/
structure CRow (K : PySem.W.Frag) (x : Str) (C : Addr) (m : List Value) : Prop where
  a : PySem.W.nsIn K mainGlobals x = some (some (.ref C))
  c : ∃ cd, PySem.W.clsIn K C = some cd ∧ cd.mro = m ∧ cd.hasDict = true
  t : PySem.W.typeIn K (.ref C) = some (.type "type")
  g : PySem.W.findIn K (.ref C) "__getattribute__" = some (some (.builtin "BaseException.__getattribute__"))
  gg : PySem.W.findIn K (.ref C) "__getattr__" = some none
  ha : PySem.W.findIn K (.ref C) "__class__" = some (some (.builtin "object.__class__"))
theorem CRow.mk' {K : PySem.W.Frag} {x : Str} {C : Addr} {m : List Value} {cd : ClassData} (a : PySem.W.nsIn K mainGlobals x = some (some (.ref C))) (c : PySem.W.clsIn K C = some cd) (hm : cd.mro = m) (hd : cd.hasDict = true) (t : PySem.W.typeIn K (.ref C) = some (.type "type"))
    (g : PySem.W.findIn K (.ref C) "__getattribute__" = some (some (.builtin "BaseException.__getattribute__"))) (gg : PySem.W.findIn K (.ref C) "__getattr__" = some none) (ha : PySem.W.findIn K (.ref C) "__class__" = some (some (.builtin "object.__class__"))) : CRow K x C m := ⟨a, ⟨cd, c, hm, hd⟩, t, g, gg, ha⟩
inductive Rows (K : PySem.W.Frag) : List Str → List Addr → List (List Value) → Prop
  | nil : Rows K [] [] []
  | cons {x : Str} {C : Addr} {m : List Value} {xs : List Str} {Cs : List Addr} {ms : List (List Value)} : CRow K x C m → Rows K xs Cs ms → Rows K (x :: xs) (C :: Cs) (m :: ms)
theorem Rows.get {K : PySem.W.Frag} : ∀ {xs : List Str} {Cs : List Addr} {ms : List (List Value)}, Rows K xs Cs ms → ∀ (i : Nat) (x : Str), xs[i]? = some x → ∃ C m, Cs[i]? = some C ∧ ms[i]? = some m ∧ CRow K x C m
  | _, _, _, .nil, i, x, h => by simp at h
  | _, _, _, .cons r _, 0, x, h => by
    cases Option.some.inj h
    exact ⟨_, _, rfl, rfl, r⟩
  | _, _, _, .cons _ r, i + 1, x, h => Rows.get r i x h
abbrev nms : List Str := (List.range 19).map nm
/-- all that the classes' places in one another tell -/
def rowOk (Cs : List Addr) (d : Nat) (m : List Value) : Bool :=
  !m.isEmpty && m.contains (.type "BaseException") && m.contains (.type "object") && m.contains (.ref (Cs.getD d 0)) && ((List.range 12).all fun i => m.contains (.ref (Cs.getD i 0)) == ownB d i) && ((List.range 7).all fun i => m.contains (.ref (Cs.getD (12 + i) 0)) == farB d i) && ((List.range 6).all fun i => m.contains (.type (el i)) == elB d i)
def tabOk (Cs : List Addr) (ms : List (List Value)) : Bool := (List.range 19).all fun d => rowOk Cs d (ms.getD d [])
/-- the written part of the classes -/
structure CAll (K : PySem.W.Frag) (Cs : List Addr) : Prop where
  rows : ∃ ms, Rows K nms Cs ms ∧ tabOk Cs ms = true
  hn : PySem.W.specialIn K (.builtin "object.__class__") "__get__" = some (some (.builtin "getset_descriptor.__get__"))
  ht : PySem.W.takesIn K (.builtin "object.__class__") = some true
  km : ∀ i, i < 6 → PySem.W.kitMeta (el i) = true
  x : ∀ d, d < 12 → PySem.W.excIn K (Cs.getD d 0) bmV "ValueError.__new__" = true
  x18 : PySem.W.excIn K (Cs.getD 18 0) bmV "ValueError.__new__" = true
  k : ∀ d, d < 19 → PySem.W.keepIn K (.ref (Cs.getD d 0)) = true
section
variable {K : PySem.W.Frag} {Cs : List Addr} {h : Heap} {mg : Str → Option Value}
theorem nms_get (d : Nat) (hd : d < 19) : nms[d]? = some (nm d) := by
  unfold nms
  rw [List.getElem?_map, List.getElem?_range hd]
  rfl
/-- a class's row and what it says of the table -/
theorem CAll.row (A : CAll K Cs) (d : Nat) (hd : d < 19) : ∃ m, CRow K (nm d) (Cs.getD d 0) m ∧ rowOk Cs d m = true := by
  obtain ⟨ms, R, T⟩ := A.rows
  obtain ⟨C, m, hC, hm, r⟩ := R.get d _ (nms_get d hd)
  have e1 : Cs.getD d 0 = C := by rw [List.getD_eq_getElem?_getD, hC]; rfl
  have e2 : ms.getD d [] = m := by rw [List.getD_eq_getElem?_getD, hm]; rfl
  refine ⟨m, e1 ▸ r, ?_⟩
  have := List.all_eq_true.mp T d (List.mem_range.mpr hd)
  rw [e2] at this
  exact this
theorem sub_row {m : List Value} {C : Addr} {x : Str} (r : CRow K x C m) (ne : m.isEmpty = false) (b : Value) : PySem.W.subIn K (.ref C) b = some (m.contains b) := by
  obtain ⟨cd, c, rfl, _⟩ := r.c
  show PySem.W.mroIn K C b = _
  unfold PySem.W.mroIn
  rw [c, Option.bind_some, ne]
  rfl
theorem cls_row {m : List Value} {C : Addr} {x : Str} (r : CRow K x C m) (t : Value) : PySem.W.kitCls K t (.ref C) = PySem.W.subIn K t (.ref C) := by
  obtain ⟨cd, c, _, _⟩ := r.c
  unfold PySem.W.kitCls
  dsimp only
  rw [c, r.t]
  rfl
/-- isinstance of an error of the class D, asked of the class C -/
theorem kit_row {m m2 : List Value} {D C : Addr} {x y : Str} (r : CRow K x D m) (r2 : CRow K y C m2) (ne : m.isEmpty = false) (self : m.contains (.ref D) = true) : PySem.W.kitOne K (.ref D) (.ref C) = some (m.contains (.ref C)) := by
  unfold PySem.W.kitOne
  by_cases e : D = C
  · subst e
    rw [self, if_pos (by simp)]
  · rw [if_neg (by simpa using e), cls_row r2, sub_row r ne]
theorem kit_blt {m : List Value} {D : Addr} {x : Str} {T : String} (r : CRow K x D m) (ne : m.isEmpty = false) (km : PySem.W.kitMeta T = true) : PySem.W.kitOne K (.ref D) (.type T) = some (m.contains (.type T)) := by
  unfold PySem.W.kitOne
  rw [if_neg (by simp)]
  unfold PySem.W.kitCls
  dsimp only
  rw [km, if_pos rfl, sub_row r ne]
structure RowOk (Cs : List Addr) (d : Nat) (m : List Value) : Prop where
  ne : m.isEmpty = false
  b : m.contains (.type "BaseException") = true
  o : m.contains (.type "object") = true
  s : m.contains (.ref (Cs.getD d 0)) = true
  own : ∀ i, i < 12 → m.contains (.ref (Cs.getD i 0)) = ownB d i
  far : ∀ i, i < 7 → m.contains (.ref (Cs.getD (12 + i) 0)) = farB d i
  el : ∀ i, i < 6 → m.contains (.type (el i)) = elB d i
theorem row_ok {d : Nat} {m : List Value} (h : rowOk Cs d m = true) : RowOk Cs d m := by
  unfold rowOk at h
  simp only [Bool.and_eq_true] at h
  obtain ⟨⟨⟨⟨⟨⟨h1, h2⟩, h3⟩, h4⟩, h5⟩, h6⟩, h7⟩ := h
  refine ⟨by simpa using h1, h2, h3, h4, fun i hi => ?_, fun i hi => ?_, fun i hi => ?_⟩
  · exact beq_iff_eq.mp (List.all_eq_true.mp h5 i (List.mem_range.mpr hi))
  · exact beq_iff_eq.mp (List.all_eq_true.mp h6 i (List.mem_range.mpr hi))
  · exact beq_iff_eq.mp (List.all_eq_true.mp h7 i (List.mem_range.mpr hi))
theorem CAll.exc (A : CAll K Cs) (d : Nat) (hd : d < 19) : ExcC K (Cs.getD d 0) := by
  obtain ⟨m, r, t⟩ := A.row d hd
  have t := row_ok t
  have sub := sub_row r t.ne
  obtain ⟨cd, c, _, hdc⟩ := r.c
  refine ⟨r.g, r.gg, by rw [sub, t.b], ?_, r.ha, A.hn, A.ht, by rw [← t.o]; exact sub _⟩
  unfold PySem.W.hasDictIn
  rw [c]
  exact hdc
theorem CAll.cls (A : CAll K Cs) (X : K.In h) (G : h.Ns mainGlobals mg) : Cls K mg fun d => Cs.getD d 0 := by
  refine ⟨fun d hd => ?_, A.exc, fun d hd i hi => ?_, fun d hd i hi => ?_, fun d hd i hi => ?_⟩
  · obtain ⟨m, r, _⟩ := A.row d hd
    exact PySem.W.mg_of X G r.a
  · obtain ⟨m, r, t⟩ := A.row d hd
    obtain ⟨m2, r2, _⟩ := A.row i (by omega)
    have t := row_ok t
    rw [kit_row r r2 t.ne t.s, t.own i hi]
  · obtain ⟨m, r, t⟩ := A.row d hd
    obtain ⟨m2, r2, _⟩ := A.row (12 + i) (by omega)
    have t := row_ok t
    rw [kit_row r r2 t.ne t.s, t.far i hi]
  · obtain ⟨m, r, t⟩ := A.row d hd
    have t := row_ok t
    rw [kit_blt r t.ne (A.km i hi), t.el i hi]
theorem CAll.exm (A : CAll K Cs) (d i : Nat) (hd : d < 19) (hi : i < 19) {b : Bool} (e : PySem.W.kitOne K (.ref (Cs.getD d 0)) (.ref (Cs.getD i 0)) = some b) : PySem.W.exmOne K (.ref (Cs.getD d 0)) (.ref (Cs.getD i 0)) = some b := by
  obtain ⟨m, r, t⟩ := A.row d hd
  obtain ⟨m2, r2, t2⟩ := A.row i hi
  have t := row_ok t
  have t2 := row_ok t2
  rw [kit_row r r2 t.ne t.s] at e
  unfold PySem.W.exmOne
  rw [sub_row r2 t2.ne, t2.b, if_pos (by rfl), cls_row r2, sub_row r t.ne, e]
theorem CAll.m (A : CAll K Cs) (T : Cls K mg fun d => Cs.getD d 0) : ClsM K fun d => Cs.getD d 0 := by
  obtain ⟨m4, r4, t4⟩ := A.row 4 (by decide)
  have t4 := row_ok t4
  refine ⟨A.exm 4 18 (by decide) (by decide) (T.f 4 (by decide) 6 (by decide)), A.exm 12 18 (by decide) (by decide) (T.f 12 (by decide) 6 (by decide)), A.exm 16 18 (by decide) (by decide) (T.f 16 (by decide) 6 (by decide)), A.exm 16 16 (by decide) (by decide) (T.f 16 (by decide) 4 (by decide)),
    A.exm 14 18 (by decide) (by decide) (T.f 14 (by decide) 6 (by decide)), A.exm 14 16 (by decide) (by decide) (T.f 14 (by decide) 4 (by decide)), A.exm 14 14 (by decide) (by decide) (T.f 14 (by decide) 2 (by decide)), by rw [sub_row r4 t4.ne, t4.b], r4.t⟩
end
/-- the same, class by class -/
theorem CAll.of {K : PySem.W.Frag} {C0 C1 C2 C3 C4 C5 C6 C7 C8 C9 C10 C11 C12 C13 C14 C15 C16 C17 C18 : Addr} {m0 m1 m2 m3 m4 m5 m6 m7 m8 m9 m10 m11 m12 m13 m14 m15 m16 m17 m18 : List Value} (r0 : CRow K "InvalidTable" C0 m0) (r1 : CRow K "InvalidPoly" C1 m1) (r2 : CRow K "InvalidScheme" C2 m2) (r3 : CRow K "InvalidCounts" C3 m3) (r4 : CRow K "InvalidWeb" C4 m4) (r5 : CRow K "InvalidKinds" C5 m5) (r6 : CRow K "InvalidLot" C6 m6) (r7 : CRow K "InvalidOrder" C7 m7) (r8 : CRow K "InvalidParting" C8 m8) (r9 : CRow K "InvalidMoves" C9 m9) (r10 : CRow K "InvalidPledge" C10 m10) (r11 : CRow K "InvalidOperation" C11 m11) (r12 : CRow K "ParseError" C12 m12) (r13 : CRow K "InvalidNumber" C13 m13) (r14 : CRow K "UnknownName" C14 m14) (r15 : CRow K "NothingToUndo" C15 m15) (r16 : CRow K "TooMany" C16 m16) (r17 : CRow K "Refused" C17 m17) (r18 : CRow K "ThirdError" C18 m18) (tb : tabOk [C0, C1, C2, C3, C4, C5, C6, C7, C8, C9, C10, C11, C12, C13, C14, C15, C16, C17, C18] [m0, m1, m2, m3, m4, m5, m6, m7, m8, m9, m10, m11, m12, m13, m14, m15, m16, m17, m18] = true)
    (hn : PySem.W.specialIn K (.builtin "object.__class__") "__get__" = some (some (.builtin "getset_descriptor.__get__"))) (ht : PySem.W.takesIn K (.builtin "object.__class__") = some true) (km : ∀ i, i < 6 → PySem.W.kitMeta (el i) = true)
    (x0 : PySem.W.excIn K C0 bmV "ValueError.__new__" = true) (x1 : PySem.W.excIn K C1 bmV "ValueError.__new__" = true) (x2 : PySem.W.excIn K C2 bmV "ValueError.__new__" = true) (x3 : PySem.W.excIn K C3 bmV "ValueError.__new__" = true) (x4 : PySem.W.excIn K C4 bmV "ValueError.__new__" = true) (x5 : PySem.W.excIn K C5 bmV "ValueError.__new__" = true) (x6 : PySem.W.excIn K C6 bmV "ValueError.__new__" = true) (x7 : PySem.W.excIn K C7 bmV "ValueError.__new__" = true) (x8 : PySem.W.excIn K C8 bmV "ValueError.__new__" = true) (x9 : PySem.W.excIn K C9 bmV "ValueError.__new__" = true) (x10 : PySem.W.excIn K C10 bmV "ValueError.__new__" = true) (x11 : PySem.W.excIn K C11 bmV "ValueError.__new__" = true) (x18 : PySem.W.excIn K C18 bmV "ValueError.__new__" = true)
    (k0 : PySem.W.keepIn K (.ref C0) = true) (k1 : PySem.W.keepIn K (.ref C1) = true) (k2 : PySem.W.keepIn K (.ref C2) = true) (k3 : PySem.W.keepIn K (.ref C3) = true) (k4 : PySem.W.keepIn K (.ref C4) = true) (k5 : PySem.W.keepIn K (.ref C5) = true) (k6 : PySem.W.keepIn K (.ref C6) = true) (k7 : PySem.W.keepIn K (.ref C7) = true) (k8 : PySem.W.keepIn K (.ref C8) = true) (k9 : PySem.W.keepIn K (.ref C9) = true) (k10 : PySem.W.keepIn K (.ref C10) = true) (k11 : PySem.W.keepIn K (.ref C11) = true) (k12 : PySem.W.keepIn K (.ref C12) = true) (k13 : PySem.W.keepIn K (.ref C13) = true) (k14 : PySem.W.keepIn K (.ref C14) = true) (k15 : PySem.W.keepIn K (.ref C15) = true) (k16 : PySem.W.keepIn K (.ref C16) = true) (k17 : PySem.W.keepIn K (.ref C17) = true) (k18 : PySem.W.keepIn K (.ref C18) = true) : ∃ Cs, CAll K Cs := by
  refine ⟨[C0, C1, C2, C3, C4, C5, C6, C7, C8, C9, C10, C11, C12, C13, C14, C15, C16, C17, C18], ⟨[m0, m1, m2, m3, m4, m5, m6, m7, m8, m9, m10, m11, m12, m13, m14, m15, m16, m17, m18], ?_, tb⟩, hn, ht, km, fun d hd => ?_, x18, fun d hd => ?_⟩
  · exact .cons r0 (.cons r1 (.cons r2 (.cons r3 (.cons r4 (.cons r5 (.cons r6 (.cons r7 (.cons r8 (.cons r9 (.cons r10 (.cons r11 (.cons r12 (.cons r13 (.cons r14 (.cons r15 (.cons r16 (.cons r17 (.cons r18 (.nil)))))))))))))))))))
  · match d, hd with
    | 0, _ => exact x0
    | 1, _ => exact x1
    | 2, _ => exact x2
    | 3, _ => exact x3
    | 4, _ => exact x4
    | 5, _ => exact x5
    | 6, _ => exact x6
    | 7, _ => exact x7
    | 8, _ => exact x8
    | 9, _ => exact x9
    | 10, _ => exact x10
    | 11, _ => exact x11
  · match d, hd with
    | 0, _ => exact k0
    | 1, _ => exact k1
    | 2, _ => exact k2
    | 3, _ => exact k3
    | 4, _ => exact k4
    | 5, _ => exact k5
    | 6, _ => exact k6
    | 7, _ => exact k7
    | 8, _ => exact k8
    | 9, _ => exact k9
    | 10, _ => exact k10
    | 11, _ => exact k11
    | 12, _ => exact k12
    | 13, _ => exact k13
    | 14, _ => exact k14
    | 15, _ => exact k15
    | 16, _ => exact k16
    | 17, _ => exact k17
    | 18, _ => exact k18
    | n + 19, h => exact absurd h (by omega)
/-- the classes that keep something -/
abbrev sInit (i : Nat) : Stmt := initOf (top i)
theorem sc14 : FnScope ["self", "spot"] ["self", "spot"] (defScope (sInit 14)) := ⟨rfl, rfl, rfl, by decide +kernel, rfl, by decide +kernel, by decide +kernel⟩
theorem sc15 : FnScope ["self", "given"] ["self", "given"] (defScope (sInit 15)) := ⟨rfl, rfl, rfl, by decide +kernel, rfl, by decide +kernel, by decide +kernel⟩
theorem sc16 : FnScope ["self", "name"] ["self", "name"] (defScope (sInit 16)) := ⟨rfl, rfl, rfl, by decide +kernel, rfl, by decide +kernel, by decide +kernel⟩
theorem sc17 : FnScope ["self", "wanted"] ["self", "wanted"] (defScope (sInit 17)) := ⟨rfl, rfl, rfl, by decide +kernel, rfl, by decide +kernel, by decide +kernel⟩
theorem sc18 : FnScope ["self", "limit"] ["self", "limit"] (defScope (sInit 18)) := ⟨rfl, rfl, rfl, by decide +kernel, rfl, by decide +kernel, by decide +kernel⟩
theorem sc19 : FnScope ["self", "reason"] ["self", "reason"] (defScope (sInit 19)) := ⟨rfl, rfl, rfl, by decide +kernel, rfl, by decide +kernel, by decide +kernel⟩
section
variable [TabT]
variable {P : Program} {w : World} {K : PySem.W.Frag} {mg : Str → Option Value} {base : Heap} {C : Addr}
theorem ox_v {x qual f : Str} {st : Stmt} {newId B : String} {bmB : List Value} {p p1 p2 pos : Pos} (T : ClsOk K mg C x qual f st newId bmB) (NB : PySem.W.NewBy newId bmB) (SF : StoreFacts B bmB "object.__setattr__" "object") (Sc : FnScope ["self", f] ["self", f] (defScope st))
    (hB : defBody st = [.Assign [.Attribute (.Name "self" p) f p1] (.Name f p2) pos]) (hbd : ∀ (kV doc pm : Value) (an : Option Addr) (cdv ct : Value) (us : List Value), us.length = 2 → bindArgs (PySem.W.fnOf "__init__" qual (defArgs st) (defBody st) (defScope st) .none kV doc pm an cdv ct) ⟨us, []⟩ = pure ((["self", f] : List Str).zip us))
    (hd : (f == ("__debug__" : Str)) = false := by decide) (hcd : (f == ("__classdict__" : Str)) = false := by decide) (hs : ∀ env : Env, swapsWith (.Name f p2) (some (.Attribute (.Name "self" p) f p1)) pos.line env = pure false := by intro _; rfl) (hv : Vis (defScope st) f := by exact Or.inl rfl) (hv2 : Vis (defScope st) "self" := by exact Or.inl rfl) :
    ∀ X : Cx, X.prog = P → X.w = w → X.K = K → X.mg = mg → X.base = base → OxV X x C f newId bmB := fun X e1 e2 e3 e4 e5 => by
  subst e1 e2 e3 e4 e5
  obtain ⟨fI, fd, a1, t1, F⟩ := T.i
  exact ⟨T.ox, NB, ⟨fI, fd, _, a1, t1, ok_init F Sc T.ox SF hB hd hcd hs hv hv2, F.binds hbd⟩, T.m⟩
end
structure TopK (K : PySem.W.Frag) : Prop where
  cls : ∃ Cs, CAll K Cs
  x14 : ClsAtM K "ParseError" "ParseError.__init__" "spot" (sInit 14) "ValueError.__new__" bmV
  x15 : ClsAt K "InvalidNumber" "InvalidNumber.__init__" "given" (sInit 15) "IndexError.__new__" bmIx
  x16 : ClsAt K "UnknownName" "UnknownName.__init__" "name" (sInit 16) "LookupError.__new__" bmKy
  x17 : ClsAt K "NothingToUndo" "NothingToUndo.__init__" "wanted" (sInit 17) "RuntimeError.__new__" bmRt
  x18 : ClsAt K "TooMany" "TooMany.__init__" "limit" (sInit 18) "OverflowError.__new__" bmOv
  x19 : ClsAt K "Refused" "Refused.__init__" "reason" (sInit 19) "ArithmeticError.__new__" bmAr
  d21 : DefAt K "_law_dice" (top 21)
  d22 : DefAt K "_law_roll" (top 22)
  d23 : DefAt K "_law_pick" (top 23)
  d24 : DefAt K "_law_gcd" (top 24)
  d25 : DefAt K "_law_fraction" (top 25)
  d26 : DefAt K "_law_nm_drawn" (top 26)
  d27 : DefAt K "_law_own_kinds" (top 27)
  d28 : DefAt K "_law_far_kinds" (top 28)
  d29 : DefAt K "_law_elder_kinds" (top 29)
  d30 : DefAt K "_law_plain" (top 30)
  d31 : DefAt K "_law_derived_right" (top 31)
  d32 : DefAt K "_law_kept" (top 32)
  d33 : DefAt K "_law_met" (top 33)
  d34 : DefAt K "law" (top 34)
  n_isinstance : PySem.W.nsIn K mainGlobals "isinstance" = some none
  n_int : PySem.W.nsIn K mainGlobals "int" = some none
  n_len : PySem.W.nsIn K mainGlobals "len" = some none
  n_abs : PySem.W.nsIn K mainGlobals "abs" = some none
  n_range : PySem.W.nsIn K mainGlobals "range" = some none
  n_min : PySem.W.nsIn K mainGlobals "min" = some none
  n_max : PySem.W.nsIn K mainGlobals "max" = some none
  n_repr : PySem.W.nsIn K mainGlobals "repr" = some none
  n_enumerate : PySem.W.nsIn K mainGlobals "enumerate" = some none
  e0 : PySem.W.nsIn K mainGlobals "ValueError" = some none
  e1 : PySem.W.nsIn K mainGlobals "IndexError" = some none
  e2 : PySem.W.nsIn K mainGlobals "KeyError" = some none
  e3 : PySem.W.nsIn K mainGlobals "RuntimeError" = some none
  e4 : PySem.W.nsIn K mainGlobals "OverflowError" = some none
  e5 : PySem.W.nsIn K mainGlobals "ArithmeticError" = some none
theorem all_mk {l : PySem.W.OpenLaw} {w : World} {K : PySem.W.Frag} {h : Heap} {mg : Str → Option Value} {fa : Addr} (X : K.In h) (G : h.Ns mainGlobals mg) (hfa : mg "law" = some (.ref fa)) (Z : TopK K) : letI : TabT := ⟨[]⟩; LawG l w K CX0 6 63 "_law_script" mg fa h := by
  letI TI : TabT := ⟨[]⟩
  have T : Top mg := ⟨PySem.W.mg_none_of X G Z.n_isinstance, PySem.W.mg_none_of X G Z.n_int, PySem.W.mg_none_of X G Z.n_len, PySem.W.mg_none_of X G Z.n_abs, PySem.W.mg_none_of X G Z.n_range, PySem.W.mg_none_of X G Z.n_min, PySem.W.mg_none_of X G Z.n_max, PySem.W.mg_none_of X G Z.n_repr, PySem.W.mg_none_of X G Z.n_enumerate⟩
  have TE : TopE mg := ⟨PySem.W.mg_none_of X G Z.e0, PySem.W.mg_none_of X G Z.e1, PySem.W.mg_none_of X G Z.e2, PySem.W.mg_none_of X G Z.e3, PySem.W.mg_none_of X G Z.e4, PySem.W.mg_none_of X G Z.e5⟩
  obtain ⟨Cs, CA⟩ := Z.cls
  have TC := CA.cls X G
  have TM := CA.m TC
  have TP : ClsP K fun d => Cs.getD d 0 := ⟨CA.x, CA.x18, fun d hd => CA.k d (by omega), CA.k 18 (by decide)⟩
  obtain ⟨C12, K12⟩ := Z.x14.all X G
  obtain ⟨C13, K13⟩ := Z.x15.all X G (by decide +kernel)
  obtain ⟨C14, K14⟩ := Z.x16.all X G (by decide +kernel)
  obtain ⟨C15, K15⟩ := Z.x17.all X G (by decide +kernel)
  obtain ⟨C16, K16⟩ := Z.x18.all X G (by decide +kernel)
  obtain ⟨C17, K17⟩ := Z.x19.all X G (by decide +kernel)
  obtain rfl : Cs.getD 12 0 = C12 := ref_inj (TC.m 12 (by decide)) K12.m
  obtain rfl : Cs.getD 13 0 = C13 := ref_inj (TC.m 13 (by decide)) K13.m
  obtain rfl : Cs.getD 14 0 = C14 := ref_inj (TC.m 14 (by decide)) K14.m
  obtain rfl : Cs.getD 15 0 = C15 := ref_inj (TC.m 15 (by decide)) K15.m
  obtain rfl : Cs.getD 16 0 = C16 := ref_inj (TC.m 16 (by decide)) K16.m
  obtain rfl : Cs.getD 17 0 = C17 := ref_inj (TC.m 17 (by decide)) K17.m
  have TF : ClsF K fun d => Cs.getD d 0 := ⟨fun i hi => match i, hi with
    | 0, _ => K12.xf
    | 1, _ => K13.xf
    | 2, _ => K14.xf
    | 3, _ => K15.xf
    | 4, _ => K16.xf
    | 5, _ => K17.xf, K12.ox.no, K13.ox.no, K14.ox.no, K15.ox.no, K16.ox.no, K17.ox.no⟩
  obtain ⟨f21, fd21, F21, m21⟩ := Z.d21.fn X G
  have b21 := F21.binds (ps := ["_law_script", "_law_spot"]) fun _ _ _ _ _ _ us hl => match us, hl with | [_, _], _ => rfl
  obtain ⟨f22, fd22, F22, m22⟩ := Z.d22.fn X G
  have b22 := F22.binds (ps := ["_law_dice_here", "_law_total"]) fun _ _ _ _ _ _ us hl => match us, hl with | [_, _], _ => rfl
  obtain ⟨f23, fd23, F23, m23⟩ := Z.d23.fn X G
  have b23 := F23.binds (ps := ["_law_dice_here", "_law_items"]) fun _ _ _ _ _ _ us hl => match us, hl with | [_, _], _ => rfl
  obtain ⟨f24, fd24, F24, m24⟩ := Z.d24.fn X G
  have b24 := F24.binds (ps := ["_law_one", "_law_other"]) fun _ _ _ _ _ _ us hl => match us, hl with | [_, _], _ => rfl
  obtain ⟨f25, fd25, F25, m25⟩ := Z.d25.fn X G
  have b25 := F25.binds (ps := ["_law_top", "_law_bottom"]) fun _ _ _ _ _ _ us hl => match us, hl with | [_, _], _ => rfl
  obtain ⟨f26, fd26, F26, m26⟩ := Z.d26.fn X G
  have b26 := F26.binds (ps := ["_law_dice_here"]) fun _ _ _ _ _ _ us hl => match us, hl with | [_], _ => rfl
  obtain ⟨f27, fd27, F27, m27⟩ := Z.d27.fn X G
  have b27 := F27.binds (ps := ["_law_error"]) fun _ _ _ _ _ _ us hl => match us, hl with | [_], _ => rfl
  obtain ⟨f28, fd28, F28, m28⟩ := Z.d28.fn X G
  have b28 := F28.binds (ps := ["_law_error"]) fun _ _ _ _ _ _ us hl => match us, hl with | [_], _ => rfl
  obtain ⟨f29, fd29, F29, m29⟩ := Z.d29.fn X G
  have b29 := F29.binds (ps := ["_law_error"]) fun _ _ _ _ _ _ us hl => match us, hl with | [_], _ => rfl
  obtain ⟨f30, fd30, F30, m30⟩ := Z.d30.fn X G
  have b30 := F30.binds (ps := []) fun _ _ _ _ _ _ us hl => match us, hl with | [], _ => rfl
  obtain ⟨f31, fd31, F31, m31⟩ := Z.d31.fn X G
  have b31 := F31.binds (ps := ["_law_value"]) fun _ _ _ _ _ _ us hl => match us, hl with | [_], _ => rfl
  obtain ⟨f32, fd32, F32, m32⟩ := Z.d32.fn X G
  have b32 := F32.binds (ps := ["_law_value"]) fun _ _ _ _ _ _ us hl => match us, hl with | [_], _ => rfl
  obtain ⟨f33, fd33, F33, m33⟩ := Z.d33.fn X G
  have b33 := F33.binds (ps := ["_law_value", "_law_way"]) fun _ _ _ _ _ _ us hl => match us, hl with | [_, _], _ => rfl
  obtain ⟨f34, fd34, F34, m34⟩ := Z.d34.fn X G
  have b34 := F34.binds (ps := ["_law_script"]) fun _ _ _ _ _ _ us hl => match us, hl with | [_], _ => rfl
  obtain rfl : f34 = fa := ref_inj m34 hfa
  refine ⟨fd34, [], spLaw K, (fun p hp => by cases hp), (fun p hp => by cases hp), (fun p hp => by cases hp), fun s u => ?_, fun H a ns hl _ hS => ?_, fun base inK G2 _ => ?_⟩
  · obtain ⟨⟨oc, od, kV, dc, pm, an, cdv, ct, sl, hfd, _, _⟩, _⟩ := F34
    subst hfd
    exact .of_eq rfl
  · exact ⟨a, ns, rfl, hS, hl, (fun p hp => by cases hp), fun H' => rfl⟩
  · have KP : Kp l.prog w K mg base fun d => Cs.getD d 0 := ⟨ox_v K12 (.of PySem.F.excBase_ValueError) PySem.F.store_ValueError sc14 rfl fun _ _ _ _ _ _ us hl => match us, hl with | [_, _], _ => rfl,
      ox_v K13 (.of PySem.F.excBase_IndexError) PySem.F.store_IndexError sc15 rfl fun _ _ _ _ _ _ us hl => match us, hl with | [_, _], _ => rfl,
      ox_v K14 ⟨⟨"LookupError", _, _, PySem.F.excBase_LookupError, by decide +kernel⟩, by decide +kernel, by decide +kernel⟩ PySem.F.store_KeyErr sc16 rfl fun _ _ _ _ _ _ us hl => match us, hl with | [_, _], _ => rfl,
      ox_v K15 (.of PySem.F.excBase_RuntimeError) PySem.F.store_RuntimeError sc17 rfl fun _ _ _ _ _ _ us hl => match us, hl with | [_, _], _ => rfl,
      ox_v K16 (.of PySem.F.excBase_OverflowError) PySem.F.store_OverflowError sc18 rfl fun _ _ _ _ _ _ us hl => match us, hl with | [_, _], _ => rfl,
      ox_v K17 (.of PySem.F.excBase_ArithmeticError) PySem.F.store_ArithmeticError sc19 rfl fun _ _ _ _ _ _ us hl => match us, hl with | [_, _], _ => rfl⟩
    have G_roll : Dn l.prog w K mg base 1 "_law_roll" rRoll := dn_of F22 (ok_roll F22 T) m22 b22
    have G_pick : Dn l.prog w K mg base 2 "_law_pick" rPick := dn_of F23 (ok_pick F23 T G_roll) m23 b23
    have G_gcd : Dn l.prog w K mg base 1 "_law_gcd" rGcd' := dn_of F24 (ok_gcd F24 T) m24 b24
    have G_fr : Dn l.prog w K mg base 2 "_law_fraction" rQuot := dn_of F25 (ok_lfr F25 G_gcd) m25 b25
    have G_dr : Dn l.prog w K mg base 3 "_law_nm_drawn" rDrawn := dn_of F26 (ok_drawn F26 G_pick G_roll G_fr) m26 b26
    have G_k : Gk l.prog w K mg base fun d => Cs.getD d 0 := ⟨dnz_of F27 (ok_own F27 T TE TC) m27 b27, dnz_of F28 (ok_far F28 T TE TC) m28 b28, dnz_of F29 (ok_eld F29 T TE TC) m29 b29⟩
    have G_h : DnE l.prog w K mg base 1 "_law_own_kinds" (EK (fun d => Cs.getD d 0) ownD) := ⟨f27, fd27, _, ok_ownH F27 T TE TC, m27, F27.kp, b27⟩
    have G_drv : Dn l.prog w K mg base 3 "_law_derived_right" rDrv := dn_of F31 (ok_drv F31 T TC TP KP G_k (ok_plain F30 TC TP) m30 F30.kp b30) m31 b31
    have G_kpt : Dn l.prog w K mg base 3 "_law_kept" rKpt := dn_of F32 (ok_kept F32 KP TF) m32 b32
    have G_met : Dg l.prog w K mg base 4 "_law_met" rMet := dg_of F33 (ok_met F33 T TC TP TF TM KP G_h) m33 b33
    exact ok_law F34 T ⟨G_pick, G_dr, G_kpt, G_drv, G_met⟩ (ok_dice F21 T) m21 F21.kp b21
theorem walk {l : PySem.W.OpenLaw} {q : Program} {loose : List Str} {XP : (Str → Option Value) → Heap → Prop} {YP : World → Heap → Prop} {d : DefRec} {K : Params → PySem.W.Frag} (hn : l.most = some 63) (hdf : d.params.defaults = []) (hd : d.name = "law")
    (hY : ∀ (w : World) (h : Heap), YP w h → (K w.params).In h) (Z : ∀ p, TopK (K p)) : PySem.W.WalkO q loose XP YP l.row.toRowW d [] (fun f vs => PySem.call f vs) :=
  letI : TabT := ⟨[]⟩
  DL.walk_G (n := 63) (k := 6) (x := "_law_script") (CX := fun _ => CX0) hn (by decide) hdf ⟨⟨rfl, by decide, by decide⟩, rfl⟩ hY
    (fun w mg mb mean fa h Y TP X G m => all_mk X G (by rw [← hd]; exact m) (Z w.params)) fun _ _ _ _ _ z => z
end K0


set_option Elab.async false
set_option linter.all false
set_option maxRecDepth 100000
open PySem PySem.W PyProof.Rows
local macro_rules | `(tactic| walk_at "defat") => `(tactic| (refine' K0.DefAt.mk' ?a ?l ?c ?k; (case a => k_is); (case l => k_is); (case c => k_is); (case k => k_is)))
local macro_rules | `(tactic| walk_at "clsat") => `(tactic| (refine' DL.ClsAt.mk' ?aC ?xL ?sa ?ga ?gg ?nb ?a1 ?t1 ?l1 ?c1 ?k1 ?kC ?eC ?tC ?hC ?iC ?sC; (case aC => k_is); (case xL => k_is); (case sa => k_is); (case ga => k_is); (case gg => k_is); (case nb => k_is); (case a1 => k_is); (case t1 => k_is); (case l1 => k_is); (case c1 => k_is); (case k1 => k_is); (case kC => k_is); (case eC => k_is); (case tC => k_is); (case hC => k_is); (case iC => k_is); (case sC => first | rfl | k_is)))
local macro_rules | `(tactic| walk_at "clsatm") => `(tactic| (refine' K0.ClsAtM.mk' (DL.ClsAt.mk' ?aC ?xL ?sa ?ga ?gg ?nb ?a1 ?t1 ?l1 ?c1 ?k1 ?kC ?eC ?tC ?hC ?iC ?sC) ?ht; (case aC => k_is); (case xL => k_is); (case sa => k_is); (case ga => k_is); (case gg => k_is); (case nb => k_is); (case a1 => k_is); (case t1 => k_is); (case l1 => k_is); (case c1 => k_is); (case k1 => k_is); (case kC => k_is); (case eC => k_is); (case tC => k_is); (case hC => k_is); (case iC => k_is); (case sC => first | rfl | k_is); (case ht => first | rfl | decide +kernel)))
local macro_rules | `(tactic| walk_at "crow") => `(tactic| (refine' K0.CRow.mk' ?a ?c ?hm ?hd ?t ?g ?gg ?ha; (case a => k_is); (case c => k_is); (case hm => rfl); (case hd => rfl); (case t => k_is); (case g => k_is); (case gg => k_is); (case ha => k_is)))
local instance : DL.TabT := ⟨[]⟩
set_option maxRecDepth 100000 in
set_option maxHeartbeats 0 in
theorem PySem.Challenge.cw_thirdcounts_k00_errors_told_holds : PySem.Challenge.rw_thirdcounts_k00_errors_told.Holds := by
  w_on; o_law; k_head; (case hw => w_witness2)
  k_fill
  refine K0.walk (l := PySem.Challenge.rw_thirdcounts_k00_errors_told) rfl rfl rfl (fun w h Y => Y) ?Z
  case Z =>
    intro p
    constructor
    case cls =>
      refine' K0.CAll.of ?r0 ?r1 ?r2 ?r3 ?r4 ?r5 ?r6 ?r7 ?r8 ?r9 ?r10 ?r11 ?r12 ?r13 ?r14 ?r15 ?r16 ?r17 ?r18 ?tb ?hn ?ht ?km ?x0 ?x1 ?x2 ?x3 ?x4 ?x5 ?x6 ?x7 ?x8 ?x9 ?x10 ?x11 ?y18 ?k0 ?k1 ?k2 ?k3 ?k4 ?k5 ?k6 ?k7 ?k8 ?k9 ?k10 ?k11 ?k12 ?k13 ?k14 ?k15 ?k16 ?k17 ?k18
      case r0 => walk_at "crow"
      case r1 => walk_at "crow"
      case r2 => walk_at "crow"
      case r3 => walk_at "crow"
      case r4 => walk_at "crow"
      case r5 => walk_at "crow"
      case r6 => walk_at "crow"
      case r7 => walk_at "crow"
      case r8 => walk_at "crow"
      case r9 => walk_at "crow"
      case r10 => walk_at "crow"
      case r11 => walk_at "crow"
      case r12 => walk_at "crow"
      case r13 => walk_at "crow"
      case r14 => walk_at "crow"
      case r15 => walk_at "crow"
      case r16 => walk_at "crow"
      case r17 => walk_at "crow"
      case r18 => walk_at "crow"
      case tb => first | rfl | decide +kernel
      case hn => k_is
      case ht => k_is
      case km => (intro i hi; (match i, hi with | 0, _ => decide +kernel | 1, _ => decide +kernel | 2, _ => decide +kernel | 3, _ => decide +kernel | 4, _ => decide +kernel | 5, _ => decide +kernel))
      case x0 => k_exc
      case x1 => k_exc
      case x2 => k_exc
      case x3 => k_exc
      case x4 => k_exc
      case x5 => k_exc
      case x6 => k_exc
      case x7 => k_exc
      case x8 => k_exc
      case x9 => k_exc
      case x10 => k_exc
      case x11 => k_exc
      case y18 => k_exc
      case k0 => k_is
      case k1 => k_is
      case k2 => k_is
      case k3 => k_is
      case k4 => k_is
      case k5 => k_is
      case k6 => k_is
      case k7 => k_is
      case k8 => k_is
      case k9 => k_is
      case k10 => k_is
      case k11 => k_is
      case k12 => k_is
      case k13 => k_is
      case k14 => k_is
      case k15 => k_is
      case k16 => k_is
      case k17 => k_is
      case k18 => k_is
    case x14 => walk_at "clsatm"
    case x15 => walk_at "clsat"
    case x16 => walk_at "clsat"
    case x17 => walk_at "clsat"
    case x18 => walk_at "clsat"
    case x19 => walk_at "clsat"
    case d21 => walk_at "defat"
    case d22 => walk_at "defat"
    case d23 => walk_at "defat"
    case d24 => walk_at "defat"
    case d25 => walk_at "defat"
    case d26 => walk_at "defat"
    case d27 => walk_at "defat"
    case d28 => walk_at "defat"
    case d29 => walk_at "defat"
    case d30 => walk_at "defat"
    case d31 => walk_at "defat"
    case d32 => walk_at "defat"
    case d33 => walk_at "defat"
    case d34 => walk_at "defat"
    case n_isinstance => k_is
    case n_int => k_is
    case n_len => k_is
    case n_abs => k_is
    case n_range => k_is
    case n_min => k_is
    case n_max => k_is
    case n_repr => k_is
    case n_enumerate => k_is
    case e0 => k_is
    case e1 => k_is
    case e2 => k_is
    case e3 => k_is
    case e4 => k_is
    case e5 => k_is

