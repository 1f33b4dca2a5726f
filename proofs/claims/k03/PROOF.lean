import PyProof.Rows.All
import Wide.All
import OpenK.AllK
import Wide.FinOn
import HandS.ForMost
import HandS.IsInst
import HandS.Gcd
import HandS.Wide
import HandS.FStr
import HandS.StrMore
import HandS.Walk
import HandS.Style
import KE.GoesMore
import KE.GoesEnum
import KE.KMathGC
import HandS.TupAny
import HandS.TupMul
import KE.KDictZip
import HandS.Zip0
import HandS.Star
import HandS.Zip
import PySem.Challenge.RW_thirdcounts_k03_whole_products_of_tables
set_option Elab.async false
set_option linter.all false
set_option maxRecDepth 100000
/-! A data layer over the hand layer: what expressions, statements and defs do to plain data (PyData), and to one list of three ints that is written in place. -/
namespace DL
open PySem PySem.Spec PyProof.Rows L2

/-! ### 1. states, heaps, data -/
abbrev S := Int × Int × Int
def dv (s : S) : HO := .lst [.int s.1, .int s.2.1, .int s.2.2]
/-- the state's list, and lists that are being filled: what they hold stands still meanwhile -/
structure Z where
  dice : Option Addr
  vol : List (Addr × HO)
/-- not one of these -/
def Fz (z : Z) (a : Addr) : Prop := z.dice ≠ some a ∧ ∀ o, (a, o) ∉ z.vol
structure At (z : Z) (H : Hp) (s : S) : Prop where
  d : ∀ a, z.dice = some a → H a = some (dv s)
  v : ∀ p ∈ z.vol, H p.1 = some p.2
  n : ∀ p ∈ z.vol, z.dice ≠ some p.1
def Ez (z : Z) (H H' : Hp) : Prop := ∀ a o, Fz z a → H a = some o → H' a = some o
theorem Ez.refl {z : Z} (H : Hp) : Ez z H H := fun _ _ _ h => h
theorem Ez.trans {z : Z} {H H1 H2 : Hp} (a : Ez z H H1) (b : Ez z H1 H2) : Ez z H H2 := fun x o n h => b x o n (a x o n h)
theorem Ez.new {z : Z} {H : Hp} {p : Addr} {o : HO} (h : H p = none) : Ez z H (upd H p o) := fun a u _ e => by
  rw [upd_ne (ne_of_none e h)]
  exact e
theorem At.new {z : Z} {H : Hp} {p : Addr} {o : HO} {s : S} (A : At z H s) (h : H p = none) : At z (upd H p o) s := by
  refine ⟨fun a e => ?_, fun q hq => ?_, A.n⟩
  · rw [upd_ne (ne_of_none (A.d a e) h)]
    exact A.d a e
  · rw [upd_ne (ne_of_none (A.v q hq) h)]
    exact A.v q hq
theorem At.fresh {z : Z} {H : Hp} {p : Addr} {s : S} (A : At z H s) (h : H p = none) : Fz z p := by
  refine ⟨fun e => ?_, fun o ho => ?_⟩
  · have := A.d p e
    rw [this] at h
    cases h
  · have : H p = some o := A.v _ ho
    rw [this] at h
    cases h
theorem At.set {z : Z} {a : Addr} {H : Hp} {s s' : S} (A : At z H s') (e : z.dice = some a) : At z (upd H a (dv s)) s := by
  refine ⟨fun b e2 => ?_, fun q hq => ?_, A.n⟩
  · rw [e] at e2
    cases e2
    exact upd_same
  · have := A.n q hq
    rw [upd_ne (fun h => this (by rw [e, h]))]
    exact A.v q hq
theorem Ez.set {z : Z} {a : Addr} {H : Hp} {o : HO} (h : z.dice = some a) : Ez z H (upd H a o) := fun b u n e => by
  rw [upd_ne (fun q => n.1 (by rw [h, q]))]
  exact e

mutual
inductive Da (z : Z) (H : Hp) : V → PyData → Prop
  | non : Da z H .non .none
  | bl (b : Bool) : Da z H (.bl b) (.bool b)
  | int (i : Int) : Da z H (.int i) (.int i)
  | str (x : Str) : Da z H (.str x) (.str x)
  | dct {a : Addr} : Fz z a → H a = some (.dK []) → Da z H (.ref a) (.dict [])
  | lst {a : Addr} {xs : List V} {ds : List PyData} : Fz z a → H a = some (.lst xs) → DaAll z H xs ds → Da z H (.ref a) (.list ds)
  | tup {a : Addr} {xs : List V} {ds : List PyData} : Fz z a → H a = some (.tup xs) → DaAll z H xs ds → Da z H (.ref a) (.tuple ds)
inductive DaAll (z : Z) (H : Hp) : List V → List PyData → Prop
  | nil : DaAll z H [] []
  | cons {v : V} {vs : List V} {d : PyData} {ds : List PyData} : Da z H v d → DaAll z H vs ds → DaAll z H (v :: vs) (d :: ds)
end
mutual
theorem Da.mono {z : Z} {H H' : Hp} (e : Ez z H H') : ∀ {v : V} {d : PyData}, Da z H v d → Da z H' v d
  | _, _, .non => .non
  | _, _, .bl b => .bl b
  | _, _, .int i => .int i
  | _, _, .str x => .str x
  | _, _, .dct n h => .dct n (e _ _ n h)
  | _, _, .lst n h r => .lst n (e _ _ n h) (DaAll.mono e r)
  | _, _, .tup n h r => .tup n (e _ _ n h) (DaAll.mono e r)
theorem DaAll.mono {z : Z} {H H' : Hp} (e : Ez z H H') : ∀ {vs : List V} {ds : List PyData}, DaAll z H vs ds → DaAll z H' vs ds
  | _, _, .nil => .nil
  | _, _, .cons h r => .cons (Da.mono e h) (DaAll.mono e r)
end
mutual
/-- no dict within -/
def nod : PyData → Bool
  | .none => true
  | .bool _ => true
  | .int _ => true
  | .str _ => true
  | .list xs => nodAll xs
  | .tuple xs => nodAll xs
  | .dict _ => false
def nodAll : List PyData → Bool
  | [] => true
  | x :: xs => nod x && nodAll xs
end
mutual
theorem Da.dp {K : PySem.W.Frag} {z : Z} {H : Hp} : ∀ {v : V} {d : PyData}, Da z H v d → nod d = true → Dp K H v d
  | _, _, .non, _ => .non
  | _, _, .bl b, _ => .bl b
  | _, _, .int i, _ => .int i
  | _, _, .str x, _ => .str x
  | _, _, .dct n h, q => by simp [nod] at q
  | _, _, .lst n h r, q => .lst (.inl (.inl h)) (DaAll.dp r (by simpa [nod] using q))
  | _, _, .tup n h r, q => .tup (.inl (.inl h)) (DaAll.dp r (by simpa [nod] using q))
theorem DaAll.dp {K : PySem.W.Frag} {z : Z} {H : Hp} : ∀ {vs : List V} {ds : List PyData}, DaAll z H vs ds → nodAll ds = true → DpAll K H vs ds
  | _, _, .nil, _ => .nil
  | _, _, .cons h r, q => by
    simp only [nodAll, Bool.and_eq_true] at q
    exact .cons (Da.dp h q.1) (DaAll.dp r q.2)
end
theorem DaAll.length {z : Z} {H : Hp} : ∀ {vs : List V} {ds : List PyData}, DaAll z H vs ds → vs.length = ds.length
  | _, _, .nil => rfl
  | _, _, .cons _ r => by rw [List.length_cons, List.length_cons, DaAll.length r]
theorem DaAll.get {z : Z} {H : Hp} : ∀ {vs : List V} {ds : List PyData}, DaAll z H vs ds → ∀ (i : Nat) (d : PyData), ds[i]? = some d → ∃ v, vs[i]? = some v ∧ Da z H v d
  | _, _, .nil, i, d, h => by simp at h
  | _, _, .cons h r, 0, d, e => by
    cases Option.some.inj e
    exact ⟨_, rfl, h⟩
  | _, _, .cons h r, i + 1, d, e => DaAll.get r i d e
theorem DaAll.getV {z : Z} {H : Hp} : ∀ {vs : List V} {ds : List PyData}, DaAll z H vs ds → ∀ (i : Nat) (v : V), vs[i]? = some v → ∃ d, ds[i]? = some d ∧ Da z H v d
  | _, _, .nil, i, d, h => by simp at h
  | _, _, .cons h r, 0, d, e => by
    cases Option.some.inj e
    exact ⟨_, rfl, h⟩
  | _, _, .cons h r, i + 1, d, e => DaAll.getV r i d e
theorem DaAll.app {z : Z} {H : Hp} : ∀ {vs : List V} {ds : List PyData} {us : List V} {es : List PyData}, DaAll z H vs ds → DaAll z H us es → DaAll z H (vs ++ us) (ds ++ es)
  | _, _, _, _, .nil, q => q
  | _, _, _, _, .cons h r, q => .cons h (DaAll.app r q)

/-! ### slots -/
inductive Sl | un | val (d : PyData) | dice | raw (v : V) | own (ds : List PyData)
inductive SlR (z : Z) (H : Hp) : Option V → Sl → Prop
  | un {x : Option V} : SlR z H x .un
  | val {v : V} {d : PyData} : Da z H v d → SlR z H (some v) (.val d)
  | dice {a : Addr} : z.dice = some a → SlR z H (some (.ref a)) .dice
  | raw {v : V} : SlR z H (some v) (.raw v)
  | own {p : Addr} {vs : List V} {ds : List PyData} : (p, HO.lst vs) ∈ z.vol → DaAll z H vs ds → SlR z H (some (.ref p)) (.own ds)
inductive En (z : Z) (H : Hp) : L2.St → List Sl → Prop
  | nil : En z H [] []
  | cons {x : Option V} {σ : L2.St} {e : Sl} {es : List Sl} : SlR z H x e → En z H σ es → En z H (x :: σ) (e :: es)
theorem SlR.mono {z : Z} {H H' : Hp} {x : Option V} {e : Sl} (k : Ez z H H') (h : SlR z H x e) : SlR z H' x e := by
  cases h with
  | un => exact .un
  | val d => exact .val (d.mono k)
  | dice e => exact .dice e
  | raw => exact .raw
  | own m r => exact .own m (r.mono k)
theorem En.mono {z : Z} {H H' : Hp} (k : Ez z H H') : ∀ {σ : L2.St} {es : List Sl}, En z H σ es → En z H' σ es
  | _, _, .nil => .nil
  | _, _, .cons h r => .cons (h.mono k) (En.mono k r)
theorem En.length {z : Z} {H : Hp} : ∀ {σ : L2.St} {es : List Sl}, En z H σ es → σ.length = es.length
  | _, _, .nil => rfl
  | _, _, .cons h r => by rw [List.length_cons, List.length_cons, En.length r]
theorem En.get {z : Z} {H : Hp} : ∀ {σ : L2.St} {es : List Sl}, En z H σ es → ∀ {i : Nat} {d : PyData}, es[i]? = some (.val d) → ∃ v, σ[i]? = some (some v) ∧ Da z H v d
  | _, _, .nil, i, d, h => by simp at h
  | _, _, .cons h r, 0, d, e => by
    cases Option.some.inj e
    cases h with
    | val q => exact ⟨_, rfl, q⟩
  | _, _, .cons h r, i + 1, d, e => En.get r (i := i) e
theorem En.getD {z : Z} {H : Hp} : ∀ {σ : L2.St} {es : List Sl}, En z H σ es → ∀ {i : Nat}, es[i]? = some .dice → ∃ a, σ[i]? = some (some (.ref a)) ∧ z.dice = some a
  | _, _, .nil, i, h => by simp at h
  | _, _, .cons h r, 0, e => by
    cases Option.some.inj e
    cases h with
    | dice q => exact ⟨_, rfl, q⟩
  | _, _, .cons h r, i + 1, e => En.getD r (i := i) e
theorem En.set {z : Z} {H : Hp} : ∀ {σ : L2.St} {es : List Sl}, En z H σ es → ∀ (i : Nat) {x : Option V} {e : Sl}, SlR z H x e → En z H (σ.set i x) (es.set i e)
  | _, _, .nil, i, _, _, _ => .nil
  | _, _, .cons h r, 0, _, _, q => .cons q r
  | _, _, .cons h r, i + 1, _, _, q => .cons h (En.set r i q)
theorem En.app {z : Z} {H : Hp} : ∀ {σ : L2.St} {es : List Sl} {τ : L2.St} {fs : List Sl}, En z H σ es → En z H τ fs → En z H (σ ++ τ) (es ++ fs)
  | _, _, _, _, .nil, q => q
  | _, _, _, _, .cons h r, q => .cons h (En.app r q)
theorem En.uns {z : Z} {H : Hp} : ∀ (n : Nat), En z H (List.replicate n none) (List.replicate n .un)
  | 0 => .nil
  | n + 1 => .cons .un (En.uns n)
/-- less is known -/
inductive Le : List Sl → List Sl → Prop
  | nil : Le [] []
  | same {e : Sl} {es fs : List Sl} : Le es fs → Le (e :: es) (e :: fs)
  | un {e : Sl} {es fs : List Sl} : Le es fs → Le (e :: es) (.un :: fs)
theorem Le.refl : ∀ es : List Sl, Le es es
  | [] => .nil
  | _ :: es => .same (Le.refl es)
theorem En.le {z : Z} {H : Hp} : ∀ {es fs : List Sl}, Le es fs → ∀ {σ : L2.St}, En z H σ es → En z H σ fs
  | _, _, .nil, _, h => h
  | _, _, .same l, _, .cons h r => .cons h (En.le l r)
  | _, _, .un l, _, .cons h r => .cons .un (En.le l r)

/-! ### 2. the weakest readings -/
section
variable {X : Cx}
def wE (X : Cx) (e : Expr) : TE := fun σ H Q => ∃ t, PE X e t ∧ t σ H Q
def wT (X : Cx) (e : Expr) : TT := fun σ H Q => ∃ t, PT X e t ∧ t σ H Q
def wA (X : Cx) (es : List Expr) : TA := fun σ H Q => ∃ t, PA X es t ∧ t σ H Q
def wS (X : Cx) (st : Stmt) : TS := fun D σ H => ∃ t, PS X st t ∧ t D σ H
def wB (X : Cx) (st : List Stmt) : TS := fun D σ H => ∃ t, PSs X st t ∧ t D σ H
theorem wE_ok {e : Expr} : PE X e (wE X e) := ⟨fun pins s σ H Q I ⟨_, h, q⟩ => h.run pins s σ H Q I q⟩
theorem wT_ok {e : Expr} : PT X e (wT X e) := ⟨fun pins s σ H Q I ⟨_, h, q⟩ => h.run pins s σ H Q I q⟩
theorem wA_ok {es : List Expr} : PA X es (wA X es) := ⟨fun pos pins s σ H Q I ⟨_, h, q⟩ => h.run pos pins s σ H Q I q⟩
theorem wS_ok {st : Stmt} : PS X st (wS X st) := ⟨fun pins s σ H D I ⟨_, h, q⟩ => h.run pins s σ H D I q⟩
theorem wB_ok {st : List Stmt} : PSs X st (wB X st) := ⟨fun pins s σ H D I ⟨_, h, q⟩ => h.run pins s σ H D I q⟩
theorem wB_never {st : List Stmt} : PSs X st tNever := ⟨fun _ _ _ _ _ _ h => h.elim⟩
/-- e gives the data d, and the state goes from s to s' -/
def EV (X : Cx) (z : Z) (e : Expr) (es : List Sl) (s : S) (d : PyData) (s' : S) : Prop := ∀ σ H, En z H σ es → At z H s → ∀ Q : VK, (∀ v H2, Ez z H H2 → At z H2 s' → Da z H2 v d → Q v H2) → wE X e σ H Q
def ET (X : Cx) (z : Z) (e : Expr) (es : List Sl) (s : S) (b : Bool) (s' : S) : Prop := ∀ σ H, En z H σ es → At z H s → ∀ Q : Bool → Hp → Prop, (∀ H2, Ez z H H2 → At z H2 s' → Q b H2) → wT X e σ H Q
def EA (X : Cx) (z : Z) (xs : List Expr) (es : List Sl) (s : S) (as : List Sl) (s' : S) : Prop := ∀ σ H, En z H σ es → At z H s → ∀ Q : List V → Hp → Prop, (∀ vs H2, Ez z H H2 → At z H2 s' → En z H2 (vs.map some) as → Q vs H2) → wA X xs σ H Q

variable {z : Z} {es : List Sl} {s s1 s2 s' : S} {a b c e : Expr} {pos p : Pos} {d d1 d2 : PyData}
/-- from a reading -/
theorem EV.mk {te : TE} (h : PE X e te) (k : ∀ σ H, En z H σ es → At z H s → ∀ Q : VK, (∀ v H2, Ez z H H2 → At z H2 s' → Da z H2 v d → Q v H2) → te σ H Q) : EV X z e es s d s' := fun σ H en at_ Q q => ⟨te, h, k σ H en at_ Q q⟩
theorem EV.is (h : EV X z e es s d s') (q : d = d1) : EV X z e es s d1 s' := q ▸ h
theorem EV.st (h : EV X z e es s d s') (q : s' = s1) : EV X z e es s d s1 := q ▸ h
theorem ET.is {b b' : Bool} (h : ET X z e es s b s') (q : b = b') : ET X z e es s b' s' := q ▸ h
theorem ev_int {i : Int} {j} : EV X z (.Constant (.int i) j pos) es s (.int i) s := .mk pe_int fun _ H _ at_ _ q => q _ H (.refl H) at_ (.int i)
theorem ev_bl {i : Bool} {j} : EV X z (.Constant (.bool i) j pos) es s (.bool i) s := .mk pe_bl fun _ H _ at_ _ q => q _ H (.refl H) at_ (.bl i)
theorem ev_str {i : Str} {j} : EV X z (.Constant (.str i) j pos) es s (.str i) s := .mk pe_str fun _ H _ at_ _ q => q _ H (.refl H) at_ (.str i)
theorem ev_non {j} : EV X z (.Constant .none j pos) es s .none s := .mk pe_non fun _ H _ at_ _ q => q _ H (.refl H) at_ .non
theorem ev_var (i : Nat) {x : Str} (h : es[i]? = some (.val d) := by rfl) (hN : X.N[i]? = some x := by rfl) (hv : Vis X.env.scope x := by first | exact Or.inl rfl | exact Or.inr (Or.inl rfl) | exact Or.inr (Or.inr rfl))
    (hd : (x == ("__debug__" : Str)) = false := by decide) (hcd : (x == ("__classdict__" : Str)) = false := by decide) : EV X z (.Name x pos) es s d s :=
  .mk (pe_var hN hv hd hcd) fun σ H en at_ Q q => by
    obtain ⟨v, e1, e2⟩ := en.get h
    exact ⟨v, e1, q v H (.refl H) at_ e2⟩
theorem ev_glob {x : Str} {i : Int} {u : Value} (hg : Gl X x) (hm : X.mg x = some u) (r : ∃ t, u = .int i t) (hd : (x == ("__debug__" : Str)) = false := by decide) : EV X z (.Name x pos) es s (.int i) s :=
  .mk (pe_glob (v := .int i) hg hm r hd) fun _ H _ at_ _ q => q _ H (.refl H) at_ (.int i)

/-! ### operators -/
/-- what an operation on values does to data -/
def RD (z : Z) (s : S) (r : R2) (d1 d2 d : PyData) : Prop := ∀ x y H, At z H s → Da z H x d1 → Da z H y d2 → ∀ Q : VK, (∀ v H2, Ez z H H2 → At z H2 s → Da z H2 v d → Q v H2) → r x y H Q
theorem ev_opR {r : R2} {f : Value → Value → Sem Value} {op : Operator} (ho : OpR X (binaryOp op) r) (hr : RD z s2 r d1 d2 d) (ha : EV X z a es s d1 s1) (hb : EV X z b es s1 d2 s2) : EV X z (.BinOp a op b pos) es s d s2 :=
  .mk (pe_op ho wE_ok wE_ok) fun σ H en at_ Q q => ha σ H en at_ _ fun x H1 e1 a1 x1 => hb σ H1 (en.mono e1) a1 _ fun y H2 e2 a2 y2 => hr x y H2 a2 (x1.mono e2) y2 Q fun v H3 e3 a3 v3 => q v H3 ((e1.trans e2).trans e3) a3 v3
theorem ev_cmpR {r : R2} {op : CmpOp} (ho : OpR X (compareOp op) r) (hr : RD z s2 r d1 d2 d) (ha : EV X z a es s d1 s1) (hb : EV X z b es s1 d2 s2) (hm : behindInMarks op b = false) : EV X z (.Compare a [op] [b] pos) es s d s2 :=
  .mk (pe_cmpR ho wE_ok wE_ok hm) fun σ H en at_ Q q => ha σ H en at_ _ fun x H1 e1 a1 x1 => hb σ H1 (en.mono e1) a1 _ fun y H2 e2 a2 y2 => hr x y H2 a2 (x1.mono e2) y2 Q fun v H3 e3 a3 v3 => q v H3 ((e1.trans e2).trans e3) a3 v3
theorem et_cmpR {r : R2} {op : CmpOp} {k : Bool} (ho : OpR X (compareOp op) r) (hr : RD z s2 r d1 d2 (.bool k)) (ha : EV X z a es s d1 s1) (hb : EV X z b es s1 d2 s2) (hm : behindInMarks op b = false) : ET X z (.Compare a [op] [b] pos) es s k s2 :=
  fun σ H en at_ Q q => ⟨_, pt_cmpR ho wE_ok wE_ok hm, ha σ H en at_ _ fun x H1 e1 a1 x1 => hb σ H1 (en.mono e1) a1 _ fun y H2 e2 a2 y2 => hr x y H2 a2 (x1.mono e2) y2 _ fun v H3 e3 a3 v3 => by
    cases v3
    exact ⟨k, rfl, q H3 ((e1.trans e2).trans e3) a3⟩⟩
theorem rd_I0 {g : Int → Int → V} {i j : Int} {d : PyData} (h : ∀ H, Da z H (g i j) d) : RD z s (rI0 g) (.int i) (.int j) d := fun x y H at_ hx hy Q q => by
  cases hx
  cases hy
  exact ⟨i, j, rfl, rfl, q _ H (.refl H) at_ (h H)⟩
theorem rd_I {C : Int → Int → Prop} {g : Int → Int → V} {i j : Int} {d : PyData} (hc : C i j) (h : ∀ H, Da z H (g i j) d) : RD z s (rI C g) (.int i) (.int j) d := fun x y H at_ hx hy Q q => by
  cases hx
  cases hy
  exact ⟨i, j, rfl, rfl, hc, q _ H (.refl H) at_ (h H)⟩
theorem ev_add {i j : Int} (ha : EV X z a es s (.int i) s1) (hb : EV X z b es s1 (.int j) s2) : EV X z (.BinOp a .Add b pos) es s (.int (i + j)) s2 := ev_opR (f := binaryOp .Add) op_add (rd_I0 fun _ => .int _) ha hb
theorem ev_sub {i j : Int} (ha : EV X z a es s (.int i) s1) (hb : EV X z b es s1 (.int j) s2) : EV X z (.BinOp a .Sub b pos) es s (.int (i - j)) s2 := ev_opR (f := binaryOp .Sub) op_sub (rd_I0 fun _ => .int _) ha hb
theorem ev_mul {i j : Int} (hc : CMulW i j) (ha : EV X z a es s (.int i) s1) (hb : EV X z b es s1 (.int j) s2) : EV X z (.BinOp a .Mult b pos) es s (.int (i * j)) s2 := ev_opR (f := binaryOp .Mult) op_mulW (rd_I hc fun _ => .int _) ha hb
theorem ev_mod {i j : Int} (hc : j ≠ 0) (ha : EV X z a es s (.int i) s1) (hb : EV X z b es s1 (.int j) s2) : EV X z (.BinOp a .Mod b pos) es s (.int (i.fmod j)) s2 := ev_opR (f := binaryOp .Mod) op_modN (rd_I hc fun _ => .int _) ha hb
theorem ev_pow {i j : Int} (hc : CPow i j) (ha : EV X z a es s (.int i) s1) (hb : EV X z b es s1 (.int j) s2) : EV X z (.BinOp a .Pow b pos) es s (.int (i ^ j.toNat)) s2 := ev_opR (f := binaryOp .Pow) op_pow (rd_I hc fun _ => .int _) ha hb
/-- // by any divisor but 0 below 2 ^ 9000 -/
def CDivZ (_ j : Int) : Prop := j ≠ 0 ∧ j.natAbs.log2 < 9000
theorem op_fdivZ : OpR X (binaryOp .FloorDiv) (rI CDivZ fun i j => .int (i.fdiv j)) := opI fun _ _ _ _ _ _ _ hc q => floordiv_int hc.1 q (.inl (PyProof.noPylong_of_log2 hc.2))
theorem ev_div {i j : Int} (hc : CDivZ i j) (ha : EV X z a es s (.int i) s1) (hb : EV X z b es s1 (.int j) s2) : EV X z (.BinOp a .FloorDiv b pos) es s (.int (i.fdiv j)) s2 := ev_opR (f := binaryOp .FloorDiv) op_fdivZ (rd_I hc fun _ => .int _) ha hb
theorem ev_neg {i : Int} (ha : EV X z a es s (.int i) s1) : EV X z (.UnaryOp .USub a pos) es s (.int (-i)) s1 :=
  .mk (pe_un un_neg wE_ok) fun σ H en at_ Q q => ha σ H en at_ _ fun x H1 e1 a1 x1 => by
    cases x1
    exact ⟨i, rfl, q _ H1 e1 a1 (.int _)⟩
theorem ev_addS {x y : Str} (hl : x.length + y.length ≤ sizeLine) (ha : EV X z a es s (.str x) s1) (hb : EV X z b es s1 (.str y) s2) : EV X z (.BinOp a .Add b pos) es s (.str (x ++ y)) s2 :=
  ev_opR (f := binaryOp .Add) op_add_str (fun u v H at_ hu hv Q q => by
    cases hu
    cases hv
    exact ⟨x, y, rfl, rfl, hl, q _ H (.refl H) at_ (.str _)⟩) ha hb
theorem ev_catT {ds fs : List PyData} (h0 : ds ≠ []) (h1 : fs ≠ []) (hl : ds.length + fs.length ≤ 100000) (ha : EV X z a es s (.tuple ds) s1) (hb : EV X z b es s1 (.tuple fs) s2) : EV X z (.BinOp a .Add b pos) es s (.tuple (ds ++ fs)) s2 :=
  ev_opR (f := binaryOp .Add) op_catT (fun u v H at_ hu hv Q q => by
    cases hu with
    | tup n1 e1 r1 =>
      cases hv with
      | tup n2 e2 r2 =>
        refine ⟨_, _, _, _, rfl, rfl, .inl (.inl e1), .inl (.inl e2), fun w => ?_, ?_, fun w => ?_, fun w p hp => ?_⟩
        · subst w
          cases r1
          exact h0 rfl
        · rw [r1.length, r2.length]
          exact Nat.le_trans hl (by decide)
        · subst w
          cases r2
          exact absurd rfl h1
        · exact q _ _ (.new hp) (at_.new hp) (.tup (at_.fresh hp) upd_same ((r1.app r2).mono (.new hp)))) ha hb
theorem ev_cat {ds fs : List PyData} (hl : ds.length + fs.length ≤ 100000) (ha : EV X z a es s (.list ds) s1) (hb : EV X z b es s1 (.list fs) s2) : EV X z (.BinOp a .Add b pos) es s (.list (ds ++ fs)) s2 :=
  ev_opR (f := binaryOp .Add) op_cat (fun u v H at_ hu hv Q q => by
    cases hu with
    | lst n1 e1 r1 =>
      cases hv with
      | lst n2 e2 r2 =>
        refine ⟨_, _, _, _, rfl, rfl, e1, e2, ?_, fun p hp => ?_⟩
        · rw [r1.length, r2.length]
          exact Nat.le_trans hl (by decide)
        · exact q _ _ (.new hp) (at_.new hp) (.lst (at_.fresh hp) upd_same ((r1.app r2).mono (.new hp)))) ha hb

/-! ### comparisons -/
theorem ev_lt {i j : Int} (ha : EV X z a es s (.int i) s1) (hb : EV X z b es s1 (.int j) s2) : EV X z (.Compare a [.Lt] [b] pos) es s (.bool (decide (i < j))) s2 := ev_cmpR op_lt (rd_I0 fun _ => .bl _) ha hb (nomark _)
theorem ev_le {i j : Int} (ha : EV X z a es s (.int i) s1) (hb : EV X z b es s1 (.int j) s2) : EV X z (.Compare a [.LtE] [b] pos) es s (.bool (decide (i ≤ j))) s2 := ev_cmpR op_le (rd_I0 fun _ => .bl _) ha hb (nomark _)
theorem ev_gt {i j : Int} (ha : EV X z a es s (.int i) s1) (hb : EV X z b es s1 (.int j) s2) : EV X z (.Compare a [.Gt] [b] pos) es s (.bool (decide (j < i))) s2 := ev_cmpR op_gt (rd_I0 fun _ => .bl _) ha hb (nomark _)
theorem ev_ge {i j : Int} (ha : EV X z a es s (.int i) s1) (hb : EV X z b es s1 (.int j) s2) : EV X z (.Compare a [.GtE] [b] pos) es s (.bool (decide (j ≤ i))) s2 := ev_cmpR op_ge (rd_I0 fun _ => .bl _) ha hb (nomark _)
theorem et_lt {i j : Int} (ha : EV X z a es s (.int i) s1) (hb : EV X z b es s1 (.int j) s2) : ET X z (.Compare a [.Lt] [b] pos) es s (decide (i < j)) s2 := et_cmpR op_lt (rd_I0 fun _ => .bl _) ha hb (nomark _)
theorem et_le {i j : Int} (ha : EV X z a es s (.int i) s1) (hb : EV X z b es s1 (.int j) s2) : ET X z (.Compare a [.LtE] [b] pos) es s (decide (i ≤ j)) s2 := et_cmpR op_le (rd_I0 fun _ => .bl _) ha hb (nomark _)
theorem et_gt {i j : Int} (ha : EV X z a es s (.int i) s1) (hb : EV X z b es s1 (.int j) s2) : ET X z (.Compare a [.Gt] [b] pos) es s (decide (j < i)) s2 := et_cmpR op_gt (rd_I0 fun _ => .bl _) ha hb (nomark _)
theorem et_ge {i j : Int} (ha : EV X z a es s (.int i) s1) (hb : EV X z b es s1 (.int j) s2) : ET X z (.Compare a [.GtE] [b] pos) es s (decide (j ≤ i)) s2 := et_cmpR op_ge (rd_I0 fun _ => .bl _) ha hb (nomark _)
theorem rd_eqD {K : PySem.W.Frag} (n1 : nod d1 = true) (n2 : nod d2 = true) (h1 : SeqAt.shaped d1 = true) (h2 : SeqAt.shaped d2 = true) : RD z s (rEqD K) d1 d2 (.bool (PyData.eqv d1 d2)) := fun x y H at_ hx hy Q q =>
  ⟨d1, d2, hx.dp n1, hy.dp n2, h1, h2, q _ H (.refl H) at_ (.bl _)⟩
theorem rd_neD {K : PySem.W.Frag} (n1 : nod d1 = true) (n2 : nod d2 = true) (h1 : SeqAt.shaped d1 = true) (h2 : SeqAt.shaped d2 = true) : RD z s (rNeD K) d1 d2 (.bool (!PyData.eqv d1 d2)) := fun x y H at_ hx hy Q q =>
  ⟨d1, d2, hx.dp n1, hy.dp n2, h1, h2, q _ H (.refl H) at_ (.bl _)⟩
/-- plain data: no dict, of small depth -/
def Pl (d : PyData) : Prop := nod d = true ∧ SeqAt.shaped d = true
theorem ev_eq (hu : X.A.units + 64 < cLine) (p1 : Pl d1) (p2 : Pl d2) (ha : EV X z a es s d1 s1) (hb : EV X z b es s1 d2 s2) : EV X z (.Compare a [.Eq] [b] pos) es s (.bool (PyData.eqv d1 d2)) s2 := ev_cmpR (op_eqD hu) (rd_eqD p1.1 p2.1 p1.2 p2.2) ha hb (nomark _)
theorem ev_ne (hu : X.A.units + 64 < cLine) (p1 : Pl d1) (p2 : Pl d2) (ha : EV X z a es s d1 s1) (hb : EV X z b es s1 d2 s2) : EV X z (.Compare a [.NotEq] [b] pos) es s (.bool (!PyData.eqv d1 d2)) s2 := ev_cmpR (op_neD hu) (rd_neD p1.1 p2.1 p1.2 p2.2) ha hb (nomark _)
theorem et_eq (hu : X.A.units + 64 < cLine) (p1 : Pl d1) (p2 : Pl d2) (ha : EV X z a es s d1 s1) (hb : EV X z b es s1 d2 s2) : ET X z (.Compare a [.Eq] [b] pos) es s (PyData.eqv d1 d2) s2 := et_cmpR (op_eqD hu) (rd_eqD p1.1 p2.1 p1.2 p2.2) ha hb (nomark _)
theorem et_ne (hu : X.A.units + 64 < cLine) (p1 : Pl d1) (p2 : Pl d2) (ha : EV X z a es s d1 s1) (hb : EV X z b es s1 d2 s2) : ET X z (.Compare a [.NotEq] [b] pos) es s (!PyData.eqv d1 d2) s2 := et_cmpR (op_neD hu) (rd_neD p1.1 p2.1 p1.2 p2.2) ha hb (nomark _)
end

/-! ### 3. argument lists, displays, calls -/
def ED (X : Cx) (z : Z) (xs : List Expr) (es : List Sl) (s : S) (ds : List PyData) (s' : S) : Prop := ∀ σ H, En z H σ es → At z H s → ∀ Q : List V → Hp → Prop, (∀ vs H2, Ez z H H2 → At z H2 s' → DaAll z H2 vs ds → Q vs H2) → wA X xs σ H Q
section
variable {X : Cx} {z : Z} {es : List Sl} {s s1 s2 s' : S} {a b c e : Expr} {xs : List Expr} {pos p : Pos} {d d1 d2 : PyData} {ds fs : List PyData} {as : List Sl}
theorem ed_nil : ED X z [] es s [] s := fun σ H en at_ Q q => ⟨tNil, pa_nil, q [] H (.refl H) at_ .nil⟩
theorem ed_cons (ha : EV X z a es s d s1) (hr : ED X z xs es s1 ds s2) (hs : starEach (a :: xs) X.env = (false, eval a X.env) :: starEach xs X.env := by rfl) : ED X z (a :: xs) es s (d :: ds) s2 := fun σ H en at_ Q q =>
  ⟨_, pa_cons wE_ok wA_ok hs, ha σ H en at_ _ fun v H1 e1 a1 v1 => hr σ H1 (en.mono e1) a1 _ fun vs H2 e2 a2 v2 => q (v :: vs) H2 (e1.trans e2) a2 (.cons (v1.mono e2) v2)⟩
theorem ea_nil : EA X z [] es s [] s := fun σ H en at_ Q q => ⟨tNil, pa_nil, q [] H (.refl H) at_ .nil⟩
theorem ea_cons (ha : EV X z a es s d s1) (hr : EA X z xs es s1 as s2) (hs : starEach (a :: xs) X.env = (false, eval a X.env) :: starEach xs X.env := by rfl) : EA X z (a :: xs) es s (.val d :: as) s2 := fun σ H en at_ Q q =>
  ⟨_, pa_cons wE_ok wA_ok hs, ha σ H en at_ _ fun v H1 e1 a1 v1 => hr σ H1 (en.mono e1) a1 _ fun vs H2 e2 a2 v2 => q (v :: vs) H2 (e1.trans e2) a2 (.cons (.val (v1.mono e2)) v2)⟩
/-- the state's list handed on -/
theorem ea_dice (i : Nat) {x : Str} (hr : EA X z xs es s as s2) (h : es[i]? = some .dice := by rfl) (hN : X.N[i]? = some x := by rfl) (hv : Vis X.env.scope x := by first | exact Or.inl rfl | exact Or.inr (Or.inl rfl) | exact Or.inr (Or.inr rfl))
    (hs : starEach ((.Name x pos) :: xs) X.env = (false, eval (.Name x pos) X.env) :: starEach xs X.env := by rfl) (hd : (x == ("__debug__" : Str)) = false := by decide) (hcd : (x == ("__classdict__" : Str)) = false := by decide) : EA X z (.Name x pos :: xs) es s (.dice :: as) s2 := fun σ H en at_ Q q => by
  obtain ⟨a, e1, e2⟩ := en.getD h
  exact ⟨_, pa_cons (pe_var hN hv hd hcd) wA_ok hs, .ref a, e1, hr σ H en at_ _ fun vs H2 k2 a2 v2 => q (.ref a :: vs) H2 k2 a2 (.cons (.dice e2) v2)⟩
theorem ev_tup {k : Nat} (h : ED X z xs es s ds s') (hl : ds.length ≤ 100000 := by exact Nat.le_of_ble_eq_true rfl) : EV X z (.Tuple xs k pos) es s (.tuple ds) s' := .mk (pe_tup wA_ok) fun σ H en at_ Q q =>
  h σ H en at_ _ fun vs H1 e1 a1 v1 => ⟨by rw [v1.length]; exact Nat.le_trans hl (by decide), fun p hp => q _ _ (e1.trans (.new hp)) (a1.new hp) (.tup (a1.fresh hp) upd_same (v1.mono (.new hp)))⟩
theorem ev_lst (h : ED X z xs es s ds s') (hl : ds.length ≤ 100000 := by exact Nat.le_of_ble_eq_true rfl) : EV X z (.List xs pos) es s (.list ds) s' := .mk (pe_lst wA_ok) fun σ H en at_ Q q =>
  h σ H en at_ _ fun vs H1 e1 a1 v1 => ⟨by rw [v1.length]; exact Nat.le_trans hl (by decide), fun p hp => q _ _ (e1.trans (.new hp)) (a1.new hp) (.lst (a1.fresh hp) upd_same (v1.mono (.new hp)))⟩
theorem ev_emptyDict : EV X z (.Dict [] [] pos) es s (.dict []) s := .mk pe_dnewK fun σ H en at_ Q q => fun p hp => q _ _ (.new hp) (at_.new hp) (.dct (at_.fresh hp) upd_same)
/-- a def of the text by what it does to data: from the arguments and the state ahead to the result and the state behind -/
abbrev Rel := List Sl → S → PyData → S → Prop
def spD (R : Rel) : Sp := fun vs H Q _ => ∃ z as s d s', R as s d s' ∧ En z H (vs.map some) as ∧ At z H s ∧ ∀ v H', Ez z H H' → At z H' s' → Da z H' v d → Q v H'
/-- the name x stands for such a def -/
def Dn (P : Program) (w : World) (K : PySem.W.Frag) (mg : Str → Option Value) (base : Heap) (k : Nat) (x : Str) (R : Rel) : Prop :=
  ∃ f fd ps, FnOk P w K mg base CX0 k f fd ps (spD R) ∧ mg x = some (.ref f) ∧ PySem.W.keepIn K (.ref f) = true ∧ Binds K fd ps []
theorem ev_call {k : Nat} {x : Str} {R : Rel} (G : Dn X.prog X.w X.K X.mg X.base k x R) (hr : Room k X.A) (ha : EA X z (e :: xs) es s as s1) (hR : R as s1 d s') (hg : Gl X x := by rfl) (hdb : (x == ("__debug__" : Str)) = false := by decide)
    (he : starEach (e :: xs) X.env = (false, eval e X.env) :: starEach xs X.env := by rfl) (hpl : (backTo pos (starEach xs X.env)).any (·.1) = false := by rfl) : EV X z (.Call (.Name x p) (e :: xs) [] pos) es s d s' := by
  obtain ⟨f, fd, ps, F, hm, hk, hb⟩ := G
  refine .mk (pe_call F hr hg hm hk hb .nil pass0 wA_ok hdb he hpl) fun σ H en at_ Q q => ?_
  refine ha σ H en at_ _ fun vs H1 e1 a1 v1 => ?_
  rw [List.append_nil]
  exact ⟨z, as, s1, d, s', hR, v1, a1, fun v H' e2 a2 v2 => q v H' (e1.trans e2) a2 v2⟩
/-- what a built-in's call does to data -/
def RB (z : Z) (s : S) (r : List V → Hp → VK → Prop) (ds : List PyData) (d : PyData) : Prop := ∀ vs H, At z H s → DaAll z H vs ds → ∀ Q : VK, (∀ v H2, Ez z H H2 → At z H2 s → Da z H2 v d → Q v H2) → r vs H Q
theorem ev_bltn {id : String} {x : Str} {r : List V → Hp → VK → Prop} (hc : CallR X (.builtin id) r) (hr : RB z s1 r ds d) (hm : X.mg x = none) (ha : ED X z (e :: xs) es s ds s1) (hv : bootBuiltins x = some (.builtin id) := by decide +kernel) (hg : Gl X x := by rfl)
    (hn : x ≠ "__name__" := by decide) (hdb : (x == ("__debug__" : Str)) = false := by decide) (he : starEach (e :: xs) X.env = (false, eval e X.env) :: starEach xs X.env := by rfl) (hpl : (backTo pos (starEach xs X.env)).any (·.1) = false := by rfl) : EV X z (.Call (.Name x p) (e :: xs) [] pos) es s d s1 :=
  .mk (pe_callB hc hg hm hv wA_ok hn hdb he hpl) fun σ H en at_ Q q => ha σ H en at_ _ fun vs H1 e1 a1 v1 => hr vs H1 a1 v1 Q fun v H2 e2 a2 v2 => q v H2 (e1.trans e2) a2 v2
theorem ev_bty {T : String} {x : Str} {r : List V → Hp → VK → Prop} (hc : CallR X (.type T) r) (hr : RB z s1 r ds d) (hm : X.mg x = none) (ha : ED X z (e :: xs) es s ds s1) (hv : bootBuiltins x = some (.type T) := by decide +kernel) (hg : Gl X x := by rfl)
    (hn : x ≠ "__name__" := by decide) (hdb : (x == ("__debug__" : Str)) = false := by decide) (he : starEach (e :: xs) X.env = (false, eval e X.env) :: starEach xs X.env := by rfl) (hpl : (backTo pos (starEach xs X.env)).any (·.1) = false := by rfl) : EV X z (.Call (.Name x p) (e :: xs) [] pos) es s d s1 :=
  .mk (pe_callTy hc hg hm hv wA_ok hn hdb he hpl) fun σ H en at_ Q q => ha σ H en at_ _ fun vs H1 e1 a1 v1 => hr vs H1 a1 v1 Q fun v H2 e2 a2 v2 => q v H2 (e1.trans e2) a2 v2
/-- a module's name for a built-in function (math.gcd ..) -/
theorem ev_bfun {id : String} {x : Str} {r : List V → Hp → VK → Prop} (hc : CallR X (.builtin id) r) (hr : RB z s1 r ds d) (hm : X.mg x = some (.builtin id)) (ha : ED X z (e :: xs) es s ds s1) (hg : Gl X x := by rfl)
    (hdb : (x == ("__debug__" : Str)) = false := by decide) (he : starEach (e :: xs) X.env = (false, eval e X.env) :: starEach xs X.env := by rfl) (hpl : (backTo pos (starEach xs X.env)).any (·.1) = false := by rfl) : EV X z (.Call (.Name x p) (e :: xs) [] pos) es s d s1 :=
  .mk (pe_callBfun hc hg hm wA_ok hdb he hpl) fun σ H en at_ Q q => ha σ H en at_ _ fun vs H1 e1 a1 v1 => hr vs H1 a1 v1 Q fun v H2 e2 a2 v2 => q v H2 (e1.trans e2) a2 v2
theorem rb_len : RB z s (fun xs H Q => ∃ x n, xs = [x] ∧ LenV X.K x H n ∧ Q (.int n) H) [.list ds] (.int ds.length) := fun vs H at_ h Q q => by
  cases h with
  | cons h r =>
    cases r
    cases h with
    | lst n e r =>
      refine ⟨_, ds.length, rfl, .inl ⟨_, .inl (.inl e), r.length.symm⟩, q _ H (.refl H) at_ (.int _)⟩
theorem rb_lenT : RB z s (fun xs H Q => ∃ x n, xs = [x] ∧ LenV X.K x H n ∧ Q (.int n) H) [.tuple ds] (.int ds.length) := fun vs H at_ h Q q => by
  cases h with
  | cons h r =>
    cases r
    cases h with
    | tup n e r =>
      refine ⟨_, ds.length, rfl, .inr ⟨_, .inl (.inl e), r.length.symm⟩, q _ H (.refl H) at_ (.int _)⟩
theorem rb_lenS {x : Str} (hl : x.length ≤ sizeLine) : RB z s (fun xs H Q => ∃ x n, xs = [x] ∧ LenV X.K x H n ∧ Q (.int n) H) [.str x] (.int x.length) := fun vs H at_ h Q q => by
  cases h with
  | cons h r =>
    cases r
    cases h
    exact ⟨_, x.length, rfl, ⟨hl, rfl⟩, q _ H (.refl H) at_ (.int _)⟩
theorem rb_int {i : Int} : RB z s (fun xs H Q => (∃ i, xs = [.int i] ∧ Q (.int i) H) ∨ ∃ k, xs = [.bl k] ∧ Q (.int (if k then 1 else 0)) H) [.int i] (.int i) := fun vs H at_ h Q q => by
  cases h with
  | cons h r =>
    cases r
    cases h
    exact .inl ⟨_, rfl, q _ H (.refl H) at_ (.int _)⟩
theorem rb_intB {k : Bool} : RB z s (fun xs H Q => (∃ i, xs = [.int i] ∧ Q (.int i) H) ∨ ∃ k, xs = [.bl k] ∧ Q (.int (if k then 1 else 0)) H) [.bool k] (.int (if k then 1 else 0)) := fun vs H at_ h Q q => by
  cases h with
  | cons h r =>
    cases r
    cases h
    exact .inr ⟨_, rfl, q _ H (.refl H) at_ (.int _)⟩
theorem rb_abs {i : Int} : RB z s (fun xs H Q => ∃ i, xs = [.int i] ∧ Q (.int (if i < 0 then -i else i)) H) [.int i] (.int i.natAbs) := fun vs H at_ h Q q => by
  cases h with
  | cons h r =>
    cases r
    cases h
    refine ⟨_, rfl, ?_⟩
    have e : (if i < 0 then -i else i) = (i.natAbs : Int) := by
      by_cases h : i < 0
      · rw [if_pos h]; omega
      · rw [if_neg h]; omega
    rw [e]
    exact q _ H (.refl H) at_ (.int _)
theorem rb_gcd {i j : Int} : RB z s rGcd [.int i, .int j] (.int (Nat.gcd i.natAbs j.natAbs : Nat)) := fun vs H at_ h Q q => by
  cases h with
  | cons h r =>
    cases h
    cases r with
    | cons h r =>
      cases h
      cases r
      exact ⟨i, j, rfl, q _ H (.refl H) at_ (.int _)⟩
/-- the class of a datum -/
def tyD : PyData → String
  | .none => "NoneType"
  | .bool _ => "bool"
  | .int _ => "int"
  | .str _ => "str"
  | .list _ => "list"
  | .tuple _ => "tuple"
  | .dict _ => "dict"
theorem Da.ty {K : PySem.W.Frag} {H : Hp} {v : V} {d : PyData} (h : Da z H v d) : TyX K H v (.type (tyD d)) := by
  cases h with
  | non => exact .base .non
  | bl b => exact .base (.bl b)
  | int i => exact .base (.int i)
  | str x => exact .base (.str x)
  | dct n e => exact .base (.dK e)
  | lst n e r => exact .base (.lst e)
  | tup n e r => exact .base (.tup e)
theorem pe_ty {x : Str} {T : String} (hm : X.mg x = none) (hv : bootBuiltins x = some (.type T) := by decide +kernel) (hg : Gl X x := by rfl) (hn : x ≠ "__name__" := by decide) (hd : (x == ("__debug__" : Str)) = false := by decide) : PE X (.Name x pos) (tC (.ty T)) :=
  ⟨fun pins s σ H Q I h => ld_blt I hg hm hv ⟨.ty T, H, I, rfl, h⟩ hn hd⟩
theorem ev_isi {x y : Str} {T : String} {k : Bool} (hm : X.mg x = none) (hm2 : X.mg y = none) (he : EV X z e es s d s1) (hk : kitB (tyD d) T = some k) (hx : x = "isinstance" := by rfl) (hv : bootBuiltins x = some (.builtin "isinstance") := by decide +kernel) (hg : Gl X x := by rfl) (hvy : bootBuiltins y = some (.type T) := by decide +kernel) (hgy : Gl X y := by rfl)
    (hn : x ≠ "__name__" := by decide) (hdb : (x == ("__debug__" : Str)) = false := by decide) (hny : y ≠ "__name__" := by decide) (hdy : (y == ("__debug__" : Str)) = false := by decide) (hs : starEach [e, .Name y p] X.env = (false, eval e X.env) :: starEach [.Name y p] X.env := by rfl) (hs2 : starEach [.Name y p] X.env = (false, eval (.Name y p) X.env) :: starEach [] X.env := by rfl) (hpl : (backTo pos (starEach [.Name y p] X.env)).any (·.1) = false := by rfl) {p0 : Pos} :
    EV X z (.Call (.Name x p0) [e, .Name y p] [] pos) es s (.bool k) s1 :=
  .mk (pe_callB call_isi hg hm hv (pa_cons wE_ok (pa_cons (pe_ty hm2 hvy hgy hny hdy) pa_nil hs2) hs) hn hdb hs hpl) fun σ H en at_ Q q => he σ H en at_ _ fun v H1 e1 a1 v1 =>
    ⟨v, .ty T, .type (tyD d), .type T, k, rfl, .ty T, v1.ty, kit_ty hk, q _ H1 e1 a1 (.bl k)⟩
theorem atI_rel {H : Hp} {vs : List V} {i : Int} (h : DaAll z H vs ds) (e : atI ds i = some d) : ∃ v, atI vs i = some v ∧ Da z H v d := by
  unfold atI at e ⊢
  rw [h.length]
  cases hj : ixN ds.length i with
  | none =>
    rw [hj] at e
    cases e
  | some j =>
    rw [hj] at e
    exact h.get j d e
theorem ev_ixL {i : Int} (ha : EV X z a es s (.list ds) s1) (hb : EV X z b es s1 (.int i) s2) (h : atI ds i = some d) (hs : PlainIx b := by intro _ _; rfl) : EV X z (.Subscript a b pos) es s d s2 :=
  .mk (pe_ix ix_list wE_ok wE_ok hs) fun σ H en at_ Q q => ha σ H en at_ _ fun v H1 e1 a1 v1 => hb σ H1 (en.mono e1) a1 _ fun u H2 e2 a2 v2 => by
    cases v2
    cases v1 with
    | lst n e r =>
      obtain ⟨v, k1, k2⟩ := atI_rel (r.mono e2) h
      exact ⟨_, _, i, v, rfl, rfl, .inl (.inl (e2 _ _ n e)), k1, q _ H2 (e1.trans e2) a2 k2⟩
theorem ev_ixT {i : Int} (ha : EV X z a es s (.tuple ds) s1) (hb : EV X z b es s1 (.int i) s2) (h : atI ds i = some d) (hs : PlainIx b := by intro _ _; rfl) : EV X z (.Subscript a b pos) es s d s2 :=
  .mk (pe_ix ix_tup wE_ok wE_ok hs) fun σ H en at_ Q q => ha σ H en at_ _ fun v H1 e1 a1 v1 => hb σ H1 (en.mono e1) a1 _ fun u H2 e2 a2 v2 => by
    cases v2
    cases v1 with
    | tup n e r =>
      obtain ⟨v, k1, k2⟩ := atI_rel (r.mono e2) h
      exact ⟨_, _, i, v, rfl, rfl, .inl (.inl (e2 _ _ n e)), k1, q _ H2 (e1.trans e2) a2 k2⟩

/-! ### conditions -/
theorem ev_ifT (hc : ET X z c es s true s1) (ha : EV X z a es s1 d s2) : EV X z (.IfExp c a b pos) es s d s2 := .mk (pe_ifExp wT_ok wE_ok wE_ok) fun σ H en at_ Q q =>
  hc σ H en at_ _ fun H1 e1 a1 => iteT (ha σ H1 (en.mono e1) a1 _ fun v H2 e2 a2 v2 => q v H2 (e1.trans e2) a2 v2)
theorem ev_ifF (hc : ET X z c es s false s1) (hb : EV X z b es s1 d s2) : EV X z (.IfExp c a b pos) es s d s2 := .mk (pe_ifExp wT_ok wE_ok wE_ok) fun σ H en at_ Q q =>
  hc σ H en at_ _ fun H1 e1 a1 => iteF (hb σ H1 (en.mono e1) a1 _ fun v H2 e2 a2 v2 => q v H2 (e1.trans e2) a2 v2)
theorem ev_andT (ha : EV X z a es s (.bool true) s1) (hb : EV X z (.BoolOp .And (b :: xs) pos) es s1 d s2) : EV X z (.BoolOp .And (a :: b :: xs) pos) es s d s2 := .mk (pe_and wE_ok wE_ok) fun σ H en at_ Q q =>
  ha σ H en at_ _ fun v H1 e1 a1 v1 => by
    cases v1
    exact ⟨true, rfl, iteT (hb σ H1 (en.mono e1) a1 _ fun v H2 e2 a2 v2 => q v H2 (e1.trans e2) a2 v2)⟩
theorem ev_andF (ha : EV X z a es s (.bool false) s1) : EV X z (.BoolOp .And (a :: b :: xs) pos) es s (.bool false) s1 := .mk (pe_and wE_ok wE_ok) fun σ H en at_ Q q =>
  ha σ H en at_ _ fun v H1 e1 a1 v1 => by
    cases v1
    exact ⟨false, rfl, iteF (q _ H1 e1 a1 (.bl false))⟩
theorem ev_orT (ha : EV X z a es s (.bool true) s1) : EV X z (.BoolOp .Or (a :: b :: xs) pos) es s (.bool true) s1 := .mk (pe_or wE_ok wE_ok) fun σ H en at_ Q q =>
  ha σ H en at_ _ fun v H1 e1 a1 v1 => by
    cases v1
    exact ⟨true, rfl, iteT (q _ H1 e1 a1 (.bl true))⟩
theorem ev_orF (ha : EV X z a es s (.bool false) s1) (hb : EV X z (.BoolOp .Or (b :: xs) pos) es s1 d s2) : EV X z (.BoolOp .Or (a :: b :: xs) pos) es s d s2 := .mk (pe_or wE_ok wE_ok) fun σ H en at_ Q q =>
  ha σ H en at_ _ fun v H1 e1 a1 v1 => by
    cases v1
    exact ⟨false, rfl, iteF (hb σ H1 (en.mono e1) a1 _ fun v H2 e2 a2 v2 => q v H2 (e1.trans e2) a2 v2)⟩
theorem ev_b1 {op : PySem.BoolOp} (ha : EV X z a es s d s1) : EV X z (.BoolOp op [a] pos) es s d s1 := .mk (pe_one wE_ok) fun σ H en at_ Q q => ha σ H en at_ Q q
theorem ev_and {k1 k2 : Bool} (ha : EV X z a es s (.bool k1) s) (hb : k1 = true → EV X z (.BoolOp .And (b :: xs) pos) es s (.bool k2) s) : EV X z (.BoolOp .And (a :: b :: xs) pos) es s (.bool (k1 && k2)) s := by
  cases k1 with
  | true => exact ev_andT ha (hb rfl)
  | false => exact ev_andF ha
theorem ev_or {k1 k2 : Bool} (ha : EV X z a es s (.bool k1) s) (hb : k1 = false → EV X z (.BoolOp .Or (b :: xs) pos) es s (.bool k2) s) : EV X z (.BoolOp .Or (a :: b :: xs) pos) es s (.bool (k1 || k2)) s := by
  cases k1 with
  | true => exact ev_orT ha
  | false => exact ev_orF ha (hb rfl)
theorem ev_not {k : Bool} (ha : EV X z a es s (.bool k) s1) : EV X z (.UnaryOp .Not a pos) es s (.bool (!k)) s1 := .mk (pe_not wE_ok) fun σ H en at_ Q q =>
  ha σ H en at_ _ fun v H1 e1 a1 v1 => by
    cases v1
    exact ⟨k, rfl, q _ H1 e1 a1 (.bl _)⟩
theorem et_val {k : Bool} (h : EV X z e es s (.bool k) s1) (he : ∀ whole, isTrue e X.env whole = (do let v ← whole; standAt e.pos; holding [v] (truthy v)) := by intro _; rfl) : ET X z e es s k s1 := fun σ H en at_ Q q =>
  ⟨_, pt_val wE_ok he, h σ H en at_ _ fun v H1 e1 a1 v1 => by
    cases v1
    exact ⟨k, rfl, q H1 e1 a1⟩⟩
theorem et_not {k : Bool} (h : ET X z a es s k s1) : ET X z (.UnaryOp .Not a pos) es s (!k) s1 := fun σ H en at_ Q q => ⟨_, pt_not wT_ok, h σ H en at_ _ fun H1 e1 a1 => q H1 e1 a1⟩
def wW (X : Cx) (e : Expr) : TT := fun σ H Q => ∃ t, PW X e t ∧ t σ H Q
theorem wW_ok : PW X e (wW X e) := ⟨fun whole pins s σ H Q I ⟨_, h, q⟩ => h.run whole pins s σ H Q I q⟩
def EW (X : Cx) (z : Z) (e : Expr) (es : List Sl) (s : S) (b : Bool) (s' : S) : Prop := ∀ σ H, En z H σ es → At z H s → ∀ Q : Bool → Hp → Prop, (∀ H2, Ez z H H2 → At z H2 s' → Q b H2) → wW X e σ H Q
theorem et_w {k : Bool} (h : EW X z e es s k s1) : ET X z e es s k s1 := fun σ H en at_ Q q => ⟨_, PW.pt wW_ok, h σ H en at_ Q q⟩
theorem ew_andT {k : Bool} (ha : ET X z a es s true s1) (hb : EW X z (.BoolOp .And (b :: xs) pos) es s1 k s2) : EW X z (.BoolOp .And (a :: b :: xs) pos) es s k s2 := fun σ H en at_ Q q => ⟨_, pw_and wT_ok wW_ok,
  ha σ H en at_ _ fun H1 e1 a1 => iteT (hb σ H1 (en.mono e1) a1 _ fun H2 e2 a2 => q H2 (e1.trans e2) a2)⟩
theorem ew_andF (ha : ET X z a es s false s1) : EW X z (.BoolOp .And (a :: b :: xs) pos) es s false s1 := fun σ H en at_ Q q => ⟨_, pw_and wT_ok wW_ok, ha σ H en at_ _ fun H1 e1 a1 => iteF (q H1 e1 a1)⟩
theorem ew_orF {k : Bool} (ha : ET X z a es s false s1) (hb : EW X z (.BoolOp .Or (b :: xs) pos) es s1 k s2) : EW X z (.BoolOp .Or (a :: b :: xs) pos) es s k s2 := fun σ H en at_ Q q => ⟨_, pw_or wT_ok wW_ok,
  ha σ H en at_ _ fun H1 e1 a1 => iteF (hb σ H1 (en.mono e1) a1 _ fun H2 e2 a2 => q H2 (e1.trans e2) a2)⟩
theorem ew_orT (ha : ET X z a es s true s1) : EW X z (.BoolOp .Or (a :: b :: xs) pos) es s true s1 := fun σ H en at_ Q q => ⟨_, pw_or wT_ok wW_ok, ha σ H en at_ _ fun H1 e1 a1 => iteT (q H1 e1 a1)⟩
theorem ew_and1 {k : Bool} (ha : ET X z a es s k s1) : EW X z (.BoolOp .And [a] pos) es s k s1 := fun σ H en at_ Q q => ⟨_, pw_and1 wT_ok, ha σ H en at_ Q q⟩
theorem ew_or1 {k : Bool} (ha : ET X z a es s k s1) : EW X z (.BoolOp .Or [a] pos) es s k s1 := fun σ H en at_ Q q => ⟨_, pw_or1 wT_ok, ha σ H en at_ Q q⟩
theorem ew_and {k1 k2 : Bool} (ha : ET X z a es s k1 s) (hb : k1 = true → EW X z (.BoolOp .And (b :: xs) pos) es s k2 s) : EW X z (.BoolOp .And (a :: b :: xs) pos) es s (k1 && k2) s := by
  cases k1 with
  | true => exact ew_andT ha (hb rfl)
  | false => exact ew_andF ha
theorem ew_or {k1 k2 : Bool} (ha : ET X z a es s k1 s) (hb : k1 = false → EW X z (.BoolOp .Or (b :: xs) pos) es s k2 s) : EW X z (.BoolOp .Or (a :: b :: xs) pos) es s (k1 || k2) s := by
  cases k1 with
  | true => exact ew_orT ha
  | false => exact ew_orF ha (hb rfl)
theorem et_chain {i j l : Int} {s3 : S} (ha : EV X z a es s (.int i) s1) (hb : EV X z b es s1 (.int j) s2) (hc : EV X z c es s2 (.int l) s2) (hm : lastMarks [.LtE, .LtE] [b, c] = false := by with_unfolding_all rfl) : EV X z (.Compare a [.LtE, .LtE] [b, c] pos) es s (.bool (decide (i ≤ j) && decide (j ≤ l))) s2 :=
  .mk (pe_chain op_le op_le wE_ok wE_ok wE_ok hm) fun σ H en at_ Q q => ha σ H en at_ _ fun x H1 e1 a1 x1 => hb σ H1 (en.mono e1) a1 _ fun y H2 e2 a2 y2 => by
    cases x1
    cases y2
    refine ⟨i, j, rfl, rfl, decide (i ≤ j), rfl, ?_⟩
    cases hk : decide (i ≤ j) with
    | true =>
      refine iteT (hc σ H2 (en.mono (e1.trans e2)) a2 _ fun w H3 e3 a3 w3 => ?_)
      cases w3
      exact ⟨j, l, rfl, rfl, by rw [hk] at q; exact q _ H3 ((e1.trans e2).trans e3) a3 (.bl _)⟩
    | false => exact iteF (by rw [hk] at q; exact q _ H2 (e1.trans e2) a2 (.bl _))
theorem et_chainLt {i j l : Int} (ha : EV X z a es s (.int i) s1) (hb : EV X z b es s1 (.int j) s2) (hc : EV X z c es s2 (.int l) s2) (hm : lastMarks [.Lt, .Lt] [b, c] = false := by with_unfolding_all rfl) : EV X z (.Compare a [.Lt, .Lt] [b, c] pos) es s (.bool (decide (i < j) && decide (j < l))) s2 :=
  .mk (pe_chain op_lt op_lt wE_ok wE_ok wE_ok hm) fun σ H en at_ Q q => ha σ H en at_ _ fun x H1 e1 a1 x1 => hb σ H1 (en.mono e1) a1 _ fun y H2 e2 a2 y2 => by
    cases x1
    cases y2
    refine ⟨i, j, rfl, rfl, decide (i < j), rfl, ?_⟩
    cases hk : decide (i < j) with
    | true =>
      refine iteT (hc σ H2 (en.mono (e1.trans e2)) a2 _ fun w H3 e3 a3 w3 => ?_)
      cases w3
      exact ⟨j, l, rfl, rfl, by rw [hk] at q; exact q _ H3 ((e1.trans e2).trans e3) a3 (.bl _)⟩
    | false => exact iteF (by rw [hk] at q; exact q _ H2 (e1.trans e2) a2 (.bl _))
end

/-! ### 4. statements -/
inductive Out | nx (es : List Sl) (s : S) | rt (d : PyData) (s : S)
def Meets (z : Z) (H : Hp) (D : Ends) : Out → Prop
  | .nx es s => ∀ σ' H', Ez z H H' → At z H' s → En z H' σ' es → D.nx σ' H'
  | .rt d s => ∀ v H', Ez z H H' → At z H' s → Da z H' v d → D.rt v H'
theorem Meets.mono {z : Z} {H H1 : Hp} {D : Ends} (e : Ez z H H1) : ∀ {o : Out}, Meets z H D o → Meets z H1 D o
  | .nx es s, h => fun σ' H' k a n => h σ' H' (e.trans k) a n
  | .rt d s, h => fun v H' k a n => h v H' (e.trans k) a n
/-- a block: from what the slots hold and the state ahead to how it ends -/
def SR (X : Cx) (z : Z) (st : List Stmt) (es : List Sl) (s : S) (o : Out) : Prop := ∀ σ H, En z H σ es → At z H s → ∀ D : Ends, Meets z H D o → wB X st D σ H
section
variable {X : Cx} {z : Z} {es es1 es2 fs : List Sl} {s s1 s2 s' : S} {a b c e : Expr} {xs : List Expr} {pos p p1 p2 p3 p4 : Pos} {d d1 d2 : PyData} {ds : List PyData} {as : List Sl} {o : Out} {st : Stmt} {rest body els : List Stmt}
theorem sr_nil : SR X z [] es s (.nx es s) := fun σ H en at_ D q => ⟨_, pss_nil, q σ H (.refl H) at_ en⟩
theorem sr_le (h : SR X z body es s (.nx es1 s1)) (l : Le es1 es2) : SR X z body es s (.nx es2 s1) := fun σ H en at_ D q => h σ H en at_ D fun σ' H' k a n => q σ' H' k a (n.le l)
theorem sr_pre (l : Le es fs) (h : SR X z body fs s o) : SR X z body es s o := fun σ H en at_ D q => h σ H (en.le l) at_ D q
theorem sr_is {o' : Out} (h : SR X z body es s o) (q : o = o') : SR X z body es s o' := q ▸ h
theorem sr_ret (h : EV X z e es s d s1) : SR X z (.Return (some e) pos :: rest) es s (.rt d s1) := fun σ H en at_ D q =>
  ⟨_, pss_cons (ps_ret wE_ok) wB_never, h σ H en at_ _ fun v H1 e1 a1 v1 => q v H1 e1 a1 v1⟩
theorem sr_retN : SR X z (.Return none pos :: rest) es s (.rt .none s) := fun σ H en at_ D q =>
  ⟨_, pss_cons ps_retN wB_never, q _ H (.refl H) at_ .non⟩
theorem sr_asg (i : Nat) {x : Str} (hN : X.N.Nodup) (h : EV X z e es s d s1) (k : SR X z rest (es.set i (.val d)) s1 o) (hi : X.N[i]? = some x := by rfl) (hx : Loc X.env.scope x := by first | exact Or.inl rfl | exact Or.inr rfl)
    (hs : swapsWith e (some (.Name x p)) pos.line X.env = pure false := by rfl) (hf : X.fn x = true ∨ X.env.scope.names.lookup x = some .local := by first | exact .inl rfl | exact .inr rfl) : SR X z (.Assign [.Name x p] e pos :: rest) es s o := fun σ H en at_ D q =>
  ⟨_, pss_cons (ps_set hN hi hx wE_ok hs hf) wB_ok, h σ H en at_ _ fun v H1 e1 a1 v1 => k _ H1 ((en.mono e1).set i (.val v1)) a1 D (q.mono e1)⟩
theorem sr_expr (h : EV X z e es s d s1) (k : SR X z rest es s1 o) (hs : swapsWith e none pos.line X.env = pure false := by rfl) : SR X z (.Expr e pos :: rest) es s o := fun σ H en at_ D q =>
  ⟨_, pss_cons (ps_expr wE_ok hs) wB_ok, h σ H en at_ _ fun v H1 e1 a1 v1 => k _ H1 (en.mono e1) a1 D (q.mono e1)⟩
/-- x, y = e1, e2 -/
theorem sr_par (i j : Nat) {x y : Str} {kt k2 : Nat} (hc : X.calm = true) (hN : X.N.Nodup) (h : ED X z [a, b] es s [d1, d2] s1) (k : SR X z rest ((es.set i (.val d1)).set j (.val d2)) s1 o)
    (hi : X.N[i]? = some x := by rfl) (hj : X.N[j]? = some y := by rfl) (hij : i ≠ j := by decide) (hx : X.env.scope.names.lookup x = some .local := by rfl) (hy : X.env.scope.names.lookup y = some .local := by rfl)
    (hw : swappedStores [.Tuple [.Name x p1, .Name y p2] kt p3] (.Tuple [a, b] k2 p4) X.env = pure (some [x, y]) := by rfl) (hs : swapsWithSole [.Tuple [.Name x p1, .Name y p2] kt p3] (.Tuple [a, b] k2 p4) pos.line X.env = pure false := by rfl) :
    SR X z (.Assign [.Tuple [.Name x p1, .Name y p2] kt p3] (.Tuple [a, b] k2 p4) pos :: rest) es s o := fun σ H en at_ D q =>
  ⟨_, pss_cons (ps_par hc hN hi hj hij hx hy wA_ok hw hs) wB_ok, h σ H en at_ _ fun vs H1 e1 a1 v1 => by
    cases v1 with
    | cons h1 r =>
      cases r with
      | cons h2 r =>
        cases r
        exact ⟨_, _, rfl, k _ H1 (((en.mono e1).set i (.val h1)).set j (.val h2)) a1 D (q.mono e1)⟩⟩
/-- x, y = e, e a tuple -/
theorem sr_unp2 (i j : Nat) {x y : Str} {kt : Nat} (hc : X.calm = true) (hN : X.N.Nodup) (h : EV X z e es s (.tuple [d1, d2]) s1) (k : SR X z rest ((es.set i (.val d1)).set j (.val d2)) s1 o)
    (hi : X.N[i]? = some x := by rfl) (hj : X.N[j]? = some y := by rfl) (hx : Loc X.env.scope x := by first | exact Or.inl rfl | exact Or.inr rfl) (hy : Loc X.env.scope y := by first | exact Or.inl rfl | exact Or.inr rfl)
    (fx : X.fn x = true ∨ X.env.scope.names.lookup x = some .local := by first | exact .inl rfl | exact .inr rfl) (fy : X.fn y = true ∨ X.env.scope.names.lookup y = some .local := by first | exact .inl rfl | exact .inr rfl)
    (hs : swapsWithSole [.Tuple [.Name x p1, .Name y p2] kt p3] e pos.line X.env = pure false := by rfl) (hw : swappedStores [.Tuple [.Name x p1, .Name y p2] kt p3] e X.env = pure none := by rfl) 
    (hn : (assignEach [.Name x p1, .Name y p2] X.env).length = 2 := by rfl) (hst : (assignEach [.Name x p1, .Name y p2] X.env).findIdx? (·.1) = none := by rfl)
    (h1 : (assignEach (.Name x p1 :: [.Name y p2]) X.env).map (·.2) = assign (.Name x p1) X.env :: (assignEach [.Name y p2] X.env).map (·.2) := by rfl) (h2 : (assignEach (.Name y p2 :: []) X.env).map (·.2) = assign (.Name y p2) X.env :: (assignEach [] X.env).map (·.2) := by rfl) :
    SR X z (.Assign [.Tuple [.Name x p1, .Name y p2] kt p3] e pos :: rest) es s o := fun σ H en at_ D q =>
  ⟨_, pss_cons (ps_asg wE_ok (pg_tup hc (pgs_cons (pg_name hN hi hx fx) (pgs_cons (pg_name hN hj hy fy) pgs_nil h2) h1) hn hst) hs hw) wB_ok, h σ H en at_ _ fun v H1 e1 a1 v1 => by
    cases v1 with
    | tup n e r =>
      cases r with
      | cons v1 r =>
        cases r with
        | cons v2 r =>
          cases r
          exact ⟨_, _, rfl, .inl (.inl e), rfl, _, _, rfl, _, _, rfl, rfl, k _ H1 (((en.mono e1).set i (.val v1)).set j (.val v2)) a1 D (q.mono e1)⟩⟩
theorem sr_unp3 (i j l : Nat) {x y w : Str} {kt : Nat} {d3 : PyData} {p5 : Pos} (hc : X.calm = true) (hN : X.N.Nodup) (h : EV X z e es s (.tuple [d1, d2, d3]) s1) (k : SR X z rest (((es.set i (.val d1)).set j (.val d2)).set l (.val d3)) s1 o)
    (hi : X.N[i]? = some x := by rfl) (hj : X.N[j]? = some y := by rfl) (hl : X.N[l]? = some w := by rfl) (hx : Loc X.env.scope x := by first | exact Or.inl rfl | exact Or.inr rfl) (hy : Loc X.env.scope y := by first | exact Or.inl rfl | exact Or.inr rfl) (hw' : Loc X.env.scope w := by first | exact Or.inl rfl | exact Or.inr rfl)
    (fx : X.fn x = true ∨ X.env.scope.names.lookup x = some .local := by first | exact .inl rfl | exact .inr rfl) (fy : X.fn y = true ∨ X.env.scope.names.lookup y = some .local := by first | exact .inl rfl | exact .inr rfl) (fw : X.fn w = true ∨ X.env.scope.names.lookup w = some .local := by first | exact .inl rfl | exact .inr rfl)
    (hs : swapsWithSole [.Tuple [.Name x p1, .Name y p2, .Name w p5] kt p3] e pos.line X.env = pure false := by rfl) (hw : swappedStores [.Tuple [.Name x p1, .Name y p2, .Name w p5] kt p3] e X.env = pure none := by rfl) 
    (hn : (assignEach [.Name x p1, .Name y p2, .Name w p5] X.env).length = 3 := by rfl) (hst : (assignEach [.Name x p1, .Name y p2, .Name w p5] X.env).findIdx? (·.1) = none := by rfl)
    (h1 : (assignEach (.Name x p1 :: [.Name y p2, .Name w p5]) X.env).map (·.2) = assign (.Name x p1) X.env :: (assignEach [.Name y p2, .Name w p5] X.env).map (·.2) := by rfl) (h2 : (assignEach (.Name y p2 :: [.Name w p5]) X.env).map (·.2) = assign (.Name y p2) X.env :: (assignEach [.Name w p5] X.env).map (·.2) := by rfl)
    (h3 : (assignEach (.Name w p5 :: []) X.env).map (·.2) = assign (.Name w p5) X.env :: (assignEach [] X.env).map (·.2) := by rfl) :
    SR X z (.Assign [.Tuple [.Name x p1, .Name y p2, .Name w p5] kt p3] e pos :: rest) es s o := fun σ H en at_ D q =>
  ⟨_, pss_cons (ps_asg wE_ok (pg_tup hc (pgs_cons (pg_name hN hi hx fx) (pgs_cons (pg_name hN hj hy fy) (pgs_cons (pg_name hN hl hw' fw) pgs_nil h3) h2) h1) hn hst) hs hw) wB_ok, h σ H en at_ _ fun v H1 e1 a1 v1 => by
    cases v1 with
    | tup n e r =>
      cases r with
      | cons v1 r =>
        cases r with
        | cons v2 r =>
          cases r with
          | cons v3 r =>
            cases r
            exact ⟨_, _, rfl, .inl (.inl e), rfl, _, _, rfl, _, _, rfl, _, _, rfl, rfl, k _ H1 ((((en.mono e1).set i (.val v1)).set j (.val v2)).set l (.val v3)) a1 D (q.mono e1)⟩⟩
theorem sr_unp4 (i j l m : Nat) {x y w u : Str} {kt : Nat} {d3 d4 : PyData} {p5 p6 : Pos} (hc : X.calm = true) (hN : X.N.Nodup) (h : EV X z e es s (.tuple [d1, d2, d3, d4]) s1) (k : SR X z rest ((((es.set i (.val d1)).set j (.val d2)).set l (.val d3)).set m (.val d4)) s1 o)
    (hi : X.N[i]? = some x := by rfl) (hj : X.N[j]? = some y := by rfl) (hl : X.N[l]? = some w := by rfl) (hm : X.N[m]? = some u := by rfl) (hx : Loc X.env.scope x := by first | exact Or.inl rfl | exact Or.inr rfl) (hy : Loc X.env.scope y := by first | exact Or.inl rfl | exact Or.inr rfl) (hw' : Loc X.env.scope w := by first | exact Or.inl rfl | exact Or.inr rfl) (hu : Loc X.env.scope u := by first | exact Or.inl rfl | exact Or.inr rfl)
    (fx : X.fn x = true ∨ X.env.scope.names.lookup x = some .local := by first | exact .inl rfl | exact .inr rfl) (fy : X.fn y = true ∨ X.env.scope.names.lookup y = some .local := by first | exact .inl rfl | exact .inr rfl) (fw : X.fn w = true ∨ X.env.scope.names.lookup w = some .local := by first | exact .inl rfl | exact .inr rfl) (fu : X.fn u = true ∨ X.env.scope.names.lookup u = some .local := by first | exact .inl rfl | exact .inr rfl)
    (hs : swapsWithSole [.Tuple [.Name x p1, .Name y p2, .Name w p5, .Name u p6] kt p3] e pos.line X.env = pure false := by rfl) (hw : swappedStores [.Tuple [.Name x p1, .Name y p2, .Name w p5, .Name u p6] kt p3] e X.env = pure none := by rfl) 
    (hn : (assignEach [.Name x p1, .Name y p2, .Name w p5, .Name u p6] X.env).length = 4 := by rfl) (hst : (assignEach [.Name x p1, .Name y p2, .Name w p5, .Name u p6] X.env).findIdx? (·.1) = none := by rfl)
    (h1 : (assignEach (.Name x p1 :: [.Name y p2, .Name w p5, .Name u p6]) X.env).map (·.2) = assign (.Name x p1) X.env :: (assignEach [.Name y p2, .Name w p5, .Name u p6] X.env).map (·.2) := by rfl) (h2 : (assignEach (.Name y p2 :: [.Name w p5, .Name u p6]) X.env).map (·.2) = assign (.Name y p2) X.env :: (assignEach [.Name w p5, .Name u p6] X.env).map (·.2) := by rfl)
    (h3 : (assignEach (.Name w p5 :: [.Name u p6]) X.env).map (·.2) = assign (.Name w p5) X.env :: (assignEach [.Name u p6] X.env).map (·.2) := by rfl) (h4 : (assignEach (.Name u p6 :: []) X.env).map (·.2) = assign (.Name u p6) X.env :: (assignEach [] X.env).map (·.2) := by rfl) :
    SR X z (.Assign [.Tuple [.Name x p1, .Name y p2, .Name w p5, .Name u p6] kt p3] e pos :: rest) es s o := fun σ H en at_ D q =>
  ⟨_, pss_cons (ps_asg wE_ok (pg_tup hc (pgs_cons (pg_name hN hi hx fx) (pgs_cons (pg_name hN hj hy fy) (pgs_cons (pg_name hN hl hw' fw) (pgs_cons (pg_name hN hm hu fu) pgs_nil h4) h3) h2) h1) hn hst) hs hw) wB_ok, h σ H en at_ _ fun v H1 e1 a1 v1 => by
    cases v1 with
    | tup n e r =>
      cases r with
      | cons v1 r =>
        cases r with
        | cons v2 r =>
          cases r with
          | cons v3 r =>
            cases r with
            | cons v4 r =>
              cases r
              exact ⟨_, _, rfl, .inl (.inl e), rfl, _, _, rfl, _, _, rfl, _, _, rfl, _, _, rfl, rfl, k _ H1 (((((en.mono e1).set i (.val v1)).set j (.val v2)).set l (.val v3)).set m (.val v4)) a1 D (q.mono e1)⟩⟩
/-- if: the branch returns | goes on -/
theorem sr_ifT (hc : ET X z c es s true s1) (h : SR X z body es s1 (.rt d s2)) : SR X z (.If c body els pos :: rest) es s (.rt d s2) := fun σ H en at_ D q =>
  ⟨_, pss_cons (ps_if wT_ok wB_ok wB_never) wB_never, hc σ H en at_ _ fun H1 e1 a1 => iteT (h σ H1 (en.mono e1) a1 _ fun v H2 e2 a2 v2 => q v H2 (e1.trans e2) a2 v2)⟩
theorem sr_ifTn (hc : ET X z c es s true s1) (h : SR X z body es s1 (.nx es2 s2)) (k : SR X z rest es2 s2 o) : SR X z (.If c body els pos :: rest) es s o := fun σ H en at_ D q =>
  ⟨_, pss_cons (ps_if wT_ok wB_ok wB_never) wB_ok, hc σ H en at_ _ fun H1 e1 a1 => iteT (h σ H1 (en.mono e1) a1 _ fun σ' H2 e2 a2 n2 => k σ' H2 n2 a2 D (q.mono (e1.trans e2)))⟩
theorem sr_ifF (hc : ET X z c es s false s1) (k : SR X z rest es s1 o) : SR X z (.If c body [] pos :: rest) es s o := fun σ H en at_ D q =>
  ⟨_, pss_cons (ps_if wT_ok wB_never pss_nil) wB_ok, hc σ H en at_ _ fun H1 e1 a1 => iteF (k σ H1 (en.mono e1) a1 D (q.mono e1))⟩
theorem sr_elF (hc : ET X z c es s false s1) (h : SR X z els es s1 (.rt d s2)) : SR X z (.If c body els pos :: rest) es s (.rt d s2) := fun σ H en at_ D q =>
  ⟨_, pss_cons (ps_if wT_ok wB_never wB_ok) wB_never, hc σ H en at_ _ fun H1 e1 a1 => iteF (h σ H1 (en.mono e1) a1 _ fun v H2 e2 a2 v2 => q v H2 (e1.trans e2) a2 v2)⟩
theorem sr_elFn (hc : ET X z c es s false s1) (h : SR X z els es s1 (.nx es2 s2)) (k : SR X z rest es2 s2 o) : SR X z (.If c body els pos :: rest) es s o := fun σ H en at_ D q =>
  ⟨_, pss_cons (ps_if wT_ok wB_never wB_ok) wB_ok, hc σ H en at_ _ fun H1 e1 a1 => iteF (h σ H1 (en.mono e1) a1 _ fun σ' H2 e2 a2 n2 => k σ' H2 n2 a2 D (q.mono (e1.trans e2)))⟩
/-- the state's list read and written by place -/
def comp (s : S) : Nat → Int
  | 0 => s.1
  | 1 => s.2.1
  | _ => s.2.2
def putc (s : S) (k : Nat) (i : Int) : S := match k with
  | 0 => (i, s.2.1, s.2.2)
  | 1 => (s.1, i, s.2.2)
  | _ => (s.1, s.2.1, i)
theorem ev_dice (i k : Nat) {x : Str} {j} (hk : k < 3 := by decide) (h : es[i]? = some .dice := by rfl) (hN : X.N[i]? = some x := by rfl) (hv : Vis X.env.scope x := by first | exact Or.inl rfl | exact Or.inr (Or.inl rfl) | exact Or.inr (Or.inr rfl))
    (hd : (x == ("__debug__" : Str)) = false := by decide) (hcd : (x == ("__classdict__" : Str)) = false := by decide) : EV X z (.Subscript (.Name x p) (.Constant (.int (k : Int)) j p2) pos) es s (.int (comp s k)) s :=
  .mk (pe_ix ix_list (pe_var hN hv hd hcd) pe_int (by intro _ _; rfl)) fun σ H en at_ Q q => by
    obtain ⟨a, e1, e2⟩ := en.getD h
    refine ⟨_, e1, a, _, (k : Int), .int (comp s k), rfl, rfl, .inl (.inl (at_.d a e2)), ?_, q _ H (.refl H) at_ (.int _)⟩
    match k, hk with
    | 0, _ => exact atI_nat (j := 0) rfl
    | 1, _ => exact atI_nat (j := 1) rfl
    | 2, _ => exact atI_nat (j := 2) rfl
theorem sr_put (i k : Nat) {x : Str} {j} {n : Int} (h : EV X z e es s (.int n) s1) (kk : SR X z rest es (putc s1 k n) o) (hk : k < 3 := by decide) (hi : es[i]? = some .dice := by rfl) (hN : X.N[i]? = some x := by rfl) (hv : Vis X.env.scope x := by first | exact Or.inl rfl | exact Or.inr (Or.inl rfl) | exact Or.inr (Or.inr rfl))
    (hd : (x == ("__debug__" : Str)) = false := by decide) (hcd : (x == ("__classdict__" : Str)) = false := by decide)
    (hs : swapsWithSole [.Subscript (.Name x p) (.Constant (.int (k : Int)) j p2) p3] e pos.line X.env = pure false := by rfl) (hw : swappedStores [.Subscript (.Name x p) (.Constant (.int (k : Int)) j p2) p3] e X.env = pure none := by rfl) :
    SR X z (.Assign [.Subscript (.Name x p) (.Constant (.int (k : Int)) j p2) p3] e pos :: rest) es s o := fun σ H en at_ D q =>
  ⟨_, pss_cons (ps_asg wE_ok (pg_sub (pe_var hN hv hd hcd) pe_int set_list) hs hw) wB_ok, h σ H en at_ _ fun v H1 e1 a1 v1 => by
    cases v1
    obtain ⟨a, k1, k2⟩ := en.getD hi
    have hE : Ez z H1 (upd H1 a (dv (putc s1 k n))) := .set k2
    have go : wB X rest D σ (upd H1 a (dv (putc s1 k n))) := kk σ _ ((en.mono e1).mono hE) (a1.set k2) D (q.mono (e1.trans hE))
    refine ⟨_, k1, a, _, (k : Int), k, rfl, rfl, a1.d a k2, ?_, ?_⟩
    · match k, hk with
      | 0, _ => rfl
      | 1, _ => rfl
      | 2, _ => rfl
    · match k, hk, go with
      | 0, _, go => exact go
      | 1, _, go => exact go
      | 2, _, go => exact go⟩

/-! ### loops -/
theorem sr_for1 (l : Nat) {x : Str} {n : Int} (hp : PassesOwn (model X.prog X.w) X.A X.env X.xe) (hc : X.calm = true) (hN : X.N.Nodup) (hm : X.mg "range" = none) (h : ED X z [a] es s [.int n] s1) (hn : n < 2 ^ 60) (hn0 : -(2 ^ 60) < n) (E : Nat → List Sl) (T : Nat → S) (h0 : Le es (E 0)) (t0 : T 0 = s1)
    (hb : ∀ i : Nat, (i : Int) < n → SR X z body ((E i).set l (.val (.int (i : Int)))) (T i) (.nx (E (i + 1)) (T (i + 1)))) (k : SR X z rest (E n.toNat) (T n.toNat) o)
    (hi : X.N[l]? = some x := by rfl) (hx : Loc X.env.scope x := by first | exact Or.inl rfl | exact Or.inr rfl) (hg : Gl X "range" := by rfl) (hs : starEach [a] X.env = [(false, eval a X.env)] := by rfl)
    (hf : X.fn x = true ∨ X.env.scope.names.lookup x = some .local := by first | exact .inl rfl | exact .inr rfl) (hfo : ∀ x, foldedSetIterable (.Call (.Name "range" p2) [a] [] p3) X.env x = pure x := by intro _; rfl) :
    SR X z (.For (.Name x p) (.Call (.Name "range" p2) [a] [] p3) body [] pos :: rest) es s o := fun σ H en at_ D q =>
  ⟨_, pss_cons (ps_for hp hc (pi_range1 hg hm wA_ok hs) (pg_name hN hi hx hf) wB_ok hfo) wB_ok, h σ H en at_ _ fun vs H1 e1 a1 v1 => by
    cases v1 with
    | cons v1 r =>
      cases r
      cases v1
      refine ⟨n, rfl, by omega, by omega, for_range (lo := 0) (n := n.toNat) (fun i σ' H' => Ez z H H' ∧ At z H' (T i) ∧ En z H' σ' (E i)) ⟨e1, t0 ▸ a1, (en.mono e1).le h0⟩ (fun i σ' H' hi w => ?_) fun σ' H' w => k σ' H' w.2.2 w.2.1 D (q.mono w.1)⟩
      have e0 : (0 : Int) + (i : Int) = (i : Int) := Int.zero_add _
      show wB X body _ (σ'.set l (some (.int ((0 : Int) + (i : Int))))) H'
      rw [e0]
      exact hb i (by omega) _ H' (w.2.2.set l (.val (.int _))) w.2.1 _ fun σ2 H2 e2 a2 n2 => ⟨w.1.trans e2, a2, n2⟩⟩
theorem sr_for2 (l : Nat) {x : Str} {lo n : Int} (hp : PassesOwn (model X.prog X.w) X.A X.env X.xe) (hc : X.calm = true) (hN : X.N.Nodup) (hm : X.mg "range" = none) (h : ED X z [a, b] es s [.int lo, .int n] s1) (hl : -(2 ^ 60) < lo ∧ lo < 2 ^ 60) (hn : n < 2 ^ 60) (hn0 : -(2 ^ 60) < n) (E : Nat → List Sl) (T : Nat → S) (h0 : Le es (E 0)) (t0 : T 0 = s1)
    (hb : ∀ i : Nat, lo + (i : Int) < n → SR X z body ((E i).set l (.val (.int (lo + (i : Int))))) (T i) (.nx (E (i + 1)) (T (i + 1)))) (k : SR X z rest (E (n - lo).toNat) (T (n - lo).toNat) o)
    (hi : X.N[l]? = some x := by rfl) (hx : Loc X.env.scope x := by first | exact Or.inl rfl | exact Or.inr rfl) (hg : Gl X "range" := by rfl) (hs : starEach [a, b] X.env = [(false, eval a X.env), (false, eval b X.env)] := by rfl) (hs2 : starEach [b] X.env = [(false, eval b X.env)] := by rfl)
    (hf : X.fn x = true ∨ X.env.scope.names.lookup x = some .local := by first | exact .inl rfl | exact .inr rfl) (hfo : ∀ x, foldedSetIterable (.Call (.Name "range" p2) [a, b] [] p3) X.env x = pure x := by intro _; rfl) :
    SR X z (.For (.Name x p) (.Call (.Name "range" p2) [a, b] [] p3) body [] pos :: rest) es s o := fun σ H en at_ D q =>
  ⟨_, pss_cons (ps_for hp hc (pi_range2 hg hm wA_ok hs hs2) (pg_name hN hi hx hf) wB_ok hfo) wB_ok, h σ H en at_ _ fun vs H1 e1 a1 v1 => by
    cases v1 with
    | cons v1 r =>
      cases v1
      cases r with
      | cons v1 r =>
        cases v1
        cases r
        refine ⟨lo, n, rfl, by omega, for_range (lo := lo) (n := (n - lo).toNat) (fun i σ' H' => Ez z H H' ∧ At z H' (T i) ∧ En z H' σ' (E i)) ⟨e1, t0 ▸ a1, (en.mono e1).le h0⟩ (fun i σ' H' hi w => ?_) fun σ' H' w => k σ' H' w.2.2 w.2.1 D (q.mono w.1)⟩
        exact hb i (by omega) _ H' (w.2.2.set l (.val (.int _))) w.2.1 _ fun σ2 H2 e2 a2 n2 => ⟨w.1.trans e2, a2, n2⟩⟩
theorem sr_while (hp : PassesOwn (model X.prog X.w) X.A X.env X.xe) (E : Nat → List Sl) (T : Nat → S) (n : Nat) (h0 : Le es (E 0)) (t0 : T 0 = s) (hc : ∀ i, i < n → ET X z c (E i) (T i) true (T i)) (hb : ∀ i, i < n → SR X z body (E i) (T i) (.nx (E (i + 1)) (T (i + 1))))
    (hz : ET X z c (E n) (T n) false (T n)) (k : SR X z rest (E n) (T n) o) : SR X z (.While c body [] pos :: rest) es s o := fun σ H en at_ D q =>
  ⟨_, pss_cons (ps_while hp wT_ok wB_ok) wB_ok, fun m σ' H' => ∃ i, i ≤ n ∧ m = n - i ∧ Ez z H H' ∧ At z H' (T i) ∧ En z H' σ' (E i), ⟨n, 0, Nat.zero_le _, rfl, .refl H, t0 ▸ at_, en.le h0⟩, fun m σ' H' w => by
    obtain ⟨i, hi, rfl, e1, a1, n1⟩ := w
    by_cases hl : i < n
    · refine hc i hl σ' H' n1 a1 _ fun H1 e2 a2 => iteT ⟨fun σ2 H2 => Ez z H H2 ∧ At z H2 (T (i + 1)) ∧ En z H2 σ2 (E (i + 1)), fun σ2 H2 w => ⟨n - (i + 1), by omega, i + 1, hl, rfl, w.1, w.2.1, w.2.2⟩, ?_⟩
      exact hb i hl σ' H1 (n1.mono e2) a2 _ fun σ2 H2 e3 a3 n3 => ⟨(e1.trans e2).trans e3, a3, n3⟩
    · have : i = n := by omega
      subst this
      exact hz σ' H' n1 a1 _ fun H1 e2 a2 => iteF (k σ' H1 (n1.mono e2) a2 D (q.mono (e1.trans e2)))⟩
end

/-! ### 5. a def by its block -/
section
variable {P : Program} {w : World} {K : PySem.W.Frag} {mg : Str → Option Value} {base : Heap}
/-- what stands around a def's body -/
structure Ctx (X : Cx) (k : Nat) (N : List Str) : Prop where
  nd : X.N.Nodup
  calm : X.calm = true
  hp : PassesOwn (model X.prog X.w) X.A X.env X.xe
  hr : Room k X.A
  hu : X.A.units + 64 < cLine
theorem okD {x qual : Str} {st : Stmt} {f : Addr} {fd : FuncData} {N ps : List Str} {k : Nat} {R : Rel} (F : Fun K x qual st f fd) (Sc : FnScope N ps (defScope st)) (hl : ∀ as s d s', R as s d s' → as.length = ps.length)
    (hb : ∀ cdv A outer s0 H0 E, Ctx (cxOf CX0 P w K mg base N qual (defScope st) f cdv A outer s0 H0 E).nox k N → ∀ z as s d s', R as s d s' → SR (cxOf CX0 P w K mg base N qual (defScope st) f cdv A outer s0 H0 E).nox z (defBody st) (as ++ List.replicate (N.length - as.length) .un) s (.rt d s')) :
    FnOk P w K mg base CX0 (k + 1) f fd ps (spD R) := by
  refine F.ok Sc (fun vs H Q E h => ?_) (fun cdv A outer s0 H0 vs Q E hr h => ?_)
  · obtain ⟨z, as, s, d, s', hR, en, _⟩ := h
    have := en.length
    rw [List.length_map] at this
    rw [this]
    exact hl _ _ _ _ hR
  · obtain ⟨z, as, s, d, s', hR, en, at_, q⟩ := h
    have e1 : vs.length = as.length := by
      have := en.length
      rwa [List.length_map] at this
    have C : Ctx (cxOf CX0 P w K mg base N qual (defScope st) f cdv A outer s0 H0 E).nox k N := ⟨Sc.nd, rfl, PassesOwn.never, hr, hr.units⟩
    have g := hb cdv A outer s0 H0 E C z as s d s' hR (L2.start N vs) H0 (by
      unfold L2.start
      rw [e1]
      exact en.app (.uns _)) at_ { nx := fun _ H' => Q .non H', rt := Q } (fun v H' e a n => q v H' e a n)
    exact ⟨_, wB_ok, g⟩
theorem dn_of {x qual : Str} {st : Stmt} {f : Addr} {fd : FuncData} {ps : List Str} {k : Nat} {R : Rel} (F : Fun K x qual st f fd) (O : FnOk P w K mg base CX0 k f fd ps (spD R)) (hm : mg x = some (.ref f)) (hb : Binds K fd ps []) : Dn P w K mg base k x R := ⟨f, fd, ps, O, hm, F.kp, hb⟩
end

/-! ### 6. more -/
section
variable {X : Cx} {z : Z} {es es1 es2 fs : List Sl} {s s1 s2 s' : S} {a b c e : Expr} {xs : List Expr} {pos p p1 p2 p3 p4 : Pos} {d d1 d2 : PyData} {ds : List PyData} {as : List Sl} {o : Out} {st : Stmt} {rest body els : List Stmt}
theorem et_notT (h : ET X z a es s false s1) : ET X z (.UnaryOp .Not a pos) es s true s1 := et_not h
theorem et_notF (h : ET X z a es s true s1) : ET X z (.UnaryOp .Not a pos) es s false s1 := et_not h
theorem pl_int {i : Int} : Pl (.int i) := ⟨rfl, rfl⟩
theorem et_eqI {i j : Int} (hu : X.A.units + 64 < cLine) (ha : EV X z a es s (.int i) s1) (hb : EV X z b es s1 (.int j) s2) : ET X z (.Compare a [.Eq] [b] pos) es s (decide (i = j)) s2 :=
  ET.is (et_eq hu pl_int pl_int ha hb) rfl
theorem et_neI {i j : Int} (hu : X.A.units + 64 < cLine) (ha : EV X z a es s (.int i) s1) (hb : EV X z b es s1 (.int j) s2) : ET X z (.Compare a [.NotEq] [b] pos) es s (!decide (i = j)) s2 :=
  ET.is (et_ne hu pl_int pl_int ha hb) rfl
theorem ev_eqI {i j : Int} (hu : X.A.units + 64 < cLine) (ha : EV X z a es s (.int i) s1) (hb : EV X z b es s1 (.int j) s2) : EV X z (.Compare a [.Eq] [b] pos) es s (.bool (decide (i = j))) s2 :=
  EV.is (ev_eq hu pl_int pl_int ha hb) rfl
end
section
variable {P : Program} {w : World} {K : PySem.W.Frag} {mg : Str → Option Value} {base : Heap}
/-- a def whose block ends without a return -/
theorem okN {x qual : Str} {st : Stmt} {f : Addr} {fd : FuncData} {N ps : List Str} {k : Nat} {R : Rel} (F : Fun K x qual st f fd) (Sc : FnScope N ps (defScope st)) (hl : ∀ as s d s', R as s d s' → as.length = ps.length)
    (hb : ∀ cdv A outer s0 H0 E, Ctx (cxOf CX0 P w K mg base N qual (defScope st) f cdv A outer s0 H0 E).nox k N → ∀ z as s d s', R as s d s' → d = .none ∧ ∃ es', SR (cxOf CX0 P w K mg base N qual (defScope st) f cdv A outer s0 H0 E).nox z (defBody st) (as ++ List.replicate (N.length - as.length) .un) s (.nx es' s')) :
    FnOk P w K mg base CX0 (k + 1) f fd ps (spD R) := by
  refine F.ok Sc (fun vs H Q E h => ?_) (fun cdv A outer s0 H0 vs Q E hr h => ?_)
  · obtain ⟨z, as, s, d, s', hR, en, _⟩ := h
    have := en.length
    rw [List.length_map] at this
    rw [this]
    exact hl _ _ _ _ hR
  · obtain ⟨z, as, s, d, s', hR, en, at_, q⟩ := h
    have e1 : vs.length = as.length := by
      have := en.length
      rwa [List.length_map] at this
    have C : Ctx (cxOf CX0 P w K mg base N qual (defScope st) f cdv A outer s0 H0 E).nox k N := ⟨Sc.nd, rfl, PassesOwn.never, hr, hr.units⟩
    obtain ⟨rfl, es', hb'⟩ := hb cdv A outer s0 H0 E C z as s d s' hR
    have g := hb' (L2.start N vs) H0 (by
      unfold L2.start
      rw [e1]
      exact en.app (.uns _)) at_ { nx := fun _ H' => Q .non H', rt := Q } (fun σ' H' e a n => q .non H' e a .non)
    exact ⟨_, wB_ok, g⟩
end

/-! ### 7. while by a word; isqrt, comb; texts -/
section
variable {X : Cx} {z : Z} {es es1 es2 fs : List Sl} {s s1 s2 s' : S} {a b c e : Expr} {xs : List Expr} {pos p p1 p2 p3 p4 apos : Pos} {d d1 d2 : PyData} {ds : List PyData} {as : List Sl} {o : Out} {st : Stmt} {rest body els : List Stmt}
theorem sr_whileW (hp : PassesOwn (model X.prog X.w) X.A X.env X.xe) (W : Nat → List Sl → S → Prop) {m0 : Nat} (h0 : W m0 es s)
    (hs : ∀ m es s, W m es s → (ET X z c es s false s ∧ SR X z rest es s o) ∨ (ET X z c es s true s ∧ ∃ es' s' m', m' < m ∧ W m' es' s' ∧ SR X z body es s (.nx es' s'))) : SR X z (.While c body [] pos :: rest) es s o := fun σ H en at_ D q =>
  ⟨_, pss_cons (ps_while hp wT_ok wB_ok) wB_ok, fun m σ' H' => ∃ es' s', W m es' s' ∧ Ez z H H' ∧ At z H' s' ∧ En z H' σ' es', ⟨m0, es, s, h0, .refl H, at_, en⟩, fun m σ' H' w => by
    obtain ⟨es', s', w1, e1, a1, n1⟩ := w
    rcases hs m es' s' w1 with ⟨h1, h2⟩ | ⟨h1, es2, s2, m', hl, w2, h2⟩
    · exact h1 σ' H' n1 a1 _ fun H1 e2 a2 => iteF (h2 σ' H1 (n1.mono e2) a2 D (q.mono (e1.trans e2)))
    · refine h1 σ' H' n1 a1 _ fun H1 e2 a2 => iteT ⟨fun σ2 H2 => Ez z H H2 ∧ At z H2 s2 ∧ En z H2 σ2 es2, fun σ2 H2 w => ⟨m', hl, es2, s2, w2, w.1, w.2.1, w.2.2⟩, ?_⟩
      exact h2 σ' H1 (n1.mono e2) a2 _ fun σ2 H2 e3 a3 n3 => ⟨(e1.trans e2).trans e3, a3, n3⟩⟩
def rSqrt : List V → Hp → VK → Prop := fun vs H Q => ∃ n : Nat, vs = [.int (n : Int)] ∧ n.log2 < 13000 ∧ Q (.int ((Float64.isqrt n : Nat) : Int)) H
theorem cr_isqrt : CallR X (.builtin "math.isqrt") rSqrt := by
  intro pins s σ H vs us Q I r h
  obtain ⟨n, rfl, hn, q⟩ := h
  obtain ⟨u, rfl, t, rfl⟩ := vals1 r
  have g := PySem.W.mg_run_isqrt (n : Int) t (by omega) (by rw [Int.toNat_natCast]; omega) (by rw [Int.toNat_natCast]; omega)
  exact call_function_meets PySem.W.MGF.kind_isqrt PySem.W.MGF.plain_isqrt PySem.W.MGF.entry_isqrt (PySem.W.MGF.args_isqrt _) g.meets ⟨.int _, H, I.tok _, ⟨_, by rw [Int.toNat_natCast]⟩, q⟩
theorem rb_sqrt {i : Int} (h0 : 0 ≤ i) (h : i.natAbs.log2 < 13000) : RB z s rSqrt [.int i] (.int ((Float64.isqrt i.toNat : Nat) : Int)) := fun vs H at_ h Q q => by
  cases h with
  | cons h r =>
    cases r
    cases h
    exact ⟨i.toNat, by rw [Int.toNat_of_nonneg h0], by rw [show i.toNat = i.natAbs by omega]; assumption, q _ H (.refl H) at_ (.int _)⟩
theorem combEntry : entryFor table "math.comb" = some Builtin.«math.comb» := entryFor_of_tree (by kernel_rfl)
theorem combKind : builtinKind "math.comb" = none := by kernel_rfl
theorem combPlain : plainId "math.comb" = true := by decide +kernel
theorem combArgs (x y : Value) : argsOk "math.comb" ⟨[x, y], []⟩ := by unfold argsOk; kernel_rfl
theorem combOver (n : Int) (t : Tok) (k : Int) (u : Tok) (h0 : ¬ n < 0) (h1 : ¬ k < 0) (h2 : k > n) : Gives (Builtin.«math.comb» ⟨[.int n t, .int k u], []⟩) (.int 0) :=
  .of_wp fun M A E s Q h => by
    obtain ⟨hp, g, d, tk, os⟩ := s
    wp_walk
    exact ⟨_, rfl, h⟩
theorem combRun (n : Int) (t : Tok) (k : Int) (u : Tok) (h0 : ¬ n < 0) (h1 : ¬ k < 0) (h2 : ¬ k > n) (h3 : ¬ min k (n - k) > Builtin.Math.maxSsize) (h4 : ¬ min k (n - k) > Builtin.Math.manyFactors) (h5 : ¬ min k (n - k) > 9000)
    (hsz : (Builtin.Math.fallingProduct n (min k (n - k)).toNat / Builtin.Math.fallingProduct (min k (n - k)) (min k (n - k)).toNat).natAbs.log2 < bitsLine) :
    Gives (Builtin.«math.comb» ⟨[.int n t, .int k u], []⟩) (.int (Builtin.Math.fallingProduct n (min k (n - k)).toNat / Builtin.Math.fallingProduct (min k (n - k)) (min k (n - k)).toNat)) :=
  .of_wp fun M A E s Q h => by
    obtain ⟨hp, g, d, tk, os⟩ := s
    wp_walk
    (try (refine wpAny_ite_false (decide_eq_false (Nat.not_le.mpr hsz)) ?_; wp_walk))
    exact ⟨_, rfl, h⟩
end
def combV (n k : Int) : Int := if k > n then 0 else Builtin.Math.fallingProduct n (min k (n - k)).toNat / Builtin.Math.fallingProduct (min k (n - k)) (min k (n - k)).toNat
def rComb : List V → Hp → VK → Prop := fun vs H Q => ∃ n k : Int, vs = [.int n, .int k] ∧ 0 ≤ n ∧ n ≤ 1000 ∧ 0 ≤ k ∧ k ≤ 1000 ∧ (combV n k).natAbs.log2 < bitsLine ∧ Q (.int (combV n k)) H
section
variable {X : Cx} {z : Z} {es es1 es2 fs : List Sl} {s s1 s2 s' : S} {a b c e f : Expr} {xs : List Expr} {pos p p1 p2 p3 p4 apos : Pos} {d d1 d2 : PyData} {ds : List PyData} {as : List Sl} {o : Out} {st : Stmt} {rest body els : List Stmt}
theorem cr_comb : CallR X (.builtin "math.comb") rComb := by
  intro pins s σ H vs us Q I r h
  obtain ⟨n, k, rfl, n0, n1, k0, k1, hz, q⟩ := h
  obtain ⟨t, u, rfl⟩ := Vals.int2 r
  have hm : Builtin.Math.maxSsize > 100000 := by decide
  have hf : (9000 : Int) < Builtin.Math.manyFactors := by decide
  unfold combV at hz q
  by_cases hk : k > n
  · rw [if_pos hk] at q
    exact call_function_meets combKind combPlain combEntry (combArgs _ _) (combOver n t k u (by omega) (by omega) hk).meets ⟨.int _, H, I.tok _, ⟨_, rfl⟩, q⟩
  · rw [if_neg hk] at hz q
    exact call_function_meets combKind combPlain combEntry (combArgs _ _) (combRun n t k u (by omega) (by omega) hk (by omega) (by omega) (by omega) hz).meets ⟨.int _, H, I.tok _, ⟨_, rfl⟩, q⟩
theorem rb_comb {n k : Int} (n0 : 0 ≤ n) (n1 : n ≤ 1000) (k0 : 0 ≤ k) (k1 : k ≤ 1000) (hz : (combV n k).natAbs.log2 < bitsLine) : RB z s rComb [.int n, .int k] (.int (combV n k)) := fun vs H at_ h Q q => by
  cases h with
  | cons h r =>
    cases h
    cases r with
    | cons h r =>
      cases h
      cases r
      exact ⟨n, k, rfl, n0, n1, k0, k1, hz, q _ H (.refl H) at_ (.int _)⟩
/-- a method of a text -/
def RM (z : Z) (s : S) (r : V → List V → Hp → VK → Prop) (x : Str) (ds : List PyData) (d : PyData) : Prop := ∀ vs H, At z H s → DaAll z H vs ds → ∀ Q : VK, (∀ v H2, Ez z H H2 → At z H2 s → Da z H2 v d → Q v H2) → r (.str x) vs H Q
theorem ev_m0 {id : String} {name x : Str} {r : V → List V → Hp → VK → Prop} (slot : Slot "str" name id) (ty : typeOf (.builtin id) = pure (.type "method_descriptor")) (rule : MtR X id r) (hr : RM z s1 r x [] d) (ho : EV X z a es s (.str x) s1)
    (hbase : attributeBase a name X.env (eval a X.env) = eval a X.env := by rfl) (hline : (apos.endLine == pos.line) = true := by rfl) : EV X z (.Call (.Attribute a name apos) [] [] pos) es s d s1 :=
  .mk (pe_m0 slot ty rule wE_ok hbase hline) fun σ H en at_ Q q => ho σ H en at_ _ fun v H1 e1 a1 v1 => by
    cases v1
    exact ⟨⟨x, rfl⟩, hr [] H1 a1 .nil Q fun v H2 e2 a2 v2 => q v H2 (e1.trans e2) a2 v2⟩
theorem ev_m1 {id : String} {name x : Str} {r : V → List V → Hp → VK → Prop} (slot : Slot "str" name id) (ty : typeOf (.builtin id) = pure (.type "method_descriptor")) (rule : MtR X id r) (hr : RM z s2 r x [d1] d) (ho : EV X z a es s (.str x) s1) (he : EV X z e es s1 d1 s2)
    (hs : starEach [e] X.env = [(false, eval e X.env)] := by rfl) (hbase : attributeBase a name X.env (eval a X.env) = eval a X.env := by rfl) (hline : (apos.endLine == pos.line) = true := by rfl) : EV X z (.Call (.Attribute a name apos) [e] [] pos) es s d s2 :=
  .mk (pe_m1 slot ty rule wE_ok wE_ok hs hbase hline) fun σ H en at_ Q q => ho σ H en at_ _ fun v H1 e1 a1 v1 => by
    cases v1
    refine ⟨⟨x, rfl⟩, he σ H1 (en.mono e1) a1 _ fun y H2 e2 a2 y2 => ?_⟩
    exact hr [y] H2 a2 (.cons y2 .nil) Q fun v H3 e3 a3 v3 => q v H3 ((e1.trans e2).trans e3) a3 v3
/-- the text of an int -/
def itx (i : Int) : Str := Str.ofString (toString i)
theorem ev_fmtI {i : Int} (hz : i.natAbs.log2 < 1920) (h : EV X z e es s (.int i) s1) : EV X z (.FormattedValue e (-1) none pos) es s (.str (itx i)) s1 := .mk (pe_fmt wE_ok) fun σ H en at_ Q q => h σ H en at_ _ fun v H1 e1 a1 v1 => by
  cases v1
  exact .inr ⟨i, rfl, hz, q _ H1 e1 a1 (.str _)⟩
theorem ev_fstr1 (h : EV X z e es s d s1) : EV X z (.JoinedStr [e] pos) es s d s1 := .mk (pe_joined1 wE_ok) fun σ H en at_ Q q => h σ H en at_ Q q
theorem ev_fstr3 {x y w : Str} (hl : x.length + y.length + w.length ≤ 100000) (ha : EV X z a es s (.str x) s) (hb : EV X z b es s (.str y) s) (hc : EV X z c es s (.str w) s) : EV X z (.JoinedStr [a, b, c] pos) es s (.str (x ++ y ++ w)) s :=
  .mk (pe_joined (.cons wE_ok (.cons wE_ok (.cons wE_ok .nil)))) fun σ H en at_ Q q => ha σ H en at_ _ fun v H1 e1 a1 v1 => by
    have hL : (100000 : Nat) ≤ sizeLine := by decide
    have e0 : ∀ t : Str, Str.empty ++ t = t := fun t => TL.ext_tl (by
      rw [TL.tl_append]
      rfl)
    cases v1
    refine ⟨x, rfl, by rw [e0]; omega, hb σ H1 (en.mono e1) a1 _ fun v H2 e2 a2 v2 => ?_⟩
    cases v2
    refine ⟨y, rfl, by rw [e0, Str.length_append]; omega, hc σ H2 (en.mono (e1.trans e2)) a2 _ fun v H3 e3 a3 v3 => ?_⟩
    cases v3
    refine ⟨w, rfl, by rw [e0, Str.length_append, Str.length_append]; omega, ?_⟩
    rw [e0]
    exact q _ H3 ((e1.trans e2).trans e3) a3 (.str _)
theorem rb_str {i : Int} (hz : i.natAbs.log2 < 1920) : RB z s (fun xs H Q => ∃ i : Int, xs = [.int i] ∧ i.natAbs.log2 < 1920 ∧ Q (.str (toString i)) H) [.int i] (.str (itx i)) := fun vs H at_ h Q q => by
  cases h with
  | cons h r =>
    cases r
    cases h
    exact ⟨i, rfl, hz, q _ H (.refl H) at_ (.str _)⟩
theorem rb_intS {x : Str} {n : Int} (h : PySem.intText? x = some n) (hl : x.length ≤ 640) : RB z s (fun xs H Q => ∃ a n, xs = [.str a] ∧ PySem.intText? a = some n ∧ a.length ≤ 640 ∧ Q (.int n) H) [.str x] (.int n) := fun vs H at_ k Q q => by
  cases k with
  | cons k r =>
    cases r
    cases k
    exact ⟨x, n, rfl, h, hl, q _ H (.refl H) at_ (.int _)⟩
end
/-- a loop's body -/
def loopB (st : Option Stmt) : List Stmt := match st with
  | some (Stmt.While _ b _ _) => b
  | some (Stmt.For _ _ b _ _) => b
  | _ => []
section
variable {X : Cx} {z : Z} {es : List Sl} {s s1 s2 : S} {a b : Expr} {pos : Pos}
/-- * with a small left factor -/
theorem ev_mulL {i j : Int} (hc : -(2 ^ 64) < i ∧ i < 2 ^ 64) (ha : EV X z a es s (.int i) s1) (hb : EV X z b es s1 (.int j) s2) : EV X z (.BinOp a .Mult b pos) es s (.int (i * j)) s2 := ev_opR (f := binaryOp .Mult) op_mul (rd_I (.inl hc) fun _ => .int _) ha hb
end
end DL


set_option Elab.async false
set_option linter.all false
set_option maxRecDepth 100000
namespace DL
open PySem PySem.Spec PyProof.Rows L2
/-! ### 8. list comprehensions -/
def Z.add (z : Z) (D : Addr) (o : HO) : Z := ⟨z.dice, (D, o) :: z.vol⟩
theorem Fz.of_add {z : Z} {D a : Addr} {o : HO} (h : Fz (z.add D o) a) : Fz z a ∧ a ≠ D := ⟨⟨h.1, fun u hu => h.2 u (List.mem_cons_of_mem _ hu)⟩, fun e => h.2 o (by rw [e]; exact List.mem_cons_self ..)⟩
theorem Fz.to_add {z : Z} {D a : Addr} {o : HO} (h : Fz z a) (n : a ≠ D) : Fz (z.add D o) a := ⟨h.1, fun u hu => by
  rcases List.mem_cons.mp hu with e | e
  · exact n (congrArg Prod.fst e)
  · exact h.2 u e⟩
mutual
theorem Da.re {z z' : Z} {H H' : Hp} (k : ∀ a o, Fz z a → H a = some o → Fz z' a ∧ H' a = some o) : ∀ {v : V} {d : PyData}, Da z H v d → Da z' H' v d
  | _, _, .non => .non
  | _, _, .bl b => .bl b
  | _, _, .int i => .int i
  | _, _, .str x => .str x
  | _, _, .dct n h => .dct (k _ _ n h).1 (k _ _ n h).2
  | _, _, .lst n h r => .lst (k _ _ n h).1 (k _ _ n h).2 (DaAll.re k r)
  | _, _, .tup n h r => .tup (k _ _ n h).1 (k _ _ n h).2 (DaAll.re k r)
theorem DaAll.re {z z' : Z} {H H' : Hp} (k : ∀ a o, Fz z a → H a = some o → Fz z' a ∧ H' a = some o) : ∀ {vs : List V} {ds : List PyData}, DaAll z H vs ds → DaAll z' H' vs ds
  | _, _, .nil => .nil
  | _, _, .cons h r => .cons (Da.re k h) (DaAll.re k r)
end
theorem En.re {z z' : Z} {H H' : Hp} (hd : z'.dice = z.dice) (hv : ∀ q ∈ z.vol, q ∈ z'.vol) (k : ∀ a o, Fz z a → H a = some o → Fz z' a ∧ H' a = some o) : ∀ {σ : L2.St} {es : List Sl}, En z H σ es → En z' H' σ es
  | _, _, .nil => .nil
  | _, _, .cons h r => .cons (by
      cases h with
      | un => exact .un
      | val d => exact .val (d.re k)
      | dice e => exact .dice (hd.trans e)
      | raw => exact .raw
      | own m q => exact .own (hv _ m) (q.re k)) (En.re hd hv k r)
section
variable {X : Cx} {z : Z} {es : List Sl} {s s1 : S} {iter elt cond : Expr} {ds : List PyData}
/-- the turns of a comprehension over anything that walks, with any target -/
theorem lc_all {te : TE} {tt : TT} {g : TG} {ws : List Nat} {n : Nat} {J : It} {G : Hp → Prop} {Y : Nat → Hp → V → Hp → Prop} (wk : Walk J n G Y) {σ : L2.St} {H1 : Hp} {D : Addr} (T U : Nat → S) (a1 : At z H1 (T 0)) (hD : H1 D = none) (esT : Nat → List Sl)
    (hG : ∀ H', Ez z H1 H' → G H') (turn : ∀ (i : Nat) (x : V) (H' H2 : Hp) (o : HO), i < n → Ez z H1 H' → Y i H' x H2 → At (z.add D o) H' (T i) → ∀ Q : L2.St → Hp → Prop, (∀ σ2 H3, wipe σ2 ws = wipe σ ws → Ez (z.add D o) H' H3 → At (z.add D o) H3 (T i) → En (z.add D o) H3 σ2 (esT i) → Q σ2 H3) → g x (wipe σ ws) H2 Q) (hl : n ≤ 100000) (kb : Nat → Bool) (A : Nat → List PyData) (hA0 : A 0 = [])
    (Ht : ∀ (z' : Z) (i : Nat), i < n → ∀ σ H, En z' H σ (esT i) → At z' H (T i) → ∀ Q : Bool → Hp → Prop, (∀ H2, Ez z' H H2 → At z' H2 (U i) → Q (kb i) H2) → tt σ H Q)
    (He : ∀ (z' : Z) (i : Nat), i < n → kb i = true → ∃ y, A (i + 1) = A i ++ [y] ∧ ∀ σ H, En z' H σ (esT i) → At z' H (U i) → ∀ Q : VK, (∀ v H2, Ez z' H H2 → At z' H2 (T (i + 1)) → Da z' H2 v y → Q v H2) → te σ H Q)
    (hn : ∀ (i : Nat), i < n → kb i = false → A (i + 1) = A i ∧ T (i + 1) = U i) {Qd : Hp → Prop} (hQ : ∀ H', Ez z H1 H' → At z H' (T n) → Da z H' (.ref D) (.list (A n)) → Qd H') :
    ∃ W : Nat → Nat → Hp → Prop, (∃ m, W 0 m (upd H1 D (.lst []))) ∧ ∀ i m H, W i m H → (J.stop i H ∧ Qd H) ∨ (J.go i H ∧ ∃ Nx : Hp → Prop, (∀ H', Nx H' → ∃ m', m' < m ∧ W (i + 1) m' H') ∧ ∀ x H', J.yld i H x H' → g x (wipe σ ws) H' fun σ2 H2 => wipe σ2 ws = wipe σ ws ∧ tt σ2 H2 fun b H3 =>
        if b = true then te σ2 H3 fun y H4 => ∃ acc, H4 D = some (.lst acc) ∧ acc.length < sizeLine ∧ Nx (upd H4 D (.lst (acc ++ [y]))) else Nx H3) := by
  have lA : ∀ i, i ≤ n → (A i).length ≤ i := by
    intro i
    induction i with
    | zero => intro _; rw [hA0]; exact Nat.le_refl _
    | succ i ih =>
      intro hi
      cases hk : kb i with
      | true =>
        obtain ⟨y, hy, _⟩ := He z i (by omega) hk
        rw [hy, List.length_append]
        have := ih (by omega)
        simp
        omega
      | false =>
        rw [(hn i (by omega) hk).1]
        have := ih (by omega)
        omega
  have reach : ∀ {H' : Hp} {o : HO}, Ez z H1 H' → ∀ (b : Addr) (u : HO), Fz z b → H1 b = some u → Fz (z.add D o) b ∧ H' b = some u := fun e b u fb hb => ⟨fb.to_add (ne_of_none hb hD), e b u fb hb⟩
  have up : ∀ {H' H2 : Hp} {o : HO}, Ez z H1 H' → Ez (z.add D o) H' H2 → Ez z H1 H2 := fun e e2 b u fb hb => e2 b u (fb.to_add (ne_of_none hb hD)) (e b u fb hb)
  refine lc_it wk (fun i H' => Ez z H1 H' ∧ ∃ acc, H' D = some (.lst acc) ∧ At (z.add D (.lst acc)) H' (T i) ∧ DaAll (z.add D (.lst acc)) H' acc (A i)) ?_ (fun i H' _ w => hG H' w.1) ?_ ?_
  · refine ⟨.new hD, [], upd_same, ⟨?_, ?_, ?_⟩, ?_⟩
    · intro b hb
      rw [upd_ne (ne_of_none (a1.d b hb) hD)]
      exact a1.d b hb
    · intro p hp
      rcases List.mem_cons.mp hp with e | e
      · rw [e]
        exact upd_same
      · rw [upd_ne (ne_of_none (a1.v p e) hD)]
        exact a1.v p e
    · intro p hp e2
      rcases List.mem_cons.mp hp with e | e
      · rw [e] at e2
        have := a1.d D e2
        rw [this] at hD
        cases hD
      · exact a1.n p e e2
    · rw [hA0]
      exact .nil
  · intro i x H0 H' hi w hy
    obtain ⟨e2, acc, hDa, a2, rA⟩ := w
    refine turn i x H0 H' (.lst acc) hi e2 hy a2 _ fun σ2 H5 hw e5 a5 en2 => ⟨hw, ?_⟩
    refine Ht _ i hi _ H5 en2 a5 _ fun H3 e30 a3 => ?_
    have e3 := e5.trans e30
    have hD3 : H3 D = some (.lst acc) := a3.v (D, .lst acc) (List.mem_cons_self ..)
    cases hk : kb i with
    | false =>
      obtain ⟨n1, n2⟩ := hn i hi hk
      refine iteF ⟨up e2 e3, acc, hD3, by rw [n2]; exact a3, by rw [n1]; exact rA.mono e3⟩
    | true =>
      obtain ⟨y, hy, go⟩ := He (z.add D (.lst acc)) i hi hk
      refine iteT (go _ H3 (en2.mono e30) a3 _ fun v H4 e4 a4 v4 => ?_)
      have hD4 : H4 D = some (.lst acc) := a4.v (D, .lst acc) (List.mem_cons_self ..)
      have rA4 := (rA.mono e3).mono e4
      have la := rA4.length
      have := lA i (by omega)
      have far : ∀ (b : Addr) (u : HO), Fz (z.add D (.lst acc)) b → H4 b = some u → Fz (z.add D (.lst (acc ++ [v]))) b ∧ upd H4 D (.lst (acc ++ [v])) b = some u := fun b u fb hb => by
        obtain ⟨f1, f2⟩ := fb.of_add
        exact ⟨f1.to_add f2, by rw [upd_ne f2]; exact hb⟩
      refine ⟨acc, hD4, Nat.lt_of_lt_of_le (show acc.length < 100001 by omega) (by decide), ?_, acc ++ [v], upd_same, ⟨?_, ?_, ?_⟩, ?_⟩
      · intro b u fb hb
        rw [upd_ne (ne_of_none hb hD)]
        exact up (up e2 e3) e4 b u fb hb
      · intro b hb
        rw [upd_ne (fun e => a4.n (D, .lst acc) (List.mem_cons_self ..) (by rw [← e]; exact hb))]
        exact a4.d b hb
      · intro p hp
        rcases List.mem_cons.mp hp with e | e
        · rw [e]
          exact upd_same
        · have h1 := a1.v p e
          rw [upd_ne (ne_of_none h1 hD)]
          exact a4.v p (List.mem_cons_of_mem _ e)
      · intro p hp
        rcases List.mem_cons.mp hp with e | e
        · rw [e]
          exact a4.n (D, .lst acc) (List.mem_cons_self ..)
        · exact a4.n p (List.mem_cons_of_mem _ e)
      · rw [hy]
        exact (rA4.re far).app (.cons (v4.re far) .nil)
  · intro H' w
    obtain ⟨e2, acc, hDa, a2, rA⟩ := w
    have fD : Fz z D := a1.fresh hD
    exact hQ H' e2 ⟨a2.d, fun p hp => a2.v p (List.mem_cons_of_mem _ hp), fun p hp => a2.n p (List.mem_cons_of_mem _ hp)⟩ (.lst fD hDa (rA.re fun b u fb hb => ⟨fb.of_add.1, hb⟩))
/-- the same with a name as the target, over what leaves the heap alone -/
theorem lc_gen {te : TE} {tt : TT} {j n : Nat} {J : It} {G : Hp → Prop} {Y : Nat → Hp → V → Hp → Prop} (wk : Walk J n G Y) {σ : L2.St} {H1 : Hp} {D : Addr} (T U : Nat → S) (en1 : En z H1 σ es) (a1 : At z H1 (T 0)) (hD : H1 D = none) (items : Nat → PyData)
    (hG : ∀ H', Ez z H1 H' → G H') (hY : ∀ i x H' H2, i < n → Y i H' x H2 → H2 = H' ∧ Da z H1 x (items i)) (hl : n ≤ 100000) (kb : Nat → Bool) (A : Nat → List PyData) (hA0 : A 0 = [])
    (Ht : ∀ (z' : Z) (i : Nat), i < n → ∀ σ H, En z' H σ (es.set j (.val (items i))) → At z' H (T i) → ∀ Q : Bool → Hp → Prop, (∀ H2, Ez z' H H2 → At z' H2 (U i) → Q (kb i) H2) → tt σ H Q)
    (He : ∀ (z' : Z) (i : Nat), i < n → kb i = true → ∃ y, A (i + 1) = A i ++ [y] ∧ ∀ σ H, En z' H σ (es.set j (.val (items i))) → At z' H (U i) → ∀ Q : VK, (∀ v H2, Ez z' H H2 → At z' H2 (T (i + 1)) → Da z' H2 v y → Q v H2) → te σ H Q)
    (hn : ∀ (i : Nat), i < n → kb i = false → A (i + 1) = A i ∧ T (i + 1) = U i) {Qd : Hp → Prop} (hQ : ∀ H', Ez z H1 H' → At z H' (T n) → Da z H' (.ref D) (.list (A n)) → Qd H') :
    ∃ W : Nat → Nat → Hp → Prop, (∃ m, W 0 m (upd H1 D (.lst []))) ∧ ∀ i m H, W i m H → (J.stop i H ∧ Qd H) ∨ (J.go i H ∧ ∃ Nx : Hp → Prop, (∀ H', Nx H' → ∃ m', m' < m ∧ W (i + 1) m' H') ∧ ∀ x H', J.yld i H x H' → gName j x (wipe σ [j]) H' fun σ2 H2 => wipe σ2 [j] = wipe σ [j] ∧ tt σ2 H2 fun b H3 =>
        if b = true then te σ2 H3 fun y H4 => ∃ acc, H4 D = some (.lst acc) ∧ acc.length < sizeLine ∧ Nx (upd H4 D (.lst (acc ++ [y]))) else Nx H3) := by
  refine lc_all (g := gName j) (ws := [j]) wk T U a1 hD (fun i => es.set j (.val (items i))) hG (fun i x H' H2 o hi e2 hy a2 Q q => ?_) hl kb A hA0 Ht He hn hQ
  obtain ⟨rfl, hxd⟩ := hY i x H' H2 hi hy
  have reach : ∀ (b : Addr) (u : HO), Fz z b → H1 b = some u → Fz (z.add D o) b ∧ H2 b = some u := fun b u fb hb => ⟨fb.to_add (ne_of_none hb hD), e2 b u fb hb⟩
  have es2 : (wipe σ [j]).set j (some x) = σ.set j (some x) := by
    show (σ.set j none).set j (some x) = _
    rw [List.set_set]
  show Q ((wipe σ [j]).set j (some x)) H2
  rw [es2]
  have en0 : En (z.add D o) H2 σ es := En.re (z := z) (z' := z.add D o) rfl (fun q h => List.mem_cons_of_mem _ h) reach en1
  exact q _ H2 (by
    show (σ.set j (some x)).set j none = σ.set j none
    rw [List.set_set]) (.refl _) a2 (en0.set j (.val (hxd.re reach)))
/-- the same with two names as the target, each turn's pair being at hand as a tuple -/
theorem lc_two {te : TE} {tt : TT} {K : PySem.W.Frag} {j k n : Nat} {J : It} {G : Hp → Prop} {Y : Nat → Hp → V → Hp → Prop} (wk : Walk J n G Y) {σ : L2.St} {H1 : Hp} {D : Addr} (T U : Nat → S) (en1 : En z H1 σ es) (a1 : At z H1 (T 0)) (hD : H1 D = none) (hjk : j ≠ k) (items other : Nat → PyData)
    (hG : ∀ H', Ez z H1 H' → G H') (hY : ∀ i x H' H2, i < n → Ez z H1 H' → Y i H' x H2 → ∃ t u v, x = .ref t ∧ SqT K H2 t [u, v] ∧ (H2 = H' ∨ (H' t = none ∧ H2 = upd H' t (.tup [u, v]))) ∧ Da z H1 u (items i) ∧ Da z H1 v (other i)) (hl : n ≤ 100000) (kb : Nat → Bool) (A : Nat → List PyData) (hA0 : A 0 = [])
    (Ht : ∀ (z' : Z) (i : Nat), i < n → ∀ σ H, En z' H σ ((es.set j (.val (items i))).set k (.val (other i))) → At z' H (T i) → ∀ Q : Bool → Hp → Prop, (∀ H2, Ez z' H H2 → At z' H2 (U i) → Q (kb i) H2) → tt σ H Q)
    (He : ∀ (z' : Z) (i : Nat), i < n → kb i = true → ∃ y, A (i + 1) = A i ++ [y] ∧ ∀ σ H, En z' H σ ((es.set j (.val (items i))).set k (.val (other i))) → At z' H (U i) → ∀ Q : VK, (∀ v H2, Ez z' H H2 → At z' H2 (T (i + 1)) → Da z' H2 v y → Q v H2) → te σ H Q)
    (hn : ∀ (i : Nat), i < n → kb i = false → A (i + 1) = A i ∧ T (i + 1) = U i) {Qd : Hp → Prop} (hQ : ∀ H', Ez z H1 H' → At z H' (T n) → Da z H' (.ref D) (.list (A n)) → Qd H') :
    ∃ W : Nat → Nat → Hp → Prop, (∃ m, W 0 m (upd H1 D (.lst []))) ∧ ∀ i m H, W i m H → (J.stop i H ∧ Qd H) ∨ (J.go i H ∧ ∃ Nx : Hp → Prop, (∀ H', Nx H' → ∃ m', m' < m ∧ W (i + 1) m' H') ∧ ∀ x H', J.yld i H x H' → gTup K 2 (gCons (gName j) (gCons (gName k) gNil)) x (wipe σ [j, k]) H' fun σ2 H2 => wipe σ2 [j, k] = wipe σ [j, k] ∧ tt σ2 H2 fun b H3 =>
        if b = true then te σ2 H3 fun y H4 => ∃ acc, H4 D = some (.lst acc) ∧ acc.length < sizeLine ∧ Nx (upd H4 D (.lst (acc ++ [y]))) else Nx H3) := by
  refine lc_all (g := gTup K 2 (gCons (gName j) (gCons (gName k) gNil))) (ws := [j, k]) wk T U a1 hD (fun i => (es.set j (.val (items i))).set k (.val (other i))) hG (fun i x H' H2 o hi e2 hy a2 Q q => ?_) hl kb A hA0 Ht He hn hQ
  obtain ⟨t, u, v, rfl, ht, hH, hu, hv⟩ := hY i x H' H2 hi e2 hy
  have e3 : Ez (z.add D o) H' H2 := by
    rcases hH with rfl | ⟨nt, rfl⟩
    · exact .refl _
    · exact .new nt
  have a3 : At (z.add D o) H2 (T i) := by
    rcases hH with rfl | ⟨nt, rfl⟩
    · exact a2
    · exact a2.new nt
  have reach : ∀ (b : Addr) (w : HO), Fz z b → H1 b = some w → Fz (z.add D o) b ∧ H2 b = some w := fun b w fb hb => by
    have f := fb.to_add (o := o) (ne_of_none hb hD)
    exact ⟨f, e3 b w f (e2 b w fb hb)⟩
  have w0 : wipe σ [j, k] = (σ.set k none).set j none := rfl
  have es2 : ((wipe σ [j, k]).set j (some u)).set k (some v) = (σ.set j (some u)).set k (some v) := by
    rw [w0, List.set_set, List.set_comm _ _ hjk, List.set_set, List.set_comm _ _ hjk.symm]
  refine ⟨t, [u, v], rfl, ht, rfl, u, [v], rfl, v, [], rfl, rfl, ?_⟩
  rw [es2]
  have en0 : En (z.add D o) H2 σ es := En.re (z := z) (z' := z.add D o) rfl (fun q h => List.mem_cons_of_mem _ h) reach en1
  refine q _ H2 ?_ e3 a3 ((en0.set j (.val (hu.re reach))).set k (.val (hv.re reach)))
  show (((σ.set j (some u)).set k (some v)).set k none).set j none = (σ.set k none).set j none
  rw [List.set_set, List.set_comm _ _ hjk, List.set_set, List.set_comm _ _ hjk.symm]
theorem lc_read {te : TE} {tt : TT} {j : Nat} (hit : EV X z iter es s (.list ds) s1) (hl : ds.length ≤ 100000) (kb : Nat → Bool) (A : Nat → List PyData) (T U : Nat → S) (hA0 : A 0 = []) (t0 : T 0 = s1)
    (Ht : ∀ (z' : Z) (i : Nat) d, ds[i]? = some d → ∀ σ H, En z' H σ (es.set j (.val d)) → At z' H (T i) → ∀ Q : Bool → Hp → Prop, (∀ H2, Ez z' H H2 → At z' H2 (U i) → Q (kb i) H2) → tt σ H Q)
    (He : ∀ (z' : Z) (i : Nat) d, ds[i]? = some d → kb i = true → ∃ y, A (i + 1) = A i ++ [y] ∧ ∀ σ H, En z' H σ (es.set j (.val d)) → At z' H (U i) → ∀ Q : VK, (∀ v H2, Ez z' H H2 → At z' H2 (T (i + 1)) → Da z' H2 v y → Q v H2) → te σ H Q)
    (hn : ∀ (i : Nat) d, ds[i]? = some d → kb i = false → A (i + 1) = A i ∧ T (i + 1) = U i) :
    ∀ σ H, En z H σ es → At z H s → ∀ Q : VK, (∀ v H2, Ez z H H2 → At z H2 (T ds.length) → Da z H2 v (.list (A ds.length)) → Q v H2) → tLc (iList X.K (wE X iter)) (gName j) tt te [j] σ H Q := fun σ H en at_ Q q => by
  refine hit σ H en at_ _ fun v H1 e1 a1 v1 => ?_
  cases v1 with
  | @lst a xs _ fa ha r =>
    have hx : xs.length = ds.length := r.length
    have g : ∀ i, i < xs.length → ds[i]? = some (ds.getD i .none) := fun i hi => by
      rw [List.getD_eq_getElem?_getD, List.getElem?_eq_getElem (by omega)]
      rfl
    refine ⟨a, rfl, ⟨xs, .inl (.inl ha)⟩, fun D hD => ?_⟩
    refine lc_gen (walk_list (K := X.K) (a := a) (xs := xs)) T U (en.mono e1) (t0 ▸ a1) hD (fun i => ds.getD i .none) (fun H' e => .inl (.inl (e a _ fa ha))) (fun i x H' H2 hi hy => ⟨hy.1, ?_⟩) (by omega) kb A hA0 (fun z' i hi => Ht z' i _ (g i hi)) (fun z' i hi => He z' i _ (g i hi)) (fun i hi => hn i _ (g i hi)) (fun H' e a2 d2 => ?_)
    · obtain ⟨d, hd, hv⟩ := r.getV i x hy.2
      have := g i hi
      rw [hd] at this
      rw [← Option.some.inj this]
      exact hv
    · rw [hx] at a2 d2
      exact q _ H' (e1.trans e) a2 d2
/-- over the signs of a text -/
theorem lc_readS {te : TE} {tt : TT} {j : Nat} {t : Str} (hit : EV X z iter es s (.str t) s1) (hl : t.cps.size ≤ 100000) (kb : Nat → Bool) (A : Nat → List PyData) (T U : Nat → S) (hA0 : A 0 = []) (t0 : T 0 = s1)
    (Ht : ∀ (z' : Z) (i c : Nat), t.cps[i]? = some c → ∀ σ H, En z' H σ (es.set j (.val (.str ⟨#[c]⟩))) → At z' H (T i) → ∀ Q : Bool → Hp → Prop, (∀ H2, Ez z' H H2 → At z' H2 (U i) → Q (kb i) H2) → tt σ H Q)
    (He : ∀ (z' : Z) (i c : Nat), t.cps[i]? = some c → kb i = true → ∃ y, A (i + 1) = A i ++ [y] ∧ ∀ σ H, En z' H σ (es.set j (.val (.str ⟨#[c]⟩))) → At z' H (U i) → ∀ Q : VK, (∀ v H2, Ez z' H H2 → At z' H2 (T (i + 1)) → Da z' H2 v y → Q v H2) → te σ H Q)
    (hn : ∀ (i c : Nat), t.cps[i]? = some c → kb i = false → A (i + 1) = A i ∧ T (i + 1) = U i) :
    ∀ σ H, En z H σ es → At z H s → ∀ Q : VK, (∀ v H2, Ez z H H2 → At z H2 (T t.cps.size) → Da z H2 v (.list (A t.cps.size)) → Q v H2) → tLc (iStr (wE X iter)) (gName j) tt te [j] σ H Q := fun σ H en at_ Q q => by
  refine hit σ H en at_ _ fun v H1 e1 a1 v1 => ?_
  cases v1
  have g : ∀ i, i < t.cps.size → t.cps[i]? = some (t.cps.getD i 0) := fun i hi => by
    rw [Array.getD_eq_getD_getElem?, Array.getElem?_eq_getElem hi]
    rfl
  refine ⟨t, rfl, fun D hD => ?_⟩
  refine lc_gen (walk_str (z := t)) T U (en.mono e1) (t0 ▸ a1) hD (fun i => .str ⟨#[t.cps.getD i 0]⟩) (fun H' e => trivial) (fun i x H' H2 hi hy => ⟨hy.1, ?_⟩) hl kb A hA0 (fun z' i hi => Ht z' i _ (g i hi)) (fun z' i hi => He z' i _ (g i hi)) (fun i hi => hn i _ (g i hi)) (fun H' e a2 d2 => q _ H' (e1.trans e) a2 d2)
  obtain ⟨c, hc, rfl⟩ := hy.2
  have := g i hi
  rw [hc] at this
  rw [← Option.some.inj this]
  exact .str _
/-- in the block of a comprehension -/
abbrev Blk (X : Cx) (scope : Scope) (p : Cx → Prop) : Prop := ∀ (s0 : Shared) (H0 : Hp) (C : Addr) (cl : List (Str × Addr)) (fp : List Addr), p (X.blk s0 H0 scope (compEnvC scope cl C X.env) fp)
def tEl (X : Cx) (scope : Scope) (elt : Expr) : TE := fun σ H Q => ∀ (s0 : Shared) (H0 : Hp) (C : Addr) (cl : List (Str × Addr)) (fp : List Addr), wE (X.blk s0 H0 scope (compEnvC scope cl C X.env) fp) elt σ H Q
def tTs (X : Cx) (scope : Scope) (cond : Expr) : TT := fun σ H Q => ∀ (s0 : Shared) (H0 : Hp) (C : Addr) (cl : List (Str × Addr)) (fp : List Addr), wT (X.blk s0 H0 scope (compEnvC scope cl C X.env) fp) cond σ H Q
theorem tEl_ok {scope : Scope} (s0 : Shared) (H0 : Hp) (C : Addr) (cl : List (Str × Addr)) (fp : List Addr) : PE (X.blk s0 H0 scope (compEnvC scope cl C X.env) fp) elt (tEl X scope elt) := ⟨fun pins s σ H Q I h => wE_ok.run pins s σ H Q I (h s0 H0 C cl fp)⟩
theorem tTs_ok {scope : Scope} (s0 : Shared) (H0 : Hp) (C : Addr) (cl : List (Str × Addr)) (fp : List Addr) : PTs (X.blk s0 H0 scope (compEnvC scope cl C X.env) fp) [cond] (tTs X scope cond) := pts_one ⟨fun pins s σ H Q I h => wT_ok.run pins s σ H Q I (h s0 H0 C cl fp)⟩
theorem ev_lcIf {j : Nat} {x : Str} {scope : Scope} {p pos : Pos} (hc : X.calm = true) (hN : X.N.Nodup) (hit : EV X z iter es s (.list ds) s1) (hl : ds.length ≤ 100000) (kb : Nat → Bool) (A : Nat → List PyData) (T U : Nat → S) (hA0 : A 0 = []) (t0 : T 0 = s1)
    (hB : BlkOk X.N X.env.scope scope [(x, j)]) (hg : ∀ (s : Shared) (H : Hp) (C : Addr) (cl : List (Str × Addr)) (fp : List Addr), PG (X.blk s H scope (compEnvC scope cl C X.env) fp) (.Name x p) (gName j))
    (Ht : ∀ (z' : Z) (i : Nat) d, ds[i]? = some d → Blk X scope fun Y => ET Y z' cond (es.set j (.val d)) (T i) (kb i) (U i))
    (He : ∀ (i : Nat) d, ds[i]? = some d → kb i = true → ∃ y, A (i + 1) = A i ++ [y] ∧ ∀ z' : Z, Blk X scope fun Y => EV Y z' elt (es.set j (.val d)) (U i) y (T (i + 1)))
    (hn : ∀ (i : Nat) d, ds[i]? = some d → kb i = false → A (i + 1) = A i ∧ T (i + 1) = U i) (hs : ∀ x, foldedSetIterable iter X.env x = pure x := by intro _; rfl) :
    EV X z (.ListComp elt [{ target := .Name x p, iter := iter, ifs := [cond], is_async := 0 }] scope pos) es s (.list (A ds.length)) (T ds.length) :=
  .mk (pe_lc (own := [(x, j)]) hc hN (pi_list wE_ok) hB hg tTs_ok tEl_ok hs)
    (lc_read hit hl kb A T U hA0 t0 (fun z' i d hd σ H en at_ Q q s0 H0 C cl fp => Ht z' i d hd s0 H0 C cl fp σ H en at_ Q q)
      (fun z' i d hd hk => by
        obtain ⟨y, hy, go⟩ := He i d hd hk
        exact ⟨y, hy, fun σ H en at_ Q q s0 H0 C cl fp => go z' s0 H0 C cl fp σ H en at_ Q q⟩) hn)
/-- y = [.. if ..] -/
theorem sr_lcIf {j k : Nat} {x y : Str} {scope : Scope} {p py pos spos : Pos} {rest : List Stmt} {o : Out} (hc : X.calm = true) (hN : X.N.Nodup) (hit : EV X z iter es s (.list ds) s1) (hl : ds.length ≤ 100000) (kb : Nat → Bool) (A : Nat → List PyData) (T U : Nat → S) (hA0 : A 0 = []) (t0 : T 0 = s1)
    (hB : BlkOk X.N X.env.scope scope [(x, j)]) (hg : ∀ (s : Shared) (H : Hp) (C : Addr) (cl : List (Str × Addr)) (fp : List Addr), PG (X.blk s H scope (compEnvC scope cl C X.env) fp) (.Name x p) (gName j))
    (Ht : ∀ (z' : Z) (i : Nat) d, ds[i]? = some d → Blk X scope fun Y => ET Y z' cond (es.set j (.val d)) (T i) (kb i) (U i))
    (He : ∀ (i : Nat) d, ds[i]? = some d → kb i = true → ∃ y, A (i + 1) = A i ++ [y] ∧ ∀ z' : Z, Blk X scope fun Y => EV Y z' elt (es.set j (.val d)) (U i) y (T (i + 1)))
    (hn : ∀ (i : Nat) d, ds[i]? = some d → kb i = false → A (i + 1) = A i ∧ T (i + 1) = U i) (kk : SR X z rest (es.set k (.val (.list (A ds.length)))) (T ds.length) o)
    (hi : X.N[k]? = some y := by rfl) (hy : List.lookup y X.env.scope.names = some NameKind.local := by rfl)
    (hsw : swapsWith (.ListComp elt [{ target := .Name x p, iter := iter, ifs := [cond], is_async := 0 }] scope pos) (some (.Name y py)) spos.line X.env = pure true := by exact sw_true rfl rfl rfl (by decide +kernel)) (hs : ∀ x, foldedSetIterable iter X.env x = pure x := by intro _; rfl) :
    SR X z (.Assign [.Name y py] (.ListComp elt [{ target := .Name x p, iter := iter, ifs := [cond], is_async := 0 }] scope pos) spos :: rest) es s o := fun σ H en at_ D q =>
  ⟨_, pss_cons (ps_setLc (i := k) (own := [(x, j)]) hc hN hi hy hsw (pi_list wE_ok) hB hg tTs_ok tEl_ok hs) wB_ok, by
    show tLc (iList X.K (wE X iter)) (gName j) (tTs X scope cond) (tEl X scope elt) [j] σ H (fun v H1 => wB X rest D (σ.set k (some v)) H1)
    exact lc_read hit hl kb A T U hA0 t0 (fun z' i d hd σ H en at_ Q q s0 H0 C cl fp => Ht z' i d hd s0 H0 C cl fp σ H en at_ Q q)
      (fun z' i d hd hk => by
        obtain ⟨y, hy, go⟩ := He i d hd hk
        exact ⟨y, hy, fun σ H en at_ Q q s0 H0 C cl fp => go z' s0 H0 C cl fp σ H en at_ Q q⟩) hn σ H en at_ _ fun v H2 e2 a2 v2 => kk _ H2 ((en.mono e2).set k (.val v2)) a2 D (q.mono e2)⟩
theorem ev_lcStr {j : Nat} {t : Str} {x : Str} {scope : Scope} {p pos : Pos} (hc : X.calm = true) (hN : X.N.Nodup) (hit : EV X z iter es s (.str t) s) (hl : t.cps.size ≤ 100000) (f : Nat → PyData)
    (hB : BlkOk X.N X.env.scope scope [(x, j)]) (hg : ∀ (s : Shared) (H : Hp) (C : Addr) (cl : List (Str × Addr)) (fp : List Addr), PG (X.blk s H scope (compEnvC scope cl C X.env) fp) (.Name x p) (gName j))
    (He : ∀ (c : Nat), ∀ z' : Z, Blk X scope fun Y => EV Y z' elt (es.set j (.val (.str ⟨#[c]⟩))) s (f c) s) (hs : ∀ x, foldedSetIterable iter X.env x = pure x := by intro _; rfl) :
    EV X z (.ListComp elt [{ target := .Name x p, iter := iter, ifs := [], is_async := 0 }] scope pos) es s (.list (t.cps.toList.map f)) s :=
  .mk (pe_lc (own := [(x, j)]) hc hN (pi_str wE_ok) hB hg (fun _ _ _ _ _ => pts_nil) tEl_ok hs) (by
    have g := lc_readS (X := X) (te := tEl X scope elt) (tt := tYes) (j := j) hit hl (fun _ => true) (fun i => (t.cps.toList.take i).map f) (fun _ => s) (fun _ => s) rfl rfl (fun z' i c hc σ H en at_ Q q => q H (.refl H) at_)
      (fun z' i c hc _ => ⟨f c, by rw [List.take_add_one, List.map_append, Array.getElem?_toList, hc]; rfl, fun σ H en at_ Q q s0 H0 C cl fp => He c z' s0 H0 C cl fp σ H en at_ Q q⟩) (fun i c _ h => by cases h)
    rw [show (t.cps.toList.take t.cps.size) = t.cps.toList from List.take_of_length_le (by simp)] at g
    exact g)
theorem rb_all {bs : List Bool} {K : PySem.W.Frag} : RB z s (rAll K) [.list (bs.map .bool)] (.bool (bs.all id)) := fun vs H at_ h Q q => by
  cases h with
  | cons h r =>
    cases r
    cases h with
    | lst n e r =>
      have : ∀ {xs : List V} {bs : List Bool}, DaAll z H xs (bs.map .bool) → xs = bs.map V.bl := by
        intro xs bs
        induction bs generalizing xs with
        | nil => intro h; cases h; rfl
        | cons b bs ih =>
          intro h
          cases h with
          | cons h r =>
            cases h
            rw [ih r]
            rfl
      rw [this r] at e
      exact ⟨_, bs, rfl, .inl (.inl e), q _ H (.refl H) at_ (.bl _)⟩
end
end DL


set_option Elab.async false
set_option linter.all false
set_option maxRecDepth 100000
namespace DL
open PySem PySem.Spec PyProof.Rows L2
/-! ### 9. lists of a def's own, written in place -/
theorem En.slot {z : Z} {H : Hp} : ∀ {σ : L2.St} {es : List Sl}, En z H σ es → ∀ {i : Nat} {e : Sl}, es[i]? = some e → ∃ x, σ[i]? = some x ∧ SlR z H x e
  | _, _, .nil, i, e, h => by simp at h
  | _, _, .cons h r, 0, e, q => by
    cases Option.some.inj q
    exact ⟨_, rfl, h⟩
  | _, _, .cons h r, i + 1, e, q => En.slot r (i := i) q
theorem En.by_slots {z : Z} {H : Hp} : ∀ {σ : List (Option V)} {es : List Sl}, σ.length = es.length → (∀ (i : Nat) (x : Option V) (e : Sl), σ[i]? = some x → es[i]? = some e → SlR z H x e) → En z H σ es
  | [], [], _, _ => .nil
  | [], _ :: _, h, _ => by simp at h
  | _ :: _, [], h, _ => by simp at h
  | x :: σ, e :: es, h, k => .cons (k 0 x e rfl rfl) (En.by_slots (by simpa using h) fun i x e h1 h2 => k (i + 1) x e h1 h2)
def Z.own (z : Z) (vol : List (Addr × HO)) : Z := ⟨z.dice, vol ++ z.vol⟩
/-- how a def's run stands: z: what its caller holds; Hc: the heap at its entry; vol: its own lists -/
structure OI (z : Z) (Hc H : Hp) (vol : List (Addr × HO)) (σ : L2.St) (es : List Sl) (s : S) : Prop where
  new : ∀ q ∈ vol, Hc q.1 = none
  nd : (vol.map (·.1)).Nodup
  base : ∀ q ∈ z.vol, Hc q.1 ≠ none
  at_ : At (z.own vol) H s
  en : En (z.own vol) H σ es
  ez : Ez z Hc H
  far : ∀ (i : Nat) (ds : List PyData) (p : Addr), es[i]? = some (Sl.own ds) → σ[i]? = some (some (V.ref p)) → Hc p = none
  two : ∀ (i j : Nat) (ds ds' : List PyData) (p : Addr), i ≠ j → es[i]? = some (Sl.own ds) → es[j]? = some (Sl.own ds') → σ[i]? = some (some (V.ref p)) → σ[j]? ≠ some (some (V.ref p))
theorem Fz.of_own {z : Z} {vol : List (Addr × HO)} {a : Addr} (h : Fz (z.own vol) a) : Fz z a ∧ ∀ o, (a, o) ∉ vol := ⟨⟨h.1, fun o m => h.2 o (List.mem_append_right _ m)⟩, fun o m => h.2 o (List.mem_append_left _ m)⟩
theorem Fz.to_own {z : Z} {vol : List (Addr × HO)} {a : Addr} (h : Fz z a) (n : ∀ o, (a, o) ∉ vol) : Fz (z.own vol) a := ⟨h.1, fun o m => by
  rcases List.mem_append.mp m with m | m
  · exact n o m
  · exact h.2 o m⟩
section
variable {z : Z} {Hc H H' : Hp} {vol : List (Addr × HO)} {σ : L2.St} {es : List Sl} {s s' : S}
/-- what was there at the entry is none of the def's own lists -/
theorem OI.old (I : OI z Hc H vol σ es s) {a : Addr} {o : HO} (h : Hc a = some o) : ∀ u, (a, u) ∉ vol := fun u m => by
  rw [I.new _ m] at h
  cases h
theorem OI.ezc (I : OI z Hc H vol σ es s) (e : Ez (z.own vol) H H') : Ez z Hc H' := fun a o f h => e a o (f.to_own (I.old h)) (I.ez a o f h)
theorem OI.atz (I : OI z Hc H vol σ es s) (a : At (z.own vol) H' s') : At z H' s' := ⟨a.d, fun p m => a.v p (List.mem_append_right _ m), fun p m => a.n p (List.mem_append_right _ m)⟩
/-- an expression's run, that changes no list of its own -/
theorem OI.step (I : OI z Hc H vol σ es s) (e : Ez (z.own vol) H H') (a : At (z.own vol) H' s') : OI z Hc H' vol σ es s' := ⟨I.new, I.nd, I.base, a, I.en.mono e, I.ezc e, I.far, I.two⟩
end
/-- how a block ends -/
def MO (z : Z) (Hc : Hp) (D : Ends) : Out → Prop
  | .nx es s => ∀ vol σ' H', OI z Hc H' vol σ' es s → D.nx σ' H'
  | .rt d s => ∀ v H', Ez z Hc H' → At z H' s → Da z H' v d → D.rt v H'
/-- a block that may hold lists of its own -/
def SO (X : Cx) (st : List Stmt) (es : List Sl) (s : S) (o : Out) : Prop := ∀ (z : Z) (Hc H : Hp) vol σ, OI z Hc H vol σ es s → ∀ D : Ends, MO z Hc D o → wB X st D σ H
section
variable {X : Cx} {es es1 es2 fs : List Sl} {s s1 s2 s' : S} {a b c e : Expr} {xs : List Expr} {pos p p1 p2 p3 p4 apos : Pos} {d d1 d2 : PyData} {ds : List PyData} {o : Out} {st : Stmt} {rest body els : List Stmt}
theorem so_nil : SO X [] es s (.nx es s) := fun z Hc H vol σ I D q => ⟨_, pss_nil, q vol σ H I⟩
theorem so_ret (h : ∀ z, EV X z e es s d s1) : SO X (.Return (some e) pos :: rest) es s (.rt d s1) := fun z Hc H vol σ I D q =>
  ⟨_, pss_cons (ps_ret wE_ok) wB_never, h _ σ H I.en I.at_ _ fun v H1 e1 a1 v1 => q v H1 (I.ezc e1) (I.atz a1) (v1.re fun a o f h => ⟨f.of_own.1, h⟩)⟩
/-- a list of one's own is handed back -/
theorem so_retO (i : Nat) {x : Str} (h : es[i]? = some (.own ds) := by rfl) (hN : X.N[i]? = some x := by rfl) (hv : Vis X.env.scope x := by first | exact Or.inl rfl | exact Or.inr (Or.inl rfl) | exact Or.inr (Or.inr rfl)) (hd : (x == ("__debug__" : Str)) = false := by decide) (hcd : (x == ("__classdict__" : Str)) = false := by decide) :
    SO X (.Return (some (.Name x p)) pos :: rest) es s (.rt (.list ds) s) := fun z Hc H vol σ I D q => by
  obtain ⟨y, hy, r⟩ := I.en.slot h
  cases r with
  | @own a vs _ m k =>
    have hc := I.far i ds a h hy
    have ha : H a = some (.lst vs) := I.at_.v _ m
    have f : Fz z a := ⟨fun e => I.at_.n _ m e, fun o mo => I.base _ mo hc⟩
    exact ⟨_, pss_cons (ps_ret (pe_var hN hv hd hcd)) wB_never, _, hy, q _ H I.ez (I.atz I.at_) (.lst f ha (k.re fun b u fb hb => ⟨fb.of_own.1, hb⟩))⟩
theorem OI.set {z : Z} {Hc H H' : Hp} {vol : List (Addr × HO)} {σ : L2.St} (I : OI z Hc H vol σ es s) (e : Ez (z.own vol) H H') (a : At (z.own vol) H' s1) (i : Nat) {v : V} (hv : Da (z.own vol) H' v d) : OI z Hc H' vol (σ.set i (some v)) (es.set i (.val d)) s1 := by
  refine ⟨I.new, I.nd, I.base, a, (I.en.mono e).set i (.val hv), I.ezc e, fun j ds p h1 h2 => ?_, fun j k ds ds' p n h1 h2 h3 => ?_⟩
  · by_cases hj : i = j
    · subst hj
      have : (es.set i (Sl.val d))[i]? = some (.val d) ∨ (es.set i (Sl.val d))[i]? = none := by
        by_cases hl : i < es.length
        · left; rw [List.getElem?_set_self hl]
        · right; rw [List.getElem?_eq_none (by rw [List.length_set]; omega)]
      rcases this with e | e <;> rw [e] at h1 <;> cases h1
    · rw [List.getElem?_set_ne hj] at h1 h2
      exact I.far j ds p h1 h2
  · have ne : ∀ {m : Nat} {ds : List PyData}, (es.set i (Sl.val d))[m]? = some (.own ds) → i ≠ m := fun {m ds} h e => by
      subst e
      by_cases hl : i < es.length
      · rw [List.getElem?_set_self hl] at h
        cases h
      · rw [List.getElem?_eq_none (by rw [List.length_set]; omega)] at h
        cases h
    have nj := ne h1
    have nk := ne h2
    rw [List.getElem?_set_ne nj] at h1 h3
    rw [List.getElem?_set_ne nk] at h2 ⊢
    exact I.two j k ds ds' p n h1 h2 h3
theorem so_asg (i : Nat) {x : Str} (hN : X.N.Nodup) (h : ∀ z, EV X z e es s d s1) (k : SO X rest (es.set i (.val d)) s1 o) (hi : X.N[i]? = some x := by rfl) (hx : Loc X.env.scope x := by first | exact Or.inl rfl | exact Or.inr rfl)
    (hs : swapsWith e (some (.Name x p)) pos.line X.env = pure false := by rfl) (hf : X.fn x = true ∨ X.env.scope.names.lookup x = some .local := by first | exact .inl rfl | exact .inr rfl) : SO X (.Assign [.Name x p] e pos :: rest) es s o := fun z Hc H vol σ I D q =>
  ⟨_, pss_cons (ps_set hN hi hx wE_ok hs hf) wB_ok, h _ σ H I.en I.at_ _ fun v H1 e1 a1 v1 => k z Hc H1 vol _ (I.set e1 a1 i v1) D q⟩
/-- a block that leaves the own lists alone, by the rules of part 4 -/
theorem so_of (h : ∀ z, SR X z body es s (.rt d s1)) : SO X body es s (.rt d s1) := fun z Hc H vol σ I D q =>
  h _ σ H I.en I.at_ D fun v H1 e1 a1 v1 => q v H1 (I.ezc e1) (I.atz a1) (v1.re fun a o f h => ⟨f.of_own.1, h⟩)
theorem so_ifT (hc : ∀ z, ET X z c es s true s1) (h : SO X body es s1 (.rt d s2)) : SO X (.If c body els pos :: rest) es s (.rt d s2) := fun z Hc H vol σ I D q =>
  ⟨_, pss_cons (ps_if wT_ok wB_ok wB_never) wB_never, hc _ σ H I.en I.at_ _ fun H1 e1 a1 => iteT (h z Hc H1 vol σ (I.step e1 a1) _ q)⟩
theorem so_ifTn (hc : ∀ z, ET X z c es s true s1) (h : SO X body es s1 (.nx es2 s2)) (k : SO X rest es2 s2 o) : SO X (.If c body els pos :: rest) es s o := fun z Hc H vol σ I D q =>
  ⟨_, pss_cons (ps_if wT_ok wB_ok wB_never) wB_ok, hc _ σ H I.en I.at_ _ fun H1 e1 a1 => iteT (h z Hc H1 vol σ (I.step e1 a1) _ fun vol' σ' H' I' => k z Hc H' vol' σ' I' D q)⟩
theorem so_ifF (hc : ∀ z, ET X z c es s false s1) (k : SO X rest es s1 o) : SO X (.If c body [] pos :: rest) es s o := fun z Hc H vol σ I D q =>
  ⟨_, pss_cons (ps_if wT_ok wB_never pss_nil) wB_ok, hc _ σ H I.en I.at_ _ fun H1 e1 a1 => iteF (k z Hc H1 vol σ (I.step e1 a1) D q)⟩
theorem so_elFn (hc : ∀ z, ET X z c es s false s1) (h : SO X els es s1 (.nx es2 s2)) (k : SO X rest es2 s2 o) : SO X (.If c body els pos :: rest) es s o := fun z Hc H vol σ I D q =>
  ⟨_, pss_cons (ps_if wT_ok wB_never wB_ok) wB_ok, hc _ σ H I.en I.at_ _ fun H1 e1 a1 => iteF (h z Hc H1 vol σ (I.step e1 a1) _ fun vol' σ' H' I' => k z Hc H' vol' σ' I' D q)⟩
theorem so_expr (h : ∀ z, EV X z e es s d s1) (k : SO X rest es s1 o) (hs : swapsWith e none pos.line X.env = pure false := by rfl) : SO X (.Expr e pos :: rest) es s o := fun z Hc H vol σ I D q =>
  ⟨_, pss_cons (ps_expr wE_ok hs) wB_ok, h _ σ H I.en I.at_ _ fun v H1 e1 a1 v1 => k z Hc H1 vol σ (I.step e1 a1) D q⟩
/-! a new list, not yet known to anybody -/
def EN (X : Cx) (z : Z) (e : Expr) (es : List Sl) (s : S) (ds : List PyData) (s' : S) : Prop := ∀ σ H, En z H σ es → At z H s → ∀ Q : VK, (∀ p vs H1, Ez z H H1 → At z H1 s' → H1 p = none → DaAll z H1 vs ds → Q (.ref p) (upd H1 p (.lst vs))) → wE X e σ H Q
theorem en_lst {z : Z} (h : ED X z xs es s ds s') (hl : ds.length ≤ 100000 := by exact Nat.le_of_ble_eq_true rfl) : EN X z (.List xs pos) es s ds s' := fun σ H en at_ Q q => ⟨_, pe_lst wA_ok,
  h σ H en at_ _ fun vs H1 e1 a1 v1 => ⟨by rw [v1.length]; exact Nat.le_trans hl (by decide), fun p hp => q p vs H1 e1 a1 hp v1⟩⟩
theorem so_new (i : Nat) {x : Str} (hN : X.N.Nodup) (h : ∀ z, EN X z e es s ds s1) (k : SO X rest (es.set i (.own ds)) s1 o) (hi : X.N[i]? = some x := by rfl) (hx : Loc X.env.scope x := by first | exact Or.inl rfl | exact Or.inr rfl)
    (hs : swapsWith e (some (.Name x p)) pos.line X.env = pure false := by rfl) (hf : X.fn x = true ∨ X.env.scope.names.lookup x = some .local := by first | exact .inl rfl | exact .inr rfl) : SO X (.Assign [.Name x p] e pos :: rest) es s o := fun z Hc H vol σ I D q =>
  ⟨_, pss_cons (ps_set hN hi hx wE_ok hs hf) wB_ok, h _ σ H I.en I.at_ _ fun a vs H1 e1 a1 ha r => k z Hc _ ((a, .lst vs) :: vol) _ (by
    have nc : Hc a = none := by
      cases hh : Hc a with
      | none => rfl
      | some u =>
        have f : Fz (z.own vol) a := a1.fresh ha
        rw [I.ezc e1 a u f.of_own.1 hh] at ha
        cases ha
    have fa := a1.fresh ha
    have e2 : Ez (z.own vol) H1 (upd H1 a (.lst vs)) := .new ha
    have re : ∀ (b : Addr) (u : HO), Fz (z.own vol) b → H1 b = some u → Fz (z.own ((a, .lst vs) :: vol)) b ∧ upd H1 a (.lst vs) b = some u := fun b u fb hb => by
      have nb := ne_of_none hb ha
      refine ⟨⟨fb.1, fun o m => ?_⟩, by rw [upd_ne nb]; exact hb⟩
      rcases List.mem_cons.mp m with e | m
      · exact nb (congrArg Prod.fst e)
      · exact fb.2 o m
    have notin : ∀ u, (a, u) ∉ vol := fun u m => fa.2 u (List.mem_append_left _ m)
    refine ⟨?_, ?_, I.base, ⟨?_, ?_, ?_⟩, ?_, (I.ezc e1).trans (.new ha), ?_, ?_⟩
    · intro q hq
      rcases List.mem_cons.mp hq with e | m
      · rw [e]
        exact nc
      · exact I.new q m
    · show ((a :: vol.map (·.1)) : List Addr).Nodup
      refine List.nodup_cons.mpr ⟨fun m => ?_, I.nd⟩
      obtain ⟨q, hq, e⟩ := List.mem_map.mp m
      exact notin q.2 (by rw [← e]; exact hq)
    · intro b hb
      have := a1.d b hb
      rw [upd_ne (ne_of_none this ha)]
      exact this
    · intro q hq
      rcases List.mem_cons.mp hq with e | m
      · rw [e]
        exact upd_same
      · have := a1.v q m
        rw [upd_ne (ne_of_none this ha)]
        exact this
    · intro q hq
      rcases List.mem_cons.mp hq with e | m
      · rw [e]
        exact fa.1
      · exact a1.n q m
    · exact (En.re (z := z.own vol) (z' := z.own ((a, .lst vs) :: vol)) rfl (fun q m => List.mem_cons_of_mem _ m) re (I.en.mono e1)).set i (.own (List.mem_cons_self ..) (r.re re))
    · intro j ds' b h1 h2
      by_cases hj : i = j
      · subst hj
        by_cases hl : i < σ.length
        · rw [List.getElem?_set_self hl] at h2
          cases h2
          exact nc
        · rw [List.getElem?_eq_none (by rw [List.length_set]; omega)] at h2
          cases h2
      · rw [List.getElem?_set_ne hj] at h1 h2
        exact I.far j ds' b h1 h2
    · intro j l ds1 ds2 b n h1 h2 h3 h4
      have own_ne : ∀ {m : Nat} {ds' : List PyData}, i ≠ m → (es.set i (Sl.own ds))[m]? = some (.own ds') → (σ.set i (some (.ref a)))[m]? = some (some (.ref b)) → b ≠ a := fun {m ds'} hm g1 g2 e => by
        rw [List.getElem?_set_ne hm] at g1 g2
        subst e
        obtain ⟨y, hy, r⟩ := I.en.slot g1
        rw [g2] at hy
        cases hy
        cases r with
        | own mm _ =>
          have := a1.v _ mm
          rw [show H1 b = _ from this] at ha
          cases ha
      have self : ∀ {m : Nat}, i = m → (σ.set i (some (.ref a)))[m]? = some (some (.ref b)) → b = a := fun {m} hm g => by
        subst hm
        by_cases hl : i < σ.length
        · rw [List.getElem?_set_self hl] at g
          cases g
          rfl
        · rw [List.getElem?_eq_none (by rw [List.length_set]; omega)] at g
          cases g
      by_cases hj : i = j
      · exact own_ne (fun e => n (hj.symm.trans e)) h2 h4 (self hj h3)
      · by_cases hl : i = l
        · exact own_ne hj h1 h3 (self hl h4)
        · rw [List.getElem?_set_ne hj] at h1 h3
          rw [List.getElem?_set_ne hl] at h2 h4
          exact I.two j l ds1 ds2 b n h1 h2 h3 h4) D q⟩
/-- the list in slot i changed in place -/
theorem OI.write {z : Z} {Hc H H' : Hp} {vol : List (Addr × HO)} {σ : L2.St} {a : Addr} {vs vs' : List V} {ds' : List PyData} {i : Nat} (I : OI z Hc H vol σ es s) (h : es[i]? = some (.own ds)) (hy : σ[i]? = some (some (.ref a))) (m : (a, HO.lst vs) ∈ (z.own vol).vol)
    (e1 : Ez (z.own vol) H H') (a1 : At (z.own vol) H' s1) (r : DaAll (z.own vol) H' vs' ds') : ∃ vol', OI z Hc (upd H' a (.lst vs')) vol' σ (es.set i (.own ds')) s1 := by
  have hc := I.far i ds a h hy
  have mv : (a, HO.lst vs) ∈ vol := by
    rcases List.mem_append.mp m with m | m
    · exact m
    · exact absurd hc (I.base _ m)
  have nz : ∀ q ∈ z.vol, q.1 ≠ a := fun q hq e => I.base q hq (by rw [e]; exact hc)
  let g : Addr × HO → Addr × HO := fun q => if q.1 = a then (a, .lst vs') else q
  have g1 : ∀ q, (g q).1 = q.1 := fun q => by
    show (if q.1 = a then (a, HO.lst vs') else q).1 = q.1
    by_cases e : q.1 = a
    · rw [if_pos e, e]
    · rw [if_neg e]
  have gm : vol.map (fun q => (g q).1) = vol.map (·.1) := by
    congr 1
    funext q
    exact g1 q
  have keep : ∀ {q : Addr × HO}, q.1 ≠ a → g q = q := fun {q} hn => if_neg hn
  have re : ∀ (b : Addr) (u : HO), Fz (z.own vol) b → H' b = some u → Fz (z.own (vol.map g)) b ∧ upd H' a (.lst vs') b = some u := fun b u fb hb => by
    have nb : b ≠ a := fun e => fb.2 (.lst vs) (by rw [e]; exact List.mem_append_left _ mv)
    refine ⟨⟨fb.1, fun o mo => ?_⟩, by rw [upd_ne nb]; exact hb⟩
    rcases List.mem_append.mp mo with mo | mo
    · obtain ⟨q, hq, e⟩ := List.mem_map.mp mo
      have q1 : q.1 = b := by rw [← g1 q, e]
      have : g q = q := keep (by rw [q1]; exact nb)
      rw [this] at e
      exact fb.2 o (List.mem_append_left _ (by rw [← e]; exact hq))
    · exact fb.2 o (List.mem_append_right _ mo)
  refine ⟨vol.map g, ⟨?_, ?_, I.base, ⟨?_, ?_, ?_⟩, ?_, ?_, ?_, ?_⟩⟩
  · intro q hq
    obtain ⟨q0, h0, e⟩ := List.mem_map.mp hq
    rw [← e, g1]
    exact I.new q0 h0
  · rw [List.map_map]
    show (vol.map fun q => (g q).1).Nodup
    rw [gm]
    exact I.nd
  · intro b hb
    rw [upd_ne (fun e => a1.n _ m (by rw [← e]; exact hb))]
    exact a1.d b hb
  · intro q hq
    rcases List.mem_append.mp hq with mo | mo
    · obtain ⟨q0, h0, e⟩ := List.mem_map.mp mo
      by_cases hn : q0.1 = a
      · have : g q0 = (a, .lst vs') := if_pos hn
        rw [← e, this]
        exact upd_same
      · rw [← e, keep hn, upd_ne hn]
        exact a1.v q0 (List.mem_append_left _ h0)
    · rw [upd_ne (nz q mo)]
      exact a1.v q (List.mem_append_right _ mo)
  · intro q hq
    rcases List.mem_append.mp hq with mo | mo
    · obtain ⟨q0, h0, e⟩ := List.mem_map.mp mo
      rw [← e, g1]
      exact a1.n q0 (List.mem_append_left _ h0)
    · exact a1.n q (List.mem_append_right _ mo)
  · have en1 := I.en.mono e1
    have ma : (a, HO.lst vs') ∈ vol.map g := List.mem_map.mpr ⟨_, mv, if_pos rfl⟩
    refine En.by_slots (by rw [List.length_set, en1.length]) fun j x e hx he => ?_
    by_cases hj : i = j
    · subst hj
      have hl : i < es.length := (List.getElem?_eq_some_iff.mp h).1
      rw [List.getElem?_set_self hl] at he
      cases he
      rw [hy] at hx
      cases hx
      exact .own (List.mem_append_left _ ma) (r.re re)
    · rw [List.getElem?_set_ne hj] at he
      obtain ⟨y, hy2, rr⟩ := en1.slot he
      rw [hx] at hy2
      cases hy2
      cases rr with
      | un => exact .un
      | val d => exact .val (d.re re)
      | dice e => exact .dice e
      | raw => exact .raw
      | @own b ws es' mm k =>
        have nb : b ≠ a := fun e => I.two i j _ _ a hj h he hy (by rw [← e]; exact hx)
        refine .own ?_ (k.re re)
        rcases List.mem_append.mp mm with mm | mm
        · exact List.mem_append_left _ (List.mem_map.mpr ⟨_, mm, keep nb⟩)
        · exact List.mem_append_right _ mm
  · intro b u fb hb
    have nb : b ≠ a := fun e => by
      rw [e, hc] at hb
      cases hb
    rw [upd_ne nb]
    exact I.ezc e1 b u fb hb
  · intro j ds2 b h1 h2
    by_cases hj : i = j
    · subst hj
      rw [hy] at h2
      cases h2
      exact hc
    · rw [List.getElem?_set_ne hj] at h1
      exact I.far j ds2 b h1 h2
  · intro j l ds1 ds2 b n h1 h2 h3
    have back : ∀ {m : Nat} {ds2 : List PyData}, (es.set i (Sl.own ds'))[m]? = some (.own ds2) → ∃ ds3, es[m]? = some (.own ds3) := fun {m ds2} hm => by
      by_cases e : i = m
      · subst e
        exact ⟨ds, h⟩
      · rw [List.getElem?_set_ne e] at hm
        exact ⟨_, hm⟩
    obtain ⟨d3, h1'⟩ := back h1
    obtain ⟨d4, h2'⟩ := back h2
    exact I.two j l d3 d4 b n h1' h2' h3
end
end DL


set_option Elab.async false
set_option linter.all false
set_option maxRecDepth 100000
namespace DL
open PySem PySem.Spec PyProof.Rows L2
/-! ### 10. comprehensions without a test -/
section
variable {X : Cx} {z : Z} {es es1 es2 : List Sl} {s s1 s2 : S} {iter elt cond a b e : Expr} {ds fs : List PyData} {d d1 d2 : PyData} {o : Out} {rest body els : List Stmt} {pos p p1 p2 p3 p4 : Pos}
abbrev PgIn (X : Cx) (scope : Scope) (t : Expr) (g : TG) : Prop := ∀ (s : Shared) (H : Hp) (C : Addr) (cl : List (Str × Addr)) (fp : List Addr), PG (X.blk s H scope (compEnvC scope cl C X.env) fp) t g
theorem take_succ {ds : List PyData} {f : PyData → PyData} {i : Nat} {d : PyData} (h : ds[i]? = some d) : (ds.take (i + 1)).map f = (ds.take i).map f ++ [f d] := by
  rw [List.take_add_one, h, List.map_append]
  rfl
/-- [e for x in a list] -/
theorem ev_lcF {j : Nat} {x : Str} {scope : Scope} (hc : X.calm = true) (hN : X.N.Nodup) (f : PyData → PyData) (hit : EV X z iter es s (.list ds) s) (hl : ds.length ≤ 100000) (hB : BlkOk X.N X.env.scope scope [(x, j)]) (hg : PgIn X scope (.Name x p) (gName j))
    (He : ∀ d ∈ ds, ∀ z' : Z, Blk X scope fun Y => EV Y z' elt (es.set j (.val d)) s (f d) s) (hs : ∀ x, foldedSetIterable iter X.env x = pure x := by intro _; rfl) :
    EV X z (.ListComp elt [{ target := .Name x p, iter := iter, ifs := [], is_async := 0 }] scope pos) es s (.list (ds.map f)) s :=
  .mk (pe_lc (own := [(x, j)]) hc hN (pi_list wE_ok) hB hg (fun _ _ _ _ _ => pts_nil) tEl_ok hs) (by
    have g := lc_read (X := X) (te := tEl X scope elt) (tt := tYes) (j := j) hit hl (fun _ => true) (fun i => (ds.take i).map f) (fun _ => s) (fun _ => s) rfl rfl (fun z' i d hd σ H en at_ Q q => q H (.refl H) at_)
      (fun z' i d hd _ => ⟨f d, take_succ hd, fun σ H en at_ Q q s0 H0 C cl fp => He d (List.mem_of_getElem? hd) z' s0 H0 C cl fp σ H en at_ Q q⟩) (fun i d _ h => by cases h)
    rw [List.take_length] at g
    exact g)
/-- [e for x in a tuple] -/
theorem ev_lcFT {j : Nat} {x : Str} {scope : Scope} (hc : X.calm = true) (hN : X.N.Nodup) (f : PyData → PyData) (hit : EV X z iter es s (.tuple ds) s) (hl : ds.length ≤ 100000) (hB : BlkOk X.N X.env.scope scope [(x, j)]) (hg : PgIn X scope (.Name x p) (gName j))
    (He : ∀ d ∈ ds, ∀ z' : Z, Blk X scope fun Y => EV Y z' elt (es.set j (.val d)) s (f d) s) (hs : ∀ x, foldedSetIterable iter X.env x = pure x := by intro _; rfl) :
    EV X z (.ListComp elt [{ target := .Name x p, iter := iter, ifs := [], is_async := 0 }] scope pos) es s (.list (ds.map f)) s :=
  .mk (pe_lc (own := [(x, j)]) hc hN (pi_tup wE_ok) hB hg (fun _ _ _ _ _ => pts_nil) tEl_ok hs) fun σ H en at_ Q q => by
    refine hit σ H en at_ _ fun v H1 e1 a1 v1 => ?_
    cases v1 with
    | @tup a xs _ fa ha r =>
      have hx : xs.length = ds.length := r.length
      have g : ∀ i, i < xs.length → ds[i]? = some (ds.getD i .none) := fun i hi => by
        rw [List.getD_eq_getElem?_getD, List.getElem?_eq_getElem (by omega)]
        rfl
      refine ⟨a, rfl, ⟨xs, .inl (.inl ha)⟩, fun D hD => ?_⟩
      refine lc_gen (walk_tup (K := X.K) (a := a) (xs := xs)) (fun _ => s) (fun _ => s) (en.mono e1) a1 hD (fun i => ds.getD i .none) (fun H' e => .inl (.inl (e a _ fa ha))) (fun i x H' H2 hi hy => ⟨hy.1, ?_⟩) (by omega) (fun _ => true) (fun i => (ds.take i).map f) rfl (fun z' i hi σ H en at_ Q q => q H (.refl H) at_)
        (fun z' i hi _ => ⟨f (ds.getD i .none), take_succ (g i hi), fun σ H en at_ Q q s0 H0 C cl fp => He _ (List.mem_of_getElem? (g i hi)) z' s0 H0 C cl fp σ H en at_ Q q⟩) (fun i _ h => by cases h) (fun H' e a2 d2 => ?_)
      · obtain ⟨d, hd, hv⟩ := r.getV i x hy.2
        have := g i hi
        rw [hd] at this
        rw [← Option.some.inj this]
        exact hv
      · rw [hx, List.take_length] at d2
        exact q _ H' (e1.trans e) a2 d2
/-- [e for x in range(n)], the state going along -/
theorem ev_lcFR {j : Nat} {x : Str} {scope : Scope} {n : Nat} (hc : X.calm = true) (hN : X.N.Nodup) (hm : X.mg "range" = none) (f : Nat → PyData) (T : Nat → S) (hit : ED X z [a] es s [.int (n : Int)] s1) (t0 : T 0 = s1) (hl : n ≤ 100000) (hB : BlkOk X.N X.env.scope scope [(x, j)]) (hg : PgIn X scope (.Name x p) (gName j))
    (He : ∀ i : Nat, i < n → ∀ z' : Z, Blk X scope fun Y => EV Y z' elt (es.set j (.val (.int (i : Int)))) (T i) (f i) (T (i + 1))) (hgl : Gl X "range" := by rfl) (hst : starEach [a] X.env = [(false, eval a X.env)] := by rfl) (hs : ∀ x, foldedSetIterable (.Call (.Name "range" p1) [a] [] p2) X.env x = pure x := by intro _; rfl) :
    EV X z (.ListComp elt [{ target := .Name x p, iter := .Call (.Name "range" p1) [a] [] p2, ifs := [], is_async := 0 }] scope pos) es s (.list ((List.range n).map f)) (T n) :=
  .mk (pe_lc (own := [(x, j)]) hc hN (pi_range1 hgl hm wA_ok hst) hB hg (fun _ _ _ _ _ => pts_nil) tEl_ok hs) fun σ H en at_ Q q => by
    refine hit σ H en at_ _ fun vs H1 e1 a1 v1 => ?_
    cases v1 with
    | cons h r =>
      cases r
      cases h
      refine ⟨(n : Int), rfl, by omega, by omega, fun D hD => ?_⟩
      rw [Int.toNat_natCast]
      refine lc_gen (walk_range (lo := 0) (n := n)) T T (en.mono e1) (t0 ▸ a1) hD (fun i => .int (i : Int)) (fun H' e => trivial) (fun i x H' H2 hi hy => ⟨hy.1, ?_⟩) hl (fun _ => true) (fun i => (List.range i).map f) rfl (fun z' i hi σ H en at_ Q q => q H (.refl H) at_)
        (fun z' i hi _ => ⟨f i, by rw [List.range_succ, List.map_append]; rfl, fun σ H en at_ Q q s0 H0 C cl fp => He i hi z' s0 H0 C cl fp σ H en at_ Q q⟩) (fun i _ h => by cases h) (fun H' e a2 d2 => q _ H' (e1.trans e) a2 d2)
      rw [hy.2]
      show Da z H1 (.int (0 + (i : Int))) _
      rw [Int.zero_add]
      exact .int _
/-- [e for x, y in a list of pairs] -/
theorem ev_lcP {j k : Nat} {x y : Str} {scope : Scope} {kt : Nat} (hc : X.calm = true) (hN : X.N.Nodup) (hjk : j ≠ k) (ps : List (PyData × PyData)) (f : PyData × PyData → PyData) (hit : EV X z iter es s (.list (ps.map fun q => .tuple [q.1, q.2])) s) (hl : ps.length ≤ 100000) (hB : BlkOk X.N X.env.scope scope [(x, j), (y, k)])
    (hg : PgIn X scope (.Tuple [.Name x p, .Name y p1] kt p2) (gTup X.K 2 (gCons (gName j) (gCons (gName k) gNil))))
    (He : ∀ q ∈ ps, ∀ z' : Z, Blk X scope fun Y => EV Y z' elt ((es.set j (.val q.1)).set k (.val q.2)) s (f q) s) (hs : ∀ x, foldedSetIterable iter X.env x = pure x := by intro _; rfl) :
    EV X z (.ListComp elt [{ target := .Tuple [.Name x p, .Name y p1] kt p2, iter := iter, ifs := [], is_async := 0 }] scope pos) es s (.list (ps.map f)) s :=
  .mk (pe_lc (own := [(x, j), (y, k)]) hc hN (pi_list wE_ok) hB hg (fun _ _ _ _ _ => pts_nil) tEl_ok hs) fun σ H en at_ Q q => by
    refine hit σ H en at_ _ fun v H1 e1 a1 v1 => ?_
    cases v1 with
    | @lst a xs _ fa ha r =>
      have hx : xs.length = ps.length := by rw [r.length, List.length_map]
      have g : ∀ i, i < xs.length → ps[i]? = some (ps.getD i (.none, .none)) := fun i hi => by
        rw [List.getD_eq_getElem?_getD, List.getElem?_eq_getElem (by omega)]
        rfl
      refine ⟨a, rfl, ⟨xs, .inl (.inl ha)⟩, fun D hD => ?_⟩
      refine lc_two (K := X.K) (walk_list (K := X.K) (a := a) (xs := xs)) (fun _ => s) (fun _ => s) (en.mono e1) a1 hD hjk (fun i => (ps.getD i (.none, .none)).1) (fun i => (ps.getD i (.none, .none)).2) (fun H' e => .inl (.inl (e a _ fa ha))) (fun i x H' H2 hi eH hy => ?_) (by omega) (fun _ => true) (fun i => (ps.take i).map f) rfl
        (fun z' i hi σ H en at_ Q q => q H (.refl H) at_) (fun z' i hi _ => ⟨f (ps.getD i (.none, .none)), by rw [List.take_add_one, g i hi, List.map_append]; rfl, fun σ H en at_ Q q s0 H0 C cl fp => He _ (List.mem_of_getElem? (g i hi)) z' s0 H0 C cl fp σ H en at_ Q q⟩) (fun i _ h => by cases h) (fun H' e a2 d2 => ?_)
      · obtain ⟨d, hd, hv⟩ := r.getV i x hy.2
        rw [List.getElem?_map, g i hi] at hd
        have e0 : PyData.tuple [(ps.getD i (.none, .none)).1, (ps.getD i (.none, .none)).2] = d := Option.some.inj hd
        subst e0
        cases hv with
        | @tup t us _ ft ht rt =>
          cases rt with
          | cons h1 rt =>
            cases rt with
            | cons h2 rt =>
              cases rt
              exact ⟨t, _, _, rfl, .inl (.inl (by rw [hy.1]; exact eH t _ ft ht)), .inl hy.1, h1, h2⟩
      · rw [hx, List.take_length] at d2
        exact q _ H' (e1.trans e) a2 d2
/-- [e for x, y in zip(a, b)], two lists of one length -/
theorem ev_lcZ {j k : Nat} {x y : Str} {scope : Scope} {kt : Nat} (hc : X.calm = true) (hN : X.N.Nodup) (hm : X.mg "zip" = none) (hjk : j ≠ k) (f : PyData → PyData → PyData) (hit : ED X z [a, b] es s [.list ds, .list fs] s) (hlen : ds.length = fs.length) (hl : ds.length ≤ 100000) (hB : BlkOk X.N X.env.scope scope [(x, j), (y, k)])
    (hg : PgIn X scope (.Tuple [.Name x p, .Name y p1] kt p2) (gTup X.K 2 (gCons (gName j) (gCons (gName k) gNil))))
    (He : ∀ (i : Nat) (d1 d2 : PyData), ds[i]? = some d1 → fs[i]? = some d2 → ∀ z' : Z, Blk X scope fun Y => EV Y z' elt ((es.set j (.val d1)).set k (.val d2)) s (f d1 d2) s) (hgl : Gl X "zip" := by rfl) (hst : starEach [a, b] X.env = (false, eval a X.env) :: starEach [b] X.env := by rfl) (hpl : (backTo p4 (starEach [b] X.env)).any (·.1) = false := by rfl)
    (hs : ∀ x, foldedSetIterable (.Call (.Name "zip" p3) [a, b] [] p4) X.env x = pure x := by intro _; rfl) :
    EV X z (.ListComp elt [{ target := .Tuple [.Name x p, .Name y p1] kt p2, iter := .Call (.Name "zip" p3) [a, b] [] p4, ifs := [], is_async := 0 }] scope pos) es s (.list (List.zipWith f ds fs)) s :=
  .mk (pe_lc (own := [(x, j), (y, k)]) hc hN (pi_zip hgl hm wA_ok hst hpl) hB hg (fun _ _ _ _ _ => pts_nil) tEl_ok hs) fun σ H en at_ Q q => by
    refine hit σ H en at_ _ fun vs H1 e1 a1 v1 => ?_
    cases v1 with
    | cons h1 r =>
      cases r with
      | cons h2 r =>
        cases r
        cases h1 with
        | @lst a1' xs _ fa ha r1 =>
          cases h2 with
          | @lst b1' ys _ fb hb r2 =>
            have hx : xs.length = ds.length := r1.length
            have hy : ys.length = fs.length := r2.length
            have g1 : ∀ i, i < ds.length → ds[i]? = some (ds.getD i .none) := fun i hi => by
              rw [List.getD_eq_getElem?_getD, List.getElem?_eq_getElem hi]
              rfl
            have g2 : ∀ i, i < ds.length → fs[i]? = some (fs.getD i .none) := fun i hi => by
              rw [List.getD_eq_getElem?_getD, List.getElem?_eq_getElem (by omega)]
              rfl
            have zl : (List.zipWith f ds fs).length = ds.length := by rw [List.length_zipWith]; omega
            refine ⟨a1', b1', xs, ys, rfl, .inl (.inl ha), .inl (.inl hb), fun D hD => ?_⟩
            refine lc_two (K := X.K) (walk_zip (K := X.K) (a := a1') (b := b1') (xs := xs) (ys := ys) (n := ds.length) (by omega)) (fun _ => s) (fun _ => s) (en.mono e1) a1 hD hjk (fun i => ds.getD i .none) (fun i => fs.getD i .none) (fun H' e => ⟨.inl (.inl (e _ _ fa ha)), .inl (.inl (e _ _ fb hb))⟩) (fun i x H' H2 hi eH hY => ?_) hl (fun _ => true) (fun i => (List.zipWith f ds fs).take i) rfl
              (fun z' i hi σ H en at_ Q q => q H (.refl H) at_) (fun z' i hi _ => ⟨f (ds.getD i .none) (fs.getD i .none), by
                rw [List.take_add_one, List.getElem?_zipWith, g1 i hi, g2 i hi]
                rfl, fun σ H en at_ Q q s0 H0 C cl fp => He i _ _ (g1 i hi) (g2 i hi) z' s0 H0 C cl fp σ H en at_ Q q⟩) (fun i _ h => by cases h) (fun H' e a2 d2 => ?_)
            · obtain ⟨T, u, v, rfl, nT, rfl, hu, hv⟩ := hY
              obtain ⟨d, hd, hdu⟩ := r1.getV i u hu
              obtain ⟨d', hd', hdv⟩ := r2.getV i v hv
              rw [g1 i hi] at hd
              rw [g2 i hi] at hd'
              exact ⟨T, u, v, rfl, .inl (.inl upd_same), .inr ⟨nT, rfl⟩, by rw [Option.some.inj hd]; exact hdu, by rw [Option.some.inj hd']; exact hdv⟩
            · have : (List.zipWith f ds fs).take ds.length = List.zipWith f ds fs := List.take_of_length_le (by omega)
              rw [this] at d2
              exact q _ H' (e1.trans e) a2 d2
/-- [e for i, x in enumerate(a list)] -/
theorem ev_lcE {j k : Nat} {x y : Str} {scope : Scope} {kt : Nat} (hc : X.calm = true) (hN : X.N.Nodup) (hm : X.mg "enumerate" = none) (hjk : j ≠ k) (f : Nat → PyData → PyData) (hit : ED X z [a] es s [.list ds] s) (hl : ds.length ≤ 100000) (hB : BlkOk X.N X.env.scope scope [(x, j), (y, k)])
    (hg : PgIn X scope (.Tuple [.Name x p, .Name y p1] kt p2) (gTup X.K 2 (gCons (gName j) (gCons (gName k) gNil))))
    (He : ∀ (i : Nat) d, ds[i]? = some d → ∀ z' : Z, Blk X scope fun Y => EV Y z' elt ((es.set j (.val (.int (i : Int)))).set k (.val d)) s (f i d) s) (hgl : Gl X "enumerate" := by rfl) (hst : starEach [a] X.env = [(false, eval a X.env)] := by rfl)
    (hs : ∀ x, foldedSetIterable (.Call (.Name "enumerate" p3) [a] [] p4) X.env x = pure x := by intro _; rfl) :
    EV X z (.ListComp elt [{ target := .Tuple [.Name x p, .Name y p1] kt p2, iter := .Call (.Name "enumerate" p3) [a] [] p4, ifs := [], is_async := 0 }] scope pos) es s (.list (ds.mapIdx f)) s :=
  .mk (pe_lc (own := [(x, j), (y, k)]) hc hN (pi_enum hgl hm wA_ok hst) hB hg (fun _ _ _ _ _ => pts_nil) tEl_ok hs) fun σ H en at_ Q q => by
    refine hit σ H en at_ _ fun vs H1 e1 a1 v1 => ?_
    cases v1 with
    | cons h1 r =>
      cases r
      cases h1 with
      | @lst a1' xs _ fa ha r1 =>
        have hx : xs.length = ds.length := r1.length
        have g1 : ∀ i, i < xs.length → ds[i]? = some (ds.getD i .none) := fun i hi => by
          rw [List.getD_eq_getElem?_getD, List.getElem?_eq_getElem (by omega)]
          rfl
        refine ⟨a1', xs, rfl, .inl (.inl ha), fun D hD => ?_⟩
        refine lc_two (K := X.K) (walk_enum (K := X.K) (a := a1') (xs := xs)) (fun _ => s) (fun _ => s) (en.mono e1) a1 hD hjk (fun i => .int (i : Int)) (fun i => ds.getD i .none) (fun H' e => .inl (.inl (e _ _ fa ha))) (fun i x H' H2 hi eH hY => ?_) (by omega) (fun _ => true) (fun i => (ds.mapIdx f).take i) rfl
          (fun z' i hi σ H en at_ Q q => q H (.refl H) at_) (fun z' i hi _ => ⟨f i (ds.getD i .none), by
            rw [List.take_add_one, List.getElem?_mapIdx, g1 i hi]
            rfl, fun σ H en at_ Q q s0 H0 C cl fp => He i _ (g1 i hi) z' s0 H0 C cl fp σ H en at_ Q q⟩) (fun i _ h => by cases h) (fun H' e a2 d2 => ?_)
        · obtain ⟨T, u, v, rfl, nT, rfl, hu, hv⟩ := hY
          cases hu
          obtain ⟨d, hd, hdv⟩ := r1.getV i v hv
          rw [g1 i hi] at hd
          exact ⟨T, _, v, rfl, .inl (.inl upd_same), .inr ⟨nT, rfl⟩, .int _, by rw [Option.some.inj hd]; exact hdv⟩
        · have : (ds.mapIdx f).take xs.length = ds.mapIdx f := List.take_of_length_le (by rw [List.length_mapIdx]; omega)
          rw [this] at d2
          exact q _ H' (e1.trans e) a2 d2
end
end DL


set_option Elab.async false
set_option linter.all false
set_option maxRecDepth 100000
namespace DL
open PySem PySem.Spec PyProof.Rows L2
/-! ### 11. slices, repeats, tuples of lists; loops over lists -/
section
variable {X : Cx} {z : Z} {es es1 es2 : List Sl} {s s1 s2 s3 : S} {iter elt cond a b e : Expr} {ds fs : List PyData} {d d1 d2 : PyData} {o : Out} {rest body els : List Stmt} {pos p p1 p2 p3 p4 : Pos}
theorem DaAll.take {H : Hp} : ∀ {vs : List V} {ds : List PyData}, DaAll z H vs ds → ∀ n : Nat, DaAll z H (vs.take n) (ds.take n)
  | _, _, .nil, n => by simp only [List.take_nil]; exact .nil
  | _, _, .cons h r, 0 => .nil
  | _, _, .cons h r, n + 1 => .cons h (DaAll.take r n)
theorem DaAll.drop {H : Hp} : ∀ {vs : List V} {ds : List PyData}, DaAll z H vs ds → ∀ n : Nat, DaAll z H (vs.drop n) (ds.drop n)
  | _, _, .nil, n => by simp only [List.drop_nil]; exact .nil
  | _, _, .cons h r, 0 => .cons h r
  | _, _, .cons h r, n + 1 => DaAll.drop r n
theorem DaAll.rev {H : Hp} : ∀ {vs : List V} {ds : List PyData}, DaAll z H vs ds → DaAll z H vs.reverse ds.reverse
  | _, _, .nil => .nil
  | _, _, .cons h r => by
    rw [List.reverse_cons, List.reverse_cons]
    exact (DaAll.rev r).app (.cons h .nil)
theorem DaAll.rep {H : Hp} {vs : List V} {ds : List PyData} (h : DaAll z H vs ds) : ∀ n : Nat, DaAll z H (List.replicate n vs).flatten (List.replicate n ds).flatten
  | 0 => .nil
  | n + 1 => by
    rw [List.replicate_succ, List.replicate_succ, List.flatten_cons, List.flatten_cons]
    exact h.app (DaAll.rep h n)
/-- what a slice picks -/
def cutD (ds : List PyData) (lo hi : Option Int) : List PyData := (ds.drop (HT.sIx ds.length 0 lo)).take (HT.sIx ds.length ds.length hi - HT.sIx ds.length 0 lo)
theorem DaAll.cut {H : Hp} {vs : List V} {ds : List PyData} (h : DaAll z H vs ds) (lo hi : Option Int) : DaAll z H (cutV vs lo hi) (cutD ds lo hi) := by
  unfold cutV cutD
  rw [h.length]
  exact (h.drop _).take _
/-- xs[:n], xs[n:] of a list -/
theorem ev_slTo {i : Int} (ha : EV X z a es s (.list ds) s1) (hb : EV X z b es s1 (.int i) s2) : EV X z (.Subscript a (.Slice none (some b) none p) pos) es s (.list (cutD ds none (some i))) s2 :=
  .mk (pe_slice sl_list wE_ok po_none (po_some wE_ok)) fun σ H en at_ Q q => ha σ H en at_ _ fun v H1 e1 a1 v1 => hb σ H1 (en.mono e1) a1 _ fun u H2 e2 a2 v2 => by
    cases v2
    cases v1 with
    | lst n e r => exact ⟨i, rfl, _, _, rfl, .inl (.inl (e2 _ _ n e)), fun p hp => q _ _ ((e1.trans e2).trans (.new hp)) (a2.new hp) (.lst (a2.fresh hp) upd_same (((r.cut none (some i)).mono e2).mono (.new hp)))⟩
theorem ev_slFrom {i : Int} (ha : EV X z a es s (.list ds) s1) (hb : EV X z b es s1 (.int i) s2) : EV X z (.Subscript a (.Slice (some b) none none p) pos) es s (.list (cutD ds (some i) none)) s2 :=
  .mk (pe_slice sl_list wE_ok (po_some wE_ok) po_none) fun σ H en at_ Q q => ha σ H en at_ _ fun v H1 e1 a1 v1 => hb σ H1 (en.mono e1) a1 _ fun u H2 e2 a2 v2 => by
    cases v2
    cases v1 with
    | lst n e r => exact ⟨i, rfl, _, _, rfl, .inl (.inl (e2 _ _ n e)), fun p hp => q _ _ ((e1.trans e2).trans (.new hp)) (a2.new hp) (.lst (a2.fresh hp) upd_same (((r.cut (some i) none).mono e2).mono (.new hp)))⟩
theorem ev_rev {k : Nat} (ha : EV X z a es s (.list ds) s1) : EV X z (.Subscript a (.Slice none none (some (.UnaryOp .USub (.Constant (.int 1) k p1) p2)) p3) pos) es s (.list ds.reverse) s1 :=
  .mk (pe_revL wE_ok) fun σ H en at_ Q q => ha σ H en at_ _ fun v H1 e1 a1 v1 => by
    cases v1 with
    | lst n e r => exact ⟨_, _, rfl, .inl (.inl e), fun p hp => q _ _ (e1.trans (.new hp)) (a1.new hp) (.lst (a1.fresh hp) upd_same (r.rev.mono (.new hp)))⟩
/-- [..] * n -/
theorem ev_rep {n : Int} (hn : n < 100000) (hn0 : -100000 < n) (hl : ds.length * n.toNat ≤ 100000) (ha : EV X z a es s (.list ds) s1) (hb : EV X z b es s1 (.int n) s2) : EV X z (.BinOp a .Mult b pos) es s (.list (List.replicate n.toNat ds).flatten) s2 :=
  ev_opR (f := binaryOp .Mult) op_rep (fun u v H at_ hu hv Q q => by
    cases hv
    cases hu with
    | lst n1 e1 r1 =>
      exact ⟨_, n, _, rfl, rfl, e1, by omega, by omega, by rw [r1.length]; exact Nat.le_trans hl (by decide), fun p hp => q _ _ (.new hp) (at_.new hp) (.lst (at_.fresh hp) upd_same ((r1.rep n.toNat).mono (.new hp)))⟩) ha hb
/-- tuple(a list), list(a tuple), list(a list) -/
theorem rb_tuple {K : PySem.W.Frag} : RB z s (fun xs H Q => ∃ p ys, xs = [.ref p] ∧ ((SqL K H p ys ∧ ∀ l, H l = none → Q (.ref l) (upd H l (.tup ys))) ∨ (SqT K H p ys ∧ Q (.ref p) H))) [.list ds] (.tuple ds) := fun vs H at_ h Q q => by
  cases h with
  | cons h r =>
    cases r
    cases h with
    | lst n e r => exact ⟨_, _, rfl, .inl ⟨.inl (.inl e), fun l hl => q _ _ (.new hl) (at_.new hl) (.tup (at_.fresh hl) upd_same (r.mono (.new hl)))⟩⟩
theorem rb_listT {K : PySem.W.Frag} : RB z s (fun xs H Q => ∃ p ys, xs = [.ref p] ∧ (SqL K H p ys ∨ SqT K H p ys) ∧ ∀ l, H l = none → Q (.ref l) (upd H l (.lst ys))) [.tuple ds] (.list ds) := fun vs H at_ h Q q => by
  cases h with
  | cons h r =>
    cases r
    cases h with
    | tup n e r => exact ⟨_, _, rfl, .inr (.inl (.inl e)), fun l hl => q _ _ (.new hl) (at_.new hl) (.lst (at_.fresh hl) upd_same (r.mono (.new hl)))⟩
theorem rb_listL {K : PySem.W.Frag} : RB z s (fun xs H Q => ∃ p ys, xs = [.ref p] ∧ (SqL K H p ys ∨ SqT K H p ys) ∧ ∀ l, H l = none → Q (.ref l) (upd H l (.lst ys))) [.list ds] (.list ds) := fun vs H at_ h Q q => by
  cases h with
  | cons h r =>
    cases r
    cases h with
    | lst n e r => exact ⟨_, _, rfl, .inl (.inl (.inl e)), fun l hl => q _ _ (.new hl) (at_.new hl) (.lst (at_.fresh hl) upd_same (r.mono (.new hl)))⟩
/-- for x in a list -/
theorem sr_forL (l : Nat) {x : Str} (hp : PassesOwn (model X.prog X.w) X.A X.env X.xe) (hc : X.calm = true) (hN : X.N.Nodup) (h : EV X z iter es s (.list ds) s1) (E : Nat → List Sl) (T : Nat → S) (h0 : Le es (E 0)) (t0 : T 0 = s1)
    (hb : ∀ (i : Nat) d, ds[i]? = some d → SR X z body ((E i).set l (.val d)) (T i) (.nx (E (i + 1)) (T (i + 1)))) (k : SR X z rest (E ds.length) (T ds.length) o)
    (hi : X.N[l]? = some x := by rfl) (hx : Loc X.env.scope x := by first | exact Or.inl rfl | exact Or.inr rfl) (hf : X.fn x = true ∨ X.env.scope.names.lookup x = some .local := by first | exact .inl rfl | exact .inr rfl) (hfo : ∀ x, foldedSetIterable iter X.env x = pure x := by intro _; rfl) :
    SR X z (.For (.Name x p) iter body [] pos :: rest) es s o := fun σ H en at_ D q =>
  ⟨_, pss_cons (ps_for hp hc (pi_list wE_ok) (pg_name hN hi hx hf) wB_ok hfo) wB_ok, h σ H en at_ _ fun v H1 e1 a1 v1 => by
    cases v1 with
    | @lst a xs _ fa ha r =>
      have hx : xs.length = ds.length := r.length
      refine ⟨a, rfl, ⟨xs, .inl (.inl ha)⟩, for_list (xs := xs) (fun i σ' H' => Ez z H1 H' ∧ At z H' (T i) ∧ En z H' σ' (E i)) ⟨.refl _, t0 ▸ a1, (en.mono e1).le h0⟩ (fun i σ' H' _ w => .inl (.inl (w.1 a _ fa ha))) (fun i x σ' H' hi w => ?_) fun σ' H' w => ?_⟩
      · obtain ⟨d, hd, hv⟩ := r.getV i x hi
        exact hb i d hd _ H' (w.2.2.set l (.val (hv.mono w.1))) w.2.1 _ fun σ2 H2 e2 a2 n2 => ⟨w.1.trans e2, a2, n2⟩
      · rw [hx] at w
        exact k σ' H' w.2.2 w.2.1 D (q.mono (e1.trans w.1))⟩
/-- for x, y in a list of pairs -/
theorem sr_forP (l m : Nat) {x y : Str} {kt : Nat} (hp : PassesOwn (model X.prog X.w) X.A X.env X.xe) (hc : X.calm = true) (hN : X.N.Nodup) (ps : List (PyData × PyData)) (h : EV X z iter es s (.list (ps.map fun q => .tuple [q.1, q.2])) s1) (E : Nat → List Sl) (T : Nat → S) (h0 : Le es (E 0)) (t0 : T 0 = s1)
    (hb : ∀ (i : Nat) q, ps[i]? = some q → SR X z body (((E i).set l (.val q.1)).set m (.val q.2)) (T i) (.nx (E (i + 1)) (T (i + 1)))) (k : SR X z rest (E ps.length) (T ps.length) o)
    (hg : PG X (.Tuple [.Name x p1, .Name y p2] kt p3) (gTup X.K 2 (gCons (gName l) (gCons (gName m) gNil)))) (hfo : ∀ x, foldedSetIterable iter X.env x = pure x := by intro _; rfl) :
    SR X z (.For (.Tuple [.Name x p1, .Name y p2] kt p3) iter body [] pos :: rest) es s o := fun σ H en at_ D q =>
  ⟨_, pss_cons (ps_for hp hc (pi_list wE_ok) hg wB_ok hfo) wB_ok, h σ H en at_ _ fun v H1 e1 a1 v1 => by
    cases v1 with
    | @lst a xs _ fa ha r =>
      have hx : xs.length = ps.length := by rw [r.length, List.length_map]
      refine ⟨a, rfl, ⟨xs, .inl (.inl ha)⟩, for_list (xs := xs) (fun i σ' H' => Ez z H1 H' ∧ At z H' (T i) ∧ En z H' σ' (E i)) ⟨.refl _, t0 ▸ a1, (en.mono e1).le h0⟩ (fun i σ' H' _ w => .inl (.inl (w.1 a _ fa ha))) (fun i x σ' H' hi w => ?_) fun σ' H' w => ?_⟩
      · obtain ⟨d, hd, hv⟩ := r.getV i x hi
        rw [List.getElem?_map] at hd
        cases hq : ps[i]? with
        | none =>
          rw [hq] at hd
          cases hd
        | some pq =>
          rw [hq] at hd
          cases Option.some.inj hd
          cases hv with
          | @tup t us _ ft ht rt =>
            cases rt with
            | cons h1 rt =>
              cases rt with
              | cons h2 rt =>
                cases rt
                refine ⟨t, _, rfl, .inl (.inl (w.1 t _ ft ht)), rfl, _, _, rfl, _, _, rfl, rfl, ?_⟩
                exact hb i pq hq _ H' ((w.2.2.set l (.val (h1.mono w.1))).set m (.val (h2.mono w.1))) w.2.1 _ fun σ2 H2 e2 a2 n2 => ⟨w.1.trans e2, a2, n2⟩
      · rw [hx] at w
        exact k σ' H' w.2.2 w.2.1 D (q.mono (e1.trans w.1))⟩
/-! ### lists of one's own: read -/
theorem ev_lenO (i : Nat) {x y : Str} (hm : X.mg y = none) (h : es[i]? = some (.own ds) := by rfl) (hN : X.N[i]? = some x := by rfl) (hvi : Vis X.env.scope x := by first | exact Or.inl rfl | exact Or.inr (Or.inl rfl) | exact Or.inr (Or.inr rfl)) (hd : (x == ("__debug__" : Str)) = false := by decide) (hcd : (x == ("__classdict__" : Str)) = false := by decide)
    (hv : bootBuiltins y = some (.builtin "len") := by decide +kernel) (hg : Gl X y := by rfl) (hn : y ≠ "__name__" := by decide) (hdb : (y == ("__debug__" : Str)) = false := by decide) (hs : starEach [.Name x p] X.env = (false, eval (.Name x p) X.env) :: starEach [] X.env := by rfl) (hpl : (backTo pos (starEach [] X.env)).any (·.1) = false := by rfl) :
    EV X z (.Call (.Name y p1) [.Name x p] [] pos) es s (.int ds.length) s :=
  .mk (pe_callB call_len hg hm hv (pa_cons (pe_var hN hvi hd hcd) pa_nil hs) hn hdb hs hpl) fun σ H en at_ Q q => by
    obtain ⟨y, hy, r⟩ := en.slot h
    cases r with
    | @own a vs _ m k => exact ⟨_, hy, _, ds.length, rfl, .inl ⟨vs, .inl (.inl (at_.v _ m)), k.length.symm⟩, q _ H (.refl H) at_ (.int _)⟩
theorem ev_ixO (i : Nat) {x : Str} {j : Int} (hb : EV X z b es s (.int j) s1) (ha : atI ds j = some d) (h : es[i]? = some (.own ds) := by rfl) (hN : X.N[i]? = some x := by rfl) (hvi : Vis X.env.scope x := by first | exact Or.inl rfl | exact Or.inr (Or.inl rfl) | exact Or.inr (Or.inr rfl)) (hd : (x == ("__debug__" : Str)) = false := by decide) (hcd : (x == ("__classdict__" : Str)) = false := by decide)
    (hs : PlainIx b := by intro _ _; rfl) : EV X z (.Subscript (.Name x p) b pos) es s d s1 :=
  .mk (pe_ix ix_list (pe_var hN hvi hd hcd) wE_ok hs) fun σ H en at_ Q q => by
    obtain ⟨y, hy, r⟩ := en.slot h
    cases r with
    | @own a vs _ m k =>
      refine ⟨_, hy, hb σ H en at_ _ fun u H2 e2 a2 v2 => ?_⟩
      cases v2
      obtain ⟨v, k1, k2⟩ := atI_rel (k.mono e2) ha
      exact ⟨a, vs, j, v, rfl, rfl, .inl (.inl (a2.v _ m)), k1, q _ H2 e2 a2 k2⟩
/-- own != e, own == e -/
theorem et_neO (i : Nat) {x : Str} (hu : X.A.units + 64 < cLine) (p1' : Pl (.list ds)) (p2' : Pl d) (hb : EV X z b es s d s1) (h : es[i]? = some (.own ds) := by rfl) (hN : X.N[i]? = some x := by rfl) (hvi : Vis X.env.scope x := by first | exact Or.inl rfl | exact Or.inr (Or.inl rfl) | exact Or.inr (Or.inr rfl)) (hd : (x == ("__debug__" : Str)) = false := by decide) (hcd : (x == ("__classdict__" : Str)) = false := by decide) :
    ET X z (.Compare (.Name x p) [.NotEq] [b] pos) es s (!PyData.eqv (.list ds) d) s1 := fun σ H en at_ Q q => ⟨_, pt_cmpR (op_neD hu) (pe_var hN hvi hd hcd) wE_ok (nomark _), by
    obtain ⟨y, hy, r⟩ := en.slot h
    cases r with
    | @own a vs _ m k =>
      refine ⟨_, hy, hb σ H en at_ _ fun u H2 e2 a2 v2 => ?_⟩
      exact ⟨_, d, .lst (.inl (.inl (a2.v _ m))) ((k.mono e2).dp p1'.1), v2.dp p2'.1, p1'.2, p2'.2, _, rfl, q H2 e2 a2⟩⟩
/-- tuple(own) -/
theorem ev_tupO (i : Nat) {x y : Str} (hm : X.mg y = none) (h : es[i]? = some (.own ds) := by rfl) (hN : X.N[i]? = some x := by rfl) (hvi : Vis X.env.scope x := by first | exact Or.inl rfl | exact Or.inr (Or.inl rfl) | exact Or.inr (Or.inr rfl)) (hd : (x == ("__debug__" : Str)) = false := by decide) (hcd : (x == ("__classdict__" : Str)) = false := by decide)
    (hv : bootBuiltins y = some (.type "tuple") := by decide +kernel) (hg : Gl X y := by rfl) (hn : y ≠ "__name__" := by decide) (hdb : (y == ("__debug__" : Str)) = false := by decide) (hs : starEach [.Name x p] X.env = (false, eval (.Name x p) X.env) :: starEach [] X.env := by rfl) (hpl : (backTo pos (starEach [] X.env)).any (·.1) = false := by rfl) :
    EV X z (.Call (.Name y p1) [.Name x p] [] pos) es s (.tuple ds) s :=
  .mk (pe_callTy call_tuple_of hg hm hv (pa_cons (pe_var hN hvi hd hcd) pa_nil hs) hn hdb hs hpl) fun σ H en at_ Q q => by
    obtain ⟨y, hy, r⟩ := en.slot h
    cases r with
    | @own a vs _ m k => exact ⟨_, hy, a, vs, rfl, .inl ⟨.inl (.inl (at_.v _ m)), fun l hl => q _ _ (.new hl) (at_.new hl) (.tup (at_.fresh hl) upd_same (k.mono (.new hl)))⟩⟩
end
/-! ### lists of one's own: written -/
section
variable {X : Cx} {es es1 es2 : List Sl} {s s1 s2 s3 : S} {cond a b e : Expr} {ds fs : List PyData} {d d1 d2 : PyData} {o : Out} {rest body els : List Stmt} {pos p p1 p2 p3 p4 apos cpos : Pos}
/-- xs[j] = e -/
theorem so_set (i : Nat) {x : Str} {j : Nat} (h : ∀ z, EV X z e es s d s1) (hb : ∀ z, EV X z b es s1 (.int (j : Int)) s2) (hj : j < ds.length) (hg : PG X (.Subscript (.Name x p) b p3) (gSub (tVar i) (wE X b) rSetL)) (kk : SO X rest (es.set i (.own (ds.set j d))) s2 o) (ho : es[i]? = some (.own ds) := by rfl)
    (hs : swapsWithSole [.Subscript (.Name x p) b p3] e pos.line X.env = pure false := by rfl) (hw : swappedStores [.Subscript (.Name x p) b p3] e X.env = pure none := by rfl) :
    SO X (.Assign [.Subscript (.Name x p) b p3] e pos :: rest) es s o := fun z Hc H vol σ I D q =>
  ⟨_, pss_cons (ps_asg wE_ok hg hs hw) wB_ok, h _ σ H I.en I.at_ _ fun v H1 e1 a1 v1 => by
    obtain ⟨y, hy, r⟩ := I.en.slot ho
    cases r with
    | @own a vs _ m k =>
      refine ⟨_, hy, hb _ σ H1 (I.en.mono e1) a1 _ fun u H2 e2 a2 v2 => ?_⟩
      cases v2
      have kl : vs.length = ds.length := k.length
      have r2 : DaAll (z.own vol) H2 (vs.set j v) (ds.set j d) := by
        have k2 := k.mono (e1.trans e2)
        have w2 := v1.mono e2
        clear I kk
        revert j
        intro j hb hj
        have gen : ∀ (vs : List V) (ds : List PyData) (j : Nat), DaAll (z.own vol) H2 vs ds → DaAll (z.own vol) H2 (vs.set j v) (ds.set j d) := by
          intro vs
          induction vs with
          | nil => intro ds j h; cases h; exact .nil
          | cons x vs ih =>
            intro ds j h
            cases h with
            | cons h1 h2 =>
              cases j with
              | zero => exact .cons w2 h2
              | succ j => exact .cons h1 (ih _ j h2)
        exact gen vs ds j k2
      obtain ⟨vol', I'⟩ := I.write ho hy m (e1.trans e2) a2 r2
      exact ⟨a, vs, (j : Int), j, rfl, rfl, a2.v _ m, (by unfold ixN; rw [if_pos (by omega), if_pos (by omega)]; simp), kk z Hc _ vol' σ I' D q⟩⟩
/-- xs.append(e) -/
theorem so_app (i : Nat) {x : Str} (h : ∀ z, EV X z e es s d s1) (hl : ds.length < 100000) (kk : SO X rest (es.set i (.own (ds ++ [d]))) s1 o) (ho : es[i]? = some (.own ds) := by rfl) (hN : X.N[i]? = some x := by rfl) (hv : Vis X.env.scope x := by first | exact Or.inl rfl | exact Or.inr (Or.inl rfl) | exact Or.inr (Or.inr rfl))
    (hd : (x == ("__debug__" : Str)) = false := by decide) (hcd : (x == ("__classdict__" : Str)) = false := by decide) (hbase : attributeBase (.Name x p) "append" X.env (eval (.Name x p) X.env) = eval (.Name x p) X.env := by rfl)
    (hfew : ((backTo cpos (starEach (e :: []) X.env)).all (fun x => !x.1) && (backToKw cpos (keywordEach [] X.env)).all (fun x => x.1.isSome) && decide ((e :: []).length + ([] : List Keyword).length + (if ([] : List Keyword).isEmpty then 0 else 1) < 30)) = true := by rfl)
    (hline : (apos.endLine == cpos.line) = true := by rfl) (hse : starEach (e :: []) X.env = (false, eval e X.env) :: starEach [] X.env := by rfl) (hpl : (backTo cpos (starEach [] X.env)).any (·.1) = false := by rfl) (hs : swapsWith (.Call (.Attribute (.Name x p) "append" apos) [e] [] cpos) none pos.line X.env = pure false := by rfl) :
    SO X (.Expr (.Call (.Attribute (.Name x p) "append" apos) [e] [] cpos) pos :: rest) es s o := fun z Hc H vol σ I D q =>
  ⟨_, pss_cons (ps_expr (pe_bm PySem.F.plainAttrs_list PySem.F.slot_list_append PySem.F.type_list_append mt_append (pe_var hN hv hd hcd) (pa_cons wE_ok pa_nil hse) hbase hfew hline hse hpl) hs) wB_ok, by
    obtain ⟨y, hy, r⟩ := I.en.slot ho
    cases r with
    | @own a vs _ m k =>
      refine ⟨_, hy, .inl ⟨rfl, vs, .inl (.inl (I.at_.v _ m))⟩, h _ σ H I.en I.at_ _ fun v H1 e1 a1 v1 => ?_⟩
      obtain ⟨vol', I'⟩ := I.write ho hy m e1 a1 ((k.mono e1).app (.cons v1 .nil))
      exact ⟨a, vs, v, rfl, rfl, a1.v _ m, by rw [k.length]; exact Nat.lt_of_lt_of_le hl (by decide), kk z Hc _ vol' σ I' D q⟩⟩
/-- xs.pop() -/
theorem so_pop (i : Nat) {x : Str} (hl : ds ≠ []) (kk : SO X rest (es.set i (.own ds.dropLast)) s o) (ho : es[i]? = some (.own ds) := by rfl) (hN : X.N[i]? = some x := by rfl) (hv : Vis X.env.scope x := by first | exact Or.inl rfl | exact Or.inr (Or.inl rfl) | exact Or.inr (Or.inr rfl))
    (hd : (x == ("__debug__" : Str)) = false := by decide) (hcd : (x == ("__classdict__" : Str)) = false := by decide) (hbase : attributeBase (.Name x p) "pop" X.env (eval (.Name x p) X.env) = eval (.Name x p) X.env := by rfl) (hline : (apos.endLine == cpos.line) = true := by rfl) (hs : swapsWith (.Call (.Attribute (.Name x p) "pop" apos) [] [] cpos) none pos.line X.env = pure false := by rfl) :
    SO X (.Expr (.Call (.Attribute (.Name x p) "pop" apos) [] [] cpos) pos :: rest) es s o := fun z Hc H vol σ I D q =>
  ⟨_, pss_cons (ps_expr (pe_bm0 PySem.F.plainAttrs_list PySem.F.slot_list_pop PySem.F.type_list_pop mt_pop (pe_var hN hv hd hcd) hbase hline) hs) wB_ok, by
    obtain ⟨y, hy, r⟩ := I.en.slot ho
    cases r with
    | @own a vs _ m k =>
      have kl : vs.length = ds.length := k.length
      have hp : 0 < vs.length := by
        rw [kl]
        exact List.length_pos_iff.mpr hl
      have r2 : DaAll (z.own vol) H vs.dropLast ds.dropLast := by
        rw [List.dropLast_eq_take, List.dropLast_eq_take, kl]
        exact k.take _
      obtain ⟨vol', I'⟩ := I.write ho hy m (.refl H) I.at_ r2
      exact ⟨_, hy, .inl ⟨rfl, vs, .inl (.inl (I.at_.v _ m))⟩, a, vs, vs[vs.length - 1], rfl, rfl, I.at_.v _ m, List.getElem?_eq_getElem (by omega), kk z Hc _ vol' σ I' D q⟩⟩
/-- while, by a word of what the slots hold -/
theorem so_whileW (hp : PassesOwn (model X.prog X.w) X.A X.env X.xe) (W : Nat → List Sl → S → Prop) {m0 : Nat} (h0 : W m0 es s)
    (hs : ∀ m es s, W m es s → ((∀ z, ET X z cond es s false s) ∧ SO X rest es s o) ∨ ((∀ z, ET X z cond es s true s) ∧ ∃ es' s' m', m' < m ∧ W m' es' s' ∧ SO X body es s (.nx es' s'))) : SO X (.While cond body [] pos :: rest) es s o := fun z Hc H vol σ I D q =>
  ⟨_, pss_cons (ps_while hp wT_ok wB_ok) wB_ok, fun m σ' H' => ∃ es' s' vol', W m es' s' ∧ OI z Hc H' vol' σ' es' s', ⟨m0, es, s, vol, h0, I⟩, fun m σ' H' w => by
    obtain ⟨es', s', vol', w1, I1⟩ := w
    rcases hs m es' s' w1 with ⟨h1, h2⟩ | ⟨h1, es2, s2, m', hl, w2, h2⟩
    · exact h1 _ σ' H' I1.en I1.at_ _ fun H1 e2 a2 => iteF (h2 z Hc H1 vol' σ' (I1.step e2 a2) D q)
    · refine h1 _ σ' H' I1.en I1.at_ _ fun H1 e2 a2 => iteT ⟨fun σ2 H2 => ∃ vol2, OI z Hc H2 vol2 σ2 es2 s2, fun σ2 H2 ⟨vol2, I2⟩ => ⟨m', hl, es2, s2, vol2, w2, I2⟩, ?_⟩
      exact h2 z Hc H1 vol' σ' (I1.step e2 a2) _ fun vol2 σ2 H2 I2 => ⟨vol2, I2⟩⟩
end
section
variable {P : Program} {w : World} {K : PySem.W.Frag} {mg : Str → Option Value} {base : Heap}
/-- a def that may hold lists of its own -/
theorem okO {x qual : Str} {st : Stmt} {f : Addr} {fd : FuncData} {N ps : List Str} {k : Nat} {R : Rel} (F : Fun K x qual st f fd) (Sc : FnScope N ps (defScope st)) (hl : ∀ as s d s', R as s d s' → as.length = ps.length) (hno : ∀ as s d s', R as s d s' → ∀ ds, Sl.own ds ∉ as)
    (hb : ∀ cdv A outer s0 H0 E, Ctx (cxOf CX0 P w K mg base N qual (defScope st) f cdv A outer s0 H0 E).nox k N → ∀ as s d s', R as s d s' → SO (cxOf CX0 P w K mg base N qual (defScope st) f cdv A outer s0 H0 E).nox (defBody st) (as ++ List.replicate (N.length - as.length) .un) s (.rt d s')) :
    FnOk P w K mg base CX0 (k + 1) f fd ps (spD R) := by
  refine F.ok Sc (fun vs H Q E h => ?_) (fun cdv A outer s0 H0 vs Q E hr h => ?_)
  · obtain ⟨z, as, s, d, s', hR, en, _⟩ := h
    have := en.length
    rw [List.length_map] at this
    rw [this]
    exact hl _ _ _ _ hR
  · obtain ⟨z, as, s, d, s', hR, en, at_, q⟩ := h
    have e1 : vs.length = as.length := by
      have := en.length
      rwa [List.length_map] at this
    have C : Ctx (cxOf CX0 P w K mg base N qual (defScope st) f cdv A outer s0 H0 E).nox k N := ⟨Sc.nd, rfl, PassesOwn.never, hr, hr.units⟩
    have none_own : ∀ (i : Nat) (ds : List PyData), (as ++ List.replicate (N.length - as.length) Sl.un)[i]? ≠ some (.own ds) := fun i ds h => by
      have m := List.mem_of_getElem? h
      rcases List.mem_append.mp m with m | m
      · exact hno _ _ _ _ hR ds m
      · have := List.eq_of_mem_replicate m
        cases this
    have zo : z.own [] = z := rfl
    have g := hb cdv A outer s0 H0 E C as s d s' hR z H0 H0 [] (L2.start N vs) ⟨fun q h => (by cases h), List.nodup_nil, fun p hp => (by rw [at_.v p hp]; exact fun h => by cases h), at_, by
      unfold L2.start
      rw [e1]
      exact en.app (.uns _), .refl H0, fun i ds p h => absurd h (none_own i ds), fun i j ds ds' p _ h => absurd h (none_own i ds)⟩ { nx := fun _ H' => Q .non H', rt := Q } (fun v H' e a n => q v H' e a n)
    exact ⟨_, wB_ok, g⟩
end
end DL


set_option Elab.async false
set_option linter.all false
set_option maxRecDepth 100000
namespace DL
open PySem PySem.Spec PyProof.Rows L2
/-! ### 12. math.lcm; enumerate over a tuple -/
def rLcm : List V → Hp → VK → Prop := fun vs H Q => ∃ a b : Int, vs = [.int a, .int b] ∧ a.natAbs < 2 ^ 64 ∧ b.natAbs < 2 ^ 64 ∧ Q (.int ((Nat.lcm a.natAbs b.natAbs : Nat) : Int)) H
section
variable {X : Cx}
theorem cr_lcm : CallR X (.builtin "math.lcm") rLcm := by
  intro pins s σ H vs us Q I r h
  obtain ⟨a, b, rfl, ha, hb, q⟩ := h
  obtain ⟨t, u, rfl⟩ := Vals.int2 r
  exact PySem.W.mc_lcm ha hb fun _ => ⟨.int _, H, I.tok _, ⟨_, rfl⟩, q⟩
theorem rb_lcm {z : Z} {s : S} {i j : Int} (hi : i.natAbs < 2 ^ 64) (hj : j.natAbs < 2 ^ 64) : RB z s rLcm [.int i, .int j] (.int (Nat.lcm i.natAbs j.natAbs : Nat)) := fun vs H at_ h Q q => by
  cases h with
  | cons h r =>
    cases h
    cases r with
    | cons h r =>
      cases h
      cases r
      exact ⟨i, j, rfl, hi, hj, q _ H (.refl H) at_ (.int _)⟩
end
/-- the two objects that enumerate(t) makes -/
abbrev itO (t : Addr) : Obj := { cls := .type "tuple_iterator", data := .fields #[.ref t, .int 0 0] }
abbrev enO (i : Addr) : Obj := { cls := .type "enumerate", data := .fields #[.none, .bool false, .ref i, rawInt 0, .none, .none] }
section
variable {prog : Program} {w : World} {A : Around} {E : Value → Shared → Prop} {s : Shared}
theorem enum_newT (t : Addr) (o : Obj) (items : Array Value) (n : Nat) (ho : o.cls = .type "tuple") (hd : o.data = .seq items n) :
    PySem.Meets (Builtin.«enumerate.__new__» ⟨[.type "enumerate", .ref t], []⟩) fun _ R s => s.heap.get? t = some o ∧ R (.ok (.ret (.ref (s.heap.push (itO t)).objs.size))) { s with heap := (s.heap.push (itO t)).push (enO s.heap.objs.size) } :=
  .of_wp fun prog w A R s h => by
    obtain ⟨hp, g, dr, tk, os⟩ := s
    obtain ⟨cls, dct, data, sl⟩ := o
    replace ho : cls = .type "tuple" := ho
    replace hd : data = .seq items n := hd
    subst ho hd
    have isT : Heap.IsTuple (Shared.heap ⟨hp, g, dr, tk, os⟩) t items := ⟨_, h.1, rfl, n, rfl⟩
    have hsub := sub_enumerate
    wp_walk using AutoSeq1.wpAny_loadPart' h.1
    refine wpAny_stack_any fun st => wpAny_pure ?_
    split
    case' h_1 c _ _ _ _ _ => cases (c == Value.type "enumerate")
    all_goals
      wp_walk using AutoSeq1.wpAny_loadPart' h.1, wpAny_pyIter_tuple isT
      exact ⟨_, rfl, h.2⟩
theorem call_enumT {t : Addr} {items : Array Value} {Q : Value → Shared → Prop} (hT : s.heap.IsTuple t items)
    (k : ∀ h', h' = (s.heap.push (itO t)).push (enO s.heap.objs.size) → Q (.ref (s.heap.objs.size + 1)) { s with heap := h' }) : wpAny (model prog w) A (call (.type "enumerate") [.ref t]) Q E s := by
  obtain ⟨o, ho, hc, n, hd⟩ := hT
  have sz : (s.heap.push (itO t)).objs.size = s.heap.objs.size + 1 := Heap.size_push ..
  refine callType_new F.called_enumerate (by decide) (F.typeCall_enumerate_1 _) (F.newCall_enumerate_1 _) (fun obj => F.args_object_init_2 obj _) F.entry_enumerate_new (enum_newT t o items n hc hd) ⟨ho, ?_⟩
  refine ⟨⟨_, Heap.get?_push_size (s.heap.push (itO t)) rfl, rfl⟩, ?_⟩
  have := k _ rfl
  rw [← sz] at this
  exact this
theorem enum_endT {e it t : Addr} {i : Nat} {items : Array Value} {old : Value} {Q : Option Value → Shared → Prop} (hh : A.handled = none)
    (he : IsEnum s.heap e it ((i : Nat) : Int) old) (hit : s.heap.IsTupleIter it t i) (ht : s.heap.IsTuple t items) (hx : items[i]? = none)
    (hQ : ∀ h', Heap.ExtBut it s.heap h' → Q none { s with heap := h' }) (hne : t ≠ it) (hl : i = items.size) : wpAny (model prog w) A (pyNext (.ref e)) Q E s := by
  subst hl
  exact wpAny_pyNext_enum_endD (Draws.tuple (A := A.in1) hh it t hne items) he ⟨hit, ht⟩ hQ
end
def IteT (K : PySem.W.Frag) (a : Addr) : It where
  go i H := ∃ (xs : List V) (x : V), SqT K H a xs ∧ xs[i]? = some x
  yld i H v H' := ∃ T x, v = .ref T ∧ H T = none ∧ H' = upd H T (.tup [.int (i : Nat), x]) ∧ ∀ xs, SqT K H a xs → xs[i]? = some x
  stop i H := ∃ xs : List V, SqT K H a xs ∧ xs.length = i
/-- where the enumerate object e, over the iterator at it, over the tuple at a, stands after i turns -/
structure EnT (a e it : Addr) (i : Nat) (h : Heap) : Prop where
  en : ∃ old, IsEnum h e it ((i : Nat) : Int) old
  tu : h.IsTupleIter it a i
  ne : e ≠ it
theorem EnT.far {a e it : Addr} {i : Nat} {h : Heap} {items : Array Value} (S : EnT a e it i h) (T : h.IsTuple a items) : a ≠ e ∧ a ≠ it := by
  obtain ⟨o, ho, hc, _⟩ := T
  obtain ⟨⟨old, he⟩, ⟨o2, h2, c2, _⟩, _⟩ := S
  constructor
  · rintro rfl
    rw [show h.get? a = _ from he] at ho
    cases ho
    injection hc with hc
    exact absurd hc (by decide)
  · rintro rfl
    rw [h2] at ho
    cases ho
    rw [c2] at hc
    injection hc with hc
    exact absurd hc (by decide)
theorem turn_enumT {P : Program} {w : World} {K : PySem.W.Frag} {elts : List Expr} {kk : Nat} {tpos : Pos} (a e it : Addr) : Turn P w K (.Tuple elts kk tpos) (IteT K a) [e, it] e (EnT a e it) := by
  have two : ∀ {b : Addr} {p : Addr → Prop}, p e → p it → b ∈ [e, it] → p b := fun h1 h2 hb => by
    rcases List.mem_cons.mp hb with rfl | hb
    · exact h1
    · rw [List.mem_singleton.mp hb]
      exact h2
  refine ⟨List.mem_cons_self .., fun i h S b => ?_, fun i h h' S k => ⟨S.en.imp fun _ q => k e (List.mem_cons_self ..) _ q, S.tu.at fun o q => k it (List.mem_cons_of_mem _ (List.mem_singleton.mpr rfl)) o q, S.ne⟩, ?_, ?_, fun A i s Q E S q => ?_⟩
  · refine two (p := fun b => ∃ o, h.get? b = some o ∧ ∀ v : Option Value, o.data ≠ Data.cell v) ?_ ?_
    · obtain ⟨old, q⟩ := S.en
      exact ⟨_, q, fun v x => nomatch x⟩
    · obtain ⟨o, q, _, d⟩ := S.tu
      exact ⟨o, q, fun v x => by rw [d] at x; cases x⟩
  · rintro X rfl rfl rfl calm i pins s σ H E I free S ⟨xs, x, hxs, hx⟩
    obtain ⟨its, rv, p, _⟩ := I.tuple hxs
    obtain ⟨u, hu, ru⟩ := rv.get hx
    obtain ⟨old, he⟩ := S.en
    obtain ⟨n1, n2⟩ := S.far p
    have gu : its.toArray[i]? = some u := by simpa using hu
    have lt : i < its.toArray.size := (Array.getElem?_eq_some_iff.mp gu).1
    have old_lt : ∀ b ∈ [e, it], b < s.heap.objs.size := fun b => two (p := fun b => b < s.heap.objs.size) (Heap.lt_size he) (by
      obtain ⟨o, q, _⟩ := S.tu
      exact Heap.lt_size q)
    refine wpAny_pyNext_enum_itemD (Draws.tuple (A := X.A.in1) (I.ok.hd calm) it a n2 its.toArray) he ⟨S.tu, p⟩ lt S.ne (fun m => ?_) fun v h1 tk hv out st made _ kept => ?_
    · rcases List.mem_cons.mp m with q | m
      · exact S.ne q
      · exact n1 (List.mem_singleton.mp m).symm
    rw [gu] at hv
    obtain rfl : u = v := Option.some.inj hv
    refine ⟨_, rfl, wpAny_letOwnedTupleGo_enum (s := { s with heap := h1, toks := tk + 1 }) out fun h2 en2 but => ?_⟩
    have made2 : h2.get? s.heap.objs.size = some { cls := .type "tuple", data := .seq #[.int i tk, u] } := by
      rw [but.2 _ (Nat.ne_of_gt (old_lt e (List.mem_cons_self ..)))]
      exact made
    refine ⟨.ref s.heap.objs.size, upd H s.heap.objs.size (.tup [.int (i : Nat), x]), ?_, rfl, ⟨_, x, rfl, I.hok.fresh (Nat.le_refl _), rfl, fun ys hy => by rw [I.tuple_inj hy hxs]; exact hx⟩, ⟨⟨u, ?_⟩, st.1.at fun o q => (but.2 it S.ne.symm).trans q, S.ne⟩, fun b hb => ?_⟩
    · refine I.turnedNew (ch := [e, it]) (fun b ob hb q => ?_) free (Nat.le_refl _) ⟨by show 2 ≤ sizeLine; decide, [.int i tk, u], .cons ⟨_, rfl⟩ (.cons ru .nil), ⟨_, made2, rfl, _, rfl⟩⟩
      have b1 : b ≠ e := fun z => hb (by simp [z])
      have b2 : b ≠ it := fun z => hb (by simp [z])
      rw [but.2 b b1]
      exact kept b ob b1 b2 q
    · rw [show ((i + 1 : Nat) : Int) = (i : Int) + 1 by omega]
      exact en2
    · rw [upd_ne (Nat.ne_of_lt (old_lt b hb))]
      exact (free b hb).1
  · rintro X rfl rfl rfl calm i pins s σ H E I free S ⟨xs, hxs, hl⟩
    obtain ⟨its, rv, p, _⟩ := I.tuple hxs
    obtain ⟨old, he⟩ := S.en
    have hl2 := rv.length
    obtain ⟨f0, f1, f2, f3, f4, f5⟩ := free it (List.mem_cons_of_mem _ (List.mem_singleton.mpr rfl))
    refine enum_endT (I.ok.hd calm) he S.tu p (by simp; omega) (fun h' eb => ⟨rfl, I.turned (t' := s.toks) (fun b o hb q => eb b o hb q) f0 f1 f3 f4 f5⟩) (S.far p).2 (by simp; omega)
  · obtain ⟨old, he⟩ := S.en
    exact wpAny_pyIter_enum he q
def iEnumT (K : PySem.W.Frag) (ta : TA) : TI := fun σ H R => ta σ H fun vs H1 => ∃ a xs, vs = [.ref a] ∧ SqT K H1 a xs ∧ R (IteT K a) H1
theorem pi_enumT {X : Cx} {e : Expr} {ta : TA} {p pos tpos : Pos} {elts : List Expr} {kk : Nat} (hg : Gl X "enumerate") (hm : X.mg "enumerate" = none) (ha : PA X [e] ta) (hs : starEach [e] X.env = [(false, eval e X.env)] := by rfl) : PI X (.Tuple elts kk tpos) (.Call (.Name "enumerate" p) [e] [] pos) (iEnumT X.K ta) :=
  ⟨fun pins s σ H R I h => by
    refine Call_ (ld_blt I hg hm boot_enumerate (PyProof.Rows.callWith_type1 (thn (ha.run pos pins s σ H _ I h) fun us s1 ⟨vs, H1, I1, rel, a, xs, hvs, hxs, q⟩ => ?_) hs rfl))
    subst hvs
    cases rel with
    | cons r0 r1 =>
      cases r1
      cases r0
      obtain ⟨its, _, p', _⟩ := I1.tuple hxs
      have z1 : (s1.heap.push (itO a)).objs.size = s1.heap.objs.size + 1 := Heap.size_push ..
      refine call_enumT p' fun h' eq => ?_
      subst eq
      have he : IsEnum ((s1.heap.push (itO a)).push (enO s1.heap.objs.size)) (s1.heap.objs.size + 1) s1.heap.objs.size 0 .none := by
        rw [← z1]
        exact Heap.get?_push_size (s1.heap.push (itO a)) rfl
      refine wpAny_pyIter_enum he ⟨s1.heap.objs.size + 1, [s1.heap.objs.size + 1, s1.heap.objs.size], _, _, H1, rfl, I1.kept (t' := s1.toks) fun b o x => Heap.get?_push_of_some _ (Heap.get?_push_of_some _ x), turn_enumT a _ _, ⟨⟨.none, he⟩, ⟨_, Heap.get?_push_of_some _ (Heap.get?_push_size _ rfl), rfl, rfl⟩, Nat.succ_ne_self _⟩, fun b hb => ?_, q⟩
      have ge : s1.heap.objs.size ≤ b := by
        rcases List.mem_cons.mp hb with rfl | hb
        · exact Nat.le_succ _
        · rw [List.mem_singleton.mp hb]
          exact Nat.le_refl _
      exact I1.fpOk ge (I1.hok.fresh ge)⟩
theorem walk_enumT {K : PySem.W.Frag} {a : Addr} {xs : List V} : Walk (IteT K a) xs.length (fun H => SqT K H a xs) (YPair (fun i => some (.int (i : Nat))) (fun i => xs[i]?)) where
  goes i _ hi q := ⟨xs, xs[i], q, by simp [hi]⟩
  stops _ q := ⟨xs, q, rfl⟩
  yields i H v H' _ q y := by
    obtain ⟨T, x, h1, h2, h3, h4⟩ := y
    exact ⟨T, .int (i : Nat), x, h1, h2, h3, rfl, h4 xs q⟩
end DL


set_option Elab.async false
set_option linter.all false
set_option maxRecDepth 100000
namespace DL
open PySem PySem.Spec PyProof.Rows L2
section
variable {X : Cx} {z : Z} {es es1 es2 fs : List Sl} {s s1 s2 s3 : S} {iter elt cond a b e : Expr} {ds fs' : List PyData} {d d1 d2 : PyData} {o : Out} {rest body els : List Stmt} {pos p p1 p2 p3 p4 : Pos} {xs : List Expr}
/-! ### in a tuple; cuts, sums, repeats of tuples; sums of lists; backwards -/
def rInT (K : PySem.W.Frag) : R2 := fun x y H Q => ∃ d ds, Dp K H x d ∧ Dp K H y (.tuple ds) ∧ SeqAt.shaped d = true ∧ SeqAt.shaped (.tuple ds) = true ∧ Q (.bl (ds.any fun z => PyData.eqv z d)) H
theorem op_inT (hu : X.A.units + 65 < cLine) : OpR X (compareOp .In) (rInT X.K) := by
  intro pins s σ H x y v u Q I rx ry h
  obtain ⟨d, ds, hd, he, sd, se, q⟩ := h
  obtain ⟨as, r1⟩ := Dp.reads I d x v hd rx
  obtain ⟨bs, r2⟩ := Dp.reads I (.tuple ds) y u he ry
  exact SeqAt.in_tuple_reads r2 r1 (SeqAt.canLay_of_shaped se) (SeqAt.canLay_of_shaped sd) (room_in_shaped sd hu) ⟨.bl _, H, I, rfl, q⟩
theorem rd_inT {K : PySem.W.Frag} (h1 : Pl d) (h2 : Pl (.tuple ds)) : RD z s (rInT K) d (.tuple ds) (.bool (ds.any fun z => PyData.eqv z d)) := fun x y H at_ hx hy Q q =>
  ⟨d, ds, hx.dp h1.1, hy.dp h2.1, h1.2, h2.2, q _ H (.refl H) at_ (.bl _)⟩
theorem et_inT (hu : X.A.units + 65 < cLine) (h1 : Pl d) (h2 : Pl (.tuple ds)) (ha : EV X z a es s d s1) (hb : EV X z b es s1 (.tuple ds) s2) (hm : behindInMarks .In b = false := by rfl) : ET X z (.Compare a [.In] [b] pos) es s (ds.any fun z => PyData.eqv z d) s2 :=
  et_cmpR (op_inT hu) (rd_inT h1 h2) ha hb hm
/-- own[j] in (..) -/
theorem cutD_length {lo hi : Option Int} : (cutD ds lo hi).length ≤ ds.length := by
  unfold cutD
  rw [List.length_take, List.length_drop]
  omega
theorem whole_cut {lo hi : Option Int} (h : HT.sIx ds.length 0 lo = 0 ∧ HT.sIx ds.length ds.length hi = ds.length) : cutD ds lo hi = ds := by
  unfold cutD
  rw [h.1, h.2, List.drop_zero, Nat.sub_zero, List.take_length]
theorem rs_tup {K : PySem.W.Frag} {H : Hp} {v : V} {lo hi : Option Int} (hv : Da z H v (.tuple ds)) (at_ : At z H s) {Q : VK} (q : ∀ v H2, Ez z H H2 → At z H2 s → Da z H2 v (.tuple (cutD ds lo hi)) → Q v H2) : rSlA K v lo hi H Q := by
  cases hv with
  | @tup a xs _ fa ha r =>
    refine ⟨a, xs, rfl, .inl (.inl ha), fun w => ?_, fun w p hp => ?_⟩
    · rw [r.length] at w
      exact q _ H (.refl H) at_ (by rw [whole_cut w]; exact .tup fa ha r)
    · exact q _ _ (.new hp) (at_.new hp) (.tup (at_.fresh hp) upd_same ((r.cut lo hi).mono (.new hp)))
/-- t[:n], t[n:] -/
theorem ev_slToT {i : Int} (ha : EV X z a es s (.tuple ds) s1) (hb : EV X z b es s1 (.int i) s2) : EV X z (.Subscript a (.Slice none (some b) none p) pos) es s (.tuple (cutD ds none (some i))) s2 :=
  .mk (pe_slice sl_tupA wE_ok po_none (po_some wE_ok)) fun σ H en at_ Q q => ha σ H en at_ _ fun v H1 e1 a1 v1 => hb σ H1 (en.mono e1) a1 _ fun u H2 e2 a2 v2 => by
    cases v2
    exact ⟨i, rfl, rs_tup (v1.mono e2) a2 fun v H3 e3 a3 v3 => q v H3 ((e1.trans e2).trans e3) a3 v3⟩
theorem ev_slFromT {i : Int} (ha : EV X z a es s (.tuple ds) s1) (hb : EV X z b es s1 (.int i) s2) : EV X z (.Subscript a (.Slice (some b) none none p) pos) es s (.tuple (cutD ds (some i) none)) s2 :=
  .mk (pe_slice sl_tupA wE_ok (po_some wE_ok) po_none) fun σ H en at_ Q q => ha σ H en at_ _ fun v H1 e1 a1 v1 => hb σ H1 (en.mono e1) a1 _ fun u H2 e2 a2 v2 => by
    cases v2
    exact ⟨i, rfl, rs_tup (v1.mono e2) a2 fun v H3 e3 a3 v3 => q v H3 ((e1.trans e2).trans e3) a3 v3⟩
/-- t + u -/
theorem ev_catA (hl : ds.length + fs'.length ≤ 100000) (ha : EV X z a es s (.tuple ds) s1) (hb : EV X z b es s1 (.tuple fs') s2) : EV X z (.BinOp a .Add b pos) es s (.tuple (ds ++ fs')) s2 :=
  ev_opR (f := binaryOp .Add) op_catA (fun u v H at_ hu hv Q q => by
    cases hu with
    | tup n1 e1 r1 =>
      cases hv with
      | tup n2 e2 r2 =>
        have l1 := r1.length
        have l2 := r2.length
        refine ⟨_, _, _, _, rfl, rfl, .inl (.inl e1), .inl (.inl e2), ?_, fun w => ?_, fun _ w => ?_, fun _ _ p hp => ?_⟩
        · rw [l1, l2]
          exact Nat.le_trans hl (by decide)
        · subst w
          cases r1
          exact q _ H (.refl H) at_ (.tup n2 e2 r2)
        · subst w
          cases r2
          exact q _ H (.refl H) at_ (by rw [List.append_nil]; exact .tup n1 e1 r1)
        · exact q _ _ (.new hp) (at_.new hp) (.tup (at_.fresh hp) upd_same ((r1.app r2).mono (.new hp)))) ha hb
/-- (..) * n -/
theorem ev_repT {n : Int} (h0 : ds ≠ []) (h2 : 2 ≤ n) (hn : n ≤ 1000) (hl : ds.length ≤ 1000) (ha : EV X z a es s (.tuple ds) s1) (hb : EV X z b es s1 (.int n) s2) : EV X z (.BinOp a .Mult b pos) es s (.tuple (List.replicate n.toNat ds).flatten) s2 :=
  ev_opR (f := binaryOp .Mult) op_repT (fun u v H at_ hu hv Q q => by
    cases hv
    cases hu with
    | tup n1 e1 r1 =>
      exact ⟨_, n, _, rfl, rfl, .inl (.inl e1), fun w => h0 (by subst w; cases r1; rfl), h2, hn, by rw [r1.length]; exact hl, fun p hp => q _ _ (.new hp) (at_.new hp) (.tup (at_.fresh hp) upd_same ((r1.rep n.toNat).mono (.new hp)))⟩) ha hb
/-- l + m, lists -/
theorem ev_catL (hl : ds.length + fs'.length ≤ 100000) (ha : EV X z a es s (.list ds) s1) (hb : EV X z b es s1 (.list fs') s2) : EV X z (.BinOp a .Add b pos) es s (.list (ds ++ fs')) s2 :=
  ev_opR (f := binaryOp .Add) op_cat (fun u v H at_ hu hv Q q => by
    cases hu with
    | lst n1 e1 r1 =>
      cases hv with
      | lst n2 e2 r2 =>
        exact ⟨_, _, _, _, rfl, rfl, e1, e2, by rw [r1.length, r2.length]; exact Nat.le_trans hl (by decide), fun p hp => q _ _ (.new hp) (at_.new hp) (.lst (at_.fresh hp) upd_same ((r1.app r2).mono (.new hp)))⟩) ha hb
end
/-- t[::-1] -/
theorem fm_congr {α β : Type} {f g : α → Option β} : ∀ {l : List α}, (∀ x ∈ l, f x = g x) → l.filterMap f = l.filterMap g
  | [], _ => rfl
  | x :: l, h => by
    rw [List.filterMap_cons, List.filterMap_cons, h x (List.mem_cons_self ..), fm_congr fun y hy => h y (List.mem_cons_of_mem _ hy)]
theorem places_rev (n : Nat) : Builtin.Slice.slicePlaces ((n : Int) - 1) (-1) (-1) = n := by
  unfold Builtin.Slice.slicePlaces
  simp only [show ¬ ((-1 : Int) > 0) by decide, if_false, Int.neg_neg, Int.ediv_one]
  split <;> omega
theorem adjust_rev (n : Nat) : Builtin.Slice.sliceAdjust none none (-1) (n : Int) = ((n : Int) - 1, -1) := by
  unfold Builtin.Slice.sliceAdjust
  first
    | rfl
    | simp
theorem pick_rev (xs : Array Value) : ((List.range xs.size).filterMap fun (m : Nat) => xs[((xs.size : Int) - 1 + (m : Int) * (-1)).toNat]?).toArray = xs.toList.reverse.toArray := by
  have h := PySem.W.krv_pick xs
  unfold slicePick at h
  rw [PySem.W.krv_bounds] at h
  have h : ((sliceRange ((xs.size : Int) - 1) (-1) (-1)).filterMap (xs[·]?)).toArray = xs.toList.reverse.toArray := h
  rw [PySem.W.krv_sliceRange, List.filterMap_map] at h
  rw [← h]
  congr 1
  refine fm_congr fun m hm => ?_
  have hm := List.mem_range.mp hm
  show xs[((xs.size : Int) - 1 + (m : Int) * (-1)).toNat]? = xs[xs.size - 1 - m]?
  rw [show ((xs.size : Int) - 1 + (m : Int) * (-1)).toNat = xs.size - 1 - m by omega]
section
variable {prog : Program} {w : World} {A : Around} {E : Value → Shared → Prop} {s : Shared}
/-- a tuple cut by any slice that is applied as (lo, step, n), step not 1: the picked items, in a new tuple -/
theorem tup_slice {t sl : Addr} {items : Array Value} {lo step : Int} {n : Nat} {Q : Value → Shared → Prop} (ht : IsTup s.heap t items) (isl : s.TypeIs (.ref sl) "slice") (st : (step == 1) = false) (few : n ≤ sizeLine)
    (app : ∀ {B : Around} {Q : Int × Int × Nat → Shared → Prop} {E : Value → Shared → Prop}, Q (lo, step, n) s → wpAny (model prog w) B (Builtin.Slice.sliceApplied (.ref sl) (pure (items.size : Int))) Q E s)
    (h : Q (.ref s.heap.objs.size) { s with heap := s.heap.push { cls := .type "tuple", data := .seq ((List.range n).filterMap fun m : Nat => items[(lo + (m : Int) * step).toNat]?).toArray } }) : wpAny (model prog w) A (getItem (.ref t) (.ref sl)) Q E s := by
  have fit : sizeOk (.seq ((List.range n).filterMap fun m : Nat => items[(lo + (m : Int) * step).toNat]?).toArray) := by
    have l1 := List.length_filterMap_le (fun m : Nat => items[(lo + (m : Int) * step).toNat]?) (List.range n)
    rw [List.length_range] at l1
    exact Nat.le_trans (by rw [List.size_toArray]; exact l1) few
  unfold getItem
  try with_reducible refine wpAny_holding ?_
  first | refine wpAny_bind (wpAny_pure ?_) | skip
  refine wpAny_bind (wpAny_sequenceKey ht.typeIs (by decide) (wpAny_bind (wpAny_callSpecial?_slot (name := Str.ofString "__getitem__") ht.typeIs PyProof.Rows.slot_tuple_getitem (wpAny_call_entry PyProof.Rows.slot_tuple_getitem ht.typeIs entry_tuple_getitem ?_ (args_tuple_getitem _ _)))))
  refine (wpAny_bind (m := Builtin.Tuple.tupleItemsOf (.ref t)) (tupleItemsOf_ ht (wpAny_bind (wpAny_typeOf isl ?_))))
  rw [if_pos (by decide)]
  refine wpAny_bind (app ?_)
  show wpAny _ _ (if (lo == 0 && step == 1 && n == items.size) = true then _ else _) _ _ s
  rw [st, Bool.and_false, Bool.false_and, if_neg Bool.false_ne_true]
  first
    | exact wpAny_bind (m := Builtin.Tuple.tupleExact _) (wpAny_newObj_type (wpAny_pure ⟨_, rfl, wpAny_pure h⟩) fit)
    | exact wpAny_bind (m := Builtin.Tuple.tupleExact _) (wpAny_newObj_type (wpAny_bind (wpAny_pure (wpAny_pure ⟨_, rfl, wpAny_pure h⟩))) fit)
    | exact wpAny_bind (wpAny_bind (m := Builtin.Tuple.tupleExact _) (wpAny_newObj_type (wpAny_pure (wpAny_pure ⟨_, rfl, wpAny_pure h⟩)) fit))
/-- [::-1] as it is applied -/
theorem app_rev {sl : Addr} {vl vu vs : Value} {n : Nat} {Q : Int × Int × Nat → Shared → Prop} (hs : s.heap.IsSliceOf sl vl vu vs) (pl : IsPart vl none) (pu : IsPart vu none) (ps : IsPart vs (some (-1))) (h : Q ((n : Int) - 1, -1, n) s) : wpAny (model prog w) A (Builtin.Slice.sliceApplied (.ref sl) (pure (n : Int))) Q E s := by
  obtain ⟨o, ho, _, hd⟩ := hs
  unfold Builtin.Slice.sliceApplied Builtin.Slice.sliceFields
  refine wpAny_bind (wpAny_bind (wpAny_field ho hd (x := vl) rfl (wpAny_bind (wpAny_field ho hd (x := vu) rfl (wpAny_bind (wpAny_field ho hd (x := vs) rfl (wpAny_pure (wpAny_bind (HT.slicePart_ ps ?_)))))))))
  show wpAny _ _ (if ((-1 : Int) == 0) = true then _ else _) _ _ s
  rw [if_neg (by decide)]
  refine wpAny_bind (HT.slicePart_ pl (wpAny_bind (HT.slicePart_ pu (wpAny_bind (wpAny_pure ?_)))))
  show wpAny _ _ (match Builtin.Slice.sliceAdjust none none (-1) (n : Int) with | (lo, hi) => pure (lo, (-1 : Int), Builtin.Slice.slicePlaces lo hi (-1))) _ _ s
  rw [adjust_rev]
  show wpAny _ _ (pure ((n : Int) - 1, (-1 : Int), Builtin.Slice.slicePlaces ((n : Int) - 1) (-1) (-1))) _ _ s
  rw [places_rev]
  exact wpAny_pure h
end
section
variable {X : Cx}
def tRevT (K : PySem.W.Frag) (te : TE) : TE := fun σ H Q => te σ H fun x H1 => ∃ a xs, x = .ref a ∧ SqT K H1 a xs ∧ ∀ p, H1 p = none → Q (.ref p) (upd H1 p (.tup xs.reverse))
/-- a part of a slice that leaves the heap alone -/
theorem part_keep {pins : List (Addr × Obj)} {s : Shared} {σ : L2.St} {H : Hp} {o : Option Expr} {t : TO} {c : Option Int} {Q : Value → Shared → Prop} (p : PO X o t) (I : Inv X pins σ H s) (h : t σ H fun d H' => d = c ∧ H' = H) (k : ∀ v s', Inv X pins σ H s' → IsPart v c → Q v s') : wpAny (model X.prog X.w) X.A (evalPart o X.env) Q X.xe s :=
  thn (p.run pins s σ H _ I h) fun v s' ⟨d, H', I', ip, e1, e2⟩ => by
    subst e1 e2
    exact k v s' I' ip
theorem pe_revT {e : Expr} {te : TE} {k : Nat} {p1 p2 p3 pos : Pos} (he : PE X e te) : PE X (.Subscript e (.Slice none none (some (.UnaryOp .USub (.Constant (.int 1) k p1) p2)) p3) pos) (tRevT X.K te) := by
  constructor
  intro pins s σ H Q I h
  refine Subscript_ (thn (he.run pins s σ H _ I h) fun v s1 got => ?_)
  obtain ⟨x, H1, I1, rel, a, xs, rfl, hxs, q⟩ := got
  cases rel
  refine wpAny_Slice (part_keep po_none I1 ⟨rfl, rfl⟩ fun vl s2 I2 pl => part_keep po_none I2 ⟨rfl, rfl⟩ fun vu s3 I3 pu => part_keep (c := some (-1)) (po_some (pe_un un_neg pe_int)) I3 ⟨1, rfl, -1, rfl, rfl, rfl⟩ fun vs s4 I4 ps => ?_)
  have J : Inv X pins σ H1 { s4 with heap := s4.heap.push { cls := .type "slice", data := .fields #[vl, vu, vs] } } := I4.kept (t' := s4.toks) fun b o z => Heap.get?_push_of_some _ z
  obtain ⟨its, rv, isT, few⟩ := J.tuple hxs
  have ln := rv.length
  show wpAny (model X.prog X.w) X.A (subscriptTail e (.Slice none none (some (.UnaryOp .USub (.Constant (.int 1) k p1) p2)) p3) (.ref a) (.ref s4.heap.objs.size)) (EP X pins σ Q) X.xe _
  refine tail_any (ops := [.ref a, .ref s4.heap.objs.size]) isT.typeIs PyProof.Rows.slot_tuple_getitem.lookup ?_ (by with_unfolding_all rfl)
  refine tup_slice isT ⟨_, Heap.get?_push_size _ rfl, rfl⟩ (by decide) (n := its.toArray.size) (by rw [List.size_toArray]; omega) (fun {B Q E} z => app_rev (Heap.IsSliceOf.new _ vl vu vs) pl pu ps z) ?_
  rw [pick_rev]
  refine ⟨.ref _, _, J.laid (t' := s4.toks) (o := .tup xs.reverse) (fun b o z => Heap.get?_push_of_some _ z) (Nat.le_refl _) ⟨by rw [List.length_reverse]; exact few, _, rv.reverse, IsTup.new _ _⟩, rfl, q _ (J.hok.fresh (Nat.le_refl _))⟩
theorem ev_revT {z : Z} {es : List Sl} {s s1 : S} {a : Expr} {ds : List PyData} {k : Nat} {p1 p2 p3 pos : Pos} (ha : EV X z a es s (.tuple ds) s1) : EV X z (.Subscript a (.Slice none none (some (.UnaryOp .USub (.Constant (.int 1) k p1) p2)) p3) pos) es s (.tuple ds.reverse) s1 :=
  .mk (pe_revT wE_ok) fun σ H en at_ Q q => ha σ H en at_ _ fun v H1 e1 a1 v1 => by
    cases v1 with
    | tup n e r => exact ⟨_, _, rfl, .inl (.inl e), fun p hp => q _ _ (e1.trans (.new hp)) (a1.new hp) (.tup (a1.fresh hp) upd_same (r.rev.mono (.new hp)))⟩
end

/-! ### loops and new lists where own lists are written -/
def cutH (H : Hp) (vol : List (Addr × HO)) : Hp := fun b => if b ∈ vol.map (·.1) then none else H b
theorem cutH_in {H : Hp} {vol : List (Addr × HO)} {b : Addr} (h : b ∈ vol.map (·.1)) : cutH H vol b = none := if_pos h
theorem cutH_out {H : Hp} {vol : List (Addr × HO)} {b : Addr} (h : b ∉ vol.map (·.1)) : cutH H vol b = H b := if_neg h
theorem not_in {vol : List (Addr × HO)} {b : Addr} (h : ∀ o, (b, o) ∉ vol) : b ∉ vol.map (·.1) := fun m => by
  obtain ⟨q, hq, e⟩ := List.mem_map.mp m
  exact h q.2 (by rw [← e]; exact hq)
section
variable {z : Z} {Hc H H' : Hp} {vol : List (Addr × HO)} {σ : L2.St} {es : List Sl} {s s' : S}
/-- from the middle of a run on, as if it began here -/
theorem OI.reb (I : OI z Hc H vol σ es s) : OI z (cutH H vol) H vol σ es s ∧ ∀ H' vol' σ' es' s', OI z (cutH H vol) H' vol' σ' es' s' → OI z Hc H' vol' σ' es' s' := by
  have zin : ∀ q ∈ z.vol, q.1 ∉ vol.map (·.1) := fun q hq m => by
    obtain ⟨r, hr, e⟩ := List.mem_map.mp m
    exact I.base q hq (by rw [← e]; exact I.new r hr)
  have up : Ez z Hc (cutH H vol) := fun a o f h => by
    rw [cutH_out (not_in (I.old h))]
    exact I.ez a o f h
  have back : ∀ b, cutH H vol b = none → Hc b = none := fun b hb => by
    cases hc : Hc b with
    | none => rfl
    | some o =>
      by_cases hf : Fz z b
      · rw [up b o hf hc] at hb
        cases hb
      · exfalso
        have nin : b ∉ vol.map (·.1) := not_in (I.old hc)
        rw [cutH_out nin] at hb
        by_cases hd : z.dice = some b
        · rw [I.at_.d b hd] at hb
          cases hb
        · apply hf
          refine ⟨hd, fun u hu => ?_⟩
          rw [show H b = some u from I.at_.v (b, u) (List.mem_append_right _ hu)] at hb
          cases hb
  refine ⟨⟨fun q hq => cutH_in (List.mem_map.mpr ⟨q, hq, rfl⟩), I.nd, fun q hq e => ?_, I.at_, I.en, fun a o f h => ?_, fun i ds p h1 h2 => ?_, I.two⟩, fun H' vol' σ' es' s' J => ⟨fun q hq => back _ (J.new q hq), J.nd, I.base, J.at_, J.en, up.trans J.ez, fun i ds p h1 h2 => back _ (J.far i ds p h1 h2), J.two⟩⟩
  · rw [cutH_out (zin q hq)] at e
    rw [show H q.1 = some q.2 from I.at_.v q (List.mem_append_right _ hq)] at e
    cases e
  · by_cases m : a ∈ vol.map (·.1)
    · rw [cutH_in m] at h
      cases h
    · rwa [cutH_out m] at h
  · obtain ⟨y, hy, r⟩ := I.en.slot h1
    rw [h2] at hy
    cases hy
    cases r with
    | own m _ =>
      rcases List.mem_append.mp m with m | m
      · exact cutH_in (List.mem_map.mpr ⟨_, m, rfl⟩)
      · exact absurd (I.far i ds p h1 h2) (I.base _ m)
theorem OI.le {fs : List Sl} (I : OI z Hc H vol σ es s) (l : Le es fs) : OI z Hc H vol σ fs s := by
  have own : ∀ {es fs : List Sl}, Le es fs → ∀ {i : Nat} {ds : List PyData}, fs[i]? = some (.own ds) → es[i]? = some (.own ds) := by
    intro es fs l
    induction l with
    | nil => intro i ds h; simp at h
    | same l ih =>
      intro i ds h
      cases i with
      | zero => exact h
      | succ i => exact ih h
    | un l ih =>
      intro i ds h
      cases i with
      | zero => cases (Option.some.inj h)
      | succ i => exact ih h
  exact ⟨I.new, I.nd, I.base, I.at_, I.en.le l, I.ez, fun i ds p h1 h2 => I.far i ds p (own l h1) h2, fun i j ds ds' p n h1 h2 h3 => I.two i j ds ds' p n (own l h1) (own l h2) h3⟩
/-- data that stood when the loop began -/
theorem OI.still {vol' : List (Addr × HO)} {σ' : L2.St} {es' : List Sl} (J : OI z (cutH H vol) H' vol' σ' es' s') {v : V} {d : PyData} (h : Da (z.own vol) H v d) : Da (z.own vol') H' v d := h.re fun a o f hb => by
  have ha : cutH H vol a = some o := by
    rw [cutH_out (not_in f.of_own.2)]
    exact hb
  exact ⟨f.of_own.1.to_own (J.old ha), J.ez a o f.of_own.1 ha⟩
theorem OI.stillH {vol' : List (Addr × HO)} {σ' : L2.St} {es' : List Sl} (J : OI z (cutH H vol) H' vol' σ' es' s') {a : Addr} {o : HO} (f : Fz (z.own vol) a) (hb : H a = some o) : H' a = some o := by
  have ha : cutH H vol a = some o := by
    rw [cutH_out (not_in f.of_own.2)]
    exact hb
  exact J.ez a o f.of_own.1 ha
end
section
variable {X : Cx} {es es1 es2 : List Sl} {s s1 s2 : S} {iter cond a b e : Expr} {ds : List PyData} {d : PyData} {o : Out} {rest body els : List Stmt} {pos p p1 p2 p3 p4 p5 : Pos}
theorem so_pre {fs : List Sl} (l : Le es fs) (h : SO X body fs s o) : SO X body es s o := fun z Hc H vol σ I D q => h z Hc H vol σ (I.le l) D q
theorem so_le (h : SO X body es s (.nx es1 s1)) (l : Le es1 es2) : SO X body es s (.nx es2 s1) := fun z Hc H vol σ I D q => h z Hc H vol σ I D fun vol' σ' H' J => q vol' σ' H' (J.le l)
/-- for i, x in enumerate(..) -/
theorem so_forE (l m : Nat) {x y : Str} {kt : Nat} (hp : PassesOwn (model X.prog X.w) X.A X.env X.xe) (hc : X.calm = true) (hm : X.mg "enumerate" = none) (h : ∀ z, ED X z [a] es s [.list ds] s1) (E : Nat → List Sl) (T : Nat → S) (h0 : Le es (E 0)) (t0 : T 0 = s1)
    (hb : ∀ (i : Nat) d, ds[i]? = some d → SO X body (((E i).set l (.val (.int (i : Int)))).set m (.val d)) (T i) (.nx (E (i + 1)) (T (i + 1)))) (k : SO X rest (E ds.length) (T ds.length) o)
    (hg : PG X (.Tuple [.Name x p1, .Name y p2] kt p3) (gTup X.K 2 (gCons (gName l) (gCons (gName m) gNil)))) (hgl : Gl X "enumerate" := by rfl) (hst : starEach [a] X.env = [(false, eval a X.env)] := by rfl) (hfo : ∀ x, foldedSetIterable (.Call (.Name "enumerate" p4) [a] [] p5) X.env x = pure x := by intro _; rfl) :
    SO X (.For (.Tuple [.Name x p1, .Name y p2] kt p3) (.Call (.Name "enumerate" p4) [a] [] p5) body [] pos :: rest) es s o := fun z Hc H vol σ I D q =>
  ⟨_, pss_cons (ps_for hp hc (pi_enum hgl hm wA_ok hst) hg wB_ok hfo) wB_ok, h _ σ H I.en I.at_ _ fun vs H1 e1 a1 v1 => by
    cases v1 with
    | cons h1 r =>
      cases r
      cases h1 with
      | @lst a0 xs _ fa ha r1 =>
        have hx : xs.length = ds.length := r1.length
        obtain ⟨I2, back⟩ := (I.step e1 a1).reb
        subst t0
        refine ⟨a0, xs, rfl, .inl (.inl ha), for_it (walk_enum (K := X.K) (a := a0) (xs := xs)) (fun i σ' H' => ∃ vol', OI z (cutH H1 vol) H' vol' σ' (E i) (T i)) ⟨vol, I2.le h0⟩ (fun i σ' H' _ w => ?_) (fun i v σ' H' H2 hi w hY => ?_) fun σ' H' w => ?_⟩
        · obtain ⟨vol', w⟩ := w
          exact .inl (.inl (w.stillH fa ha))
        · obtain ⟨vol', w⟩ := w
          obtain ⟨t, u, v', rfl, nt, rfl, hu, hv⟩ := hY
          cases hu
          obtain ⟨d, hd, hv'⟩ := r1.getV i v' hv
          have w1 := w.step (Ez.new (o := .tup [.int (i : Int), v']) nt) (w.at_.new nt)
          have w2 := (w1.set (.refl _) w1.at_ l (.int (i : Int))).set (.refl _) w1.at_ m ((w.still hv').mono (.new nt))
          exact ⟨t, _, rfl, .inl (.inl upd_same), rfl, _, _, rfl, _, _, rfl, rfl, hb i d hd z _ _ vol' _ w2 _ fun vol3 σ3 H3 I3 => ⟨vol3, I3⟩⟩
        · obtain ⟨vol', w⟩ := w
          rw [hx] at w
          exact k z Hc H' vol' σ' (back _ _ _ _ _ w) D q⟩
/-- for i, x in enumerate(..) -/
theorem so_forET (l m : Nat) {x y : Str} {kt : Nat} (hp : PassesOwn (model X.prog X.w) X.A X.env X.xe) (hc : X.calm = true) (hm : X.mg "enumerate" = none) (h : ∀ z, ED X z [a] es s [.tuple ds] s1) (E : Nat → List Sl) (T : Nat → S) (h0 : Le es (E 0)) (t0 : T 0 = s1)
    (hb : ∀ (i : Nat) d, ds[i]? = some d → SO X body (((E i).set l (.val (.int (i : Int)))).set m (.val d)) (T i) (.nx (E (i + 1)) (T (i + 1)))) (k : SO X rest (E ds.length) (T ds.length) o)
    (hg : PG X (.Tuple [.Name x p1, .Name y p2] kt p3) (gTup X.K 2 (gCons (gName l) (gCons (gName m) gNil)))) (hgl : Gl X "enumerate" := by rfl) (hst : starEach [a] X.env = [(false, eval a X.env)] := by rfl) (hfo : ∀ x, foldedSetIterable (.Call (.Name "enumerate" p4) [a] [] p5) X.env x = pure x := by intro _; rfl) :
    SO X (.For (.Tuple [.Name x p1, .Name y p2] kt p3) (.Call (.Name "enumerate" p4) [a] [] p5) body [] pos :: rest) es s o := fun z Hc H vol σ I D q =>
  ⟨_, pss_cons (ps_for hp hc (pi_enumT hgl hm wA_ok hst) hg wB_ok hfo) wB_ok, h _ σ H I.en I.at_ _ fun vs H1 e1 a1 v1 => by
    cases v1 with
    | cons h1 r =>
      cases r
      cases h1 with
      | @tup a0 xs _ fa ha r1 =>
        have hx : xs.length = ds.length := r1.length
        obtain ⟨I2, back⟩ := (I.step e1 a1).reb
        subst t0
        refine ⟨a0, xs, rfl, .inl (.inl ha), for_it (walk_enumT (K := X.K) (a := a0) (xs := xs)) (fun i σ' H' => ∃ vol', OI z (cutH H1 vol) H' vol' σ' (E i) (T i)) ⟨vol, I2.le h0⟩ (fun i σ' H' _ w => ?_) (fun i v σ' H' H2 hi w hY => ?_) fun σ' H' w => ?_⟩
        · obtain ⟨vol', w⟩ := w
          exact .inl (.inl (w.stillH fa ha))
        · obtain ⟨vol', w⟩ := w
          obtain ⟨t, u, v', rfl, nt, rfl, hu, hv⟩ := hY
          cases hu
          obtain ⟨d, hd, hv'⟩ := r1.getV i v' hv
          have w1 := w.step (Ez.new (o := .tup [.int (i : Int), v']) nt) (w.at_.new nt)
          have w2 := (w1.set (.refl _) w1.at_ l (.int (i : Int))).set (.refl _) w1.at_ m ((w.still hv').mono (.new nt))
          exact ⟨t, _, rfl, .inl (.inl upd_same), rfl, _, _, rfl, _, _, rfl, rfl, hb i d hd z _ _ vol' _ w2 _ fun vol3 σ3 H3 I3 => ⟨vol3, I3⟩⟩
        · obtain ⟨vol', w⟩ := w
          rw [hx] at w
          exact k z Hc H' vol' σ' (back _ _ _ _ _ w) D q⟩
/-! new lists -/
theorem en_rep {z : Z} {n : Int} (hn : n < 100000) (hn0 : -100000 < n) (hl : ds.length * n.toNat ≤ 100000) (ha : EV X z a es s (.list ds) s1) (hb : EV X z b es s1 (.int n) s2) : EN X z (.BinOp a .Mult b pos) es s (List.replicate n.toNat ds).flatten s2 := fun σ H en at_ Q q =>
  ⟨_, pe_op op_rep wE_ok wE_ok, ha σ H en at_ _ fun u H1 e1 a1 v1 => hb σ H1 (en.mono e1) a1 _ fun w H2 e2 a2 v2 => by
    cases v2
    have v1 := v1.mono e2
    cases v1 with
    | lst n1 h1 r1 => exact ⟨_, n, _, rfl, rfl, h1, by omega, by omega, by rw [r1.length]; exact Nat.le_trans hl (by decide), fun p hp => q p _ H2 (e1.trans e2) a2 hp (r1.rep n.toNat)⟩⟩
theorem en_list {z : Z} {x : Str} (hm : X.mg x = none) (h : ED X z [a] es s [d] s1) (hd : d = .list ds ∨ d = .tuple ds) (hv : bootBuiltins x = some (.type "list") := by decide +kernel) (hg : Gl X x := by rfl) (hn : x ≠ "__name__" := by decide) (hdb : (x == ("__debug__" : Str)) = false := by decide) (hs : starEach [a] X.env = (false, eval a X.env) :: starEach [] X.env := by rfl) (hpl : (backTo pos (starEach [] X.env)).any (·.1) = false := by rfl) :
    EN X z (.Call (.Name x p1) [a] [] pos) es s ds s1 := fun σ H en at_ Q q =>
  ⟨_, pe_callTy call_list_of hg hm hv wA_ok hn hdb hs hpl, h σ H en at_ _ fun vs H1 e1 a1 v1 => by
    cases v1 with
    | cons h1 r =>
      cases r
      rcases hd with rfl | rfl
      · cases h1 with
        | lst n e r => exact ⟨_, _, rfl, .inl (.inl (.inl e)), fun l hl => q l _ H1 e1 a1 hl r⟩
      · cases h1 with
        | tup n e r => exact ⟨_, _, rfl, .inr (.inl (.inl e)), fun l hl => q l _ H1 e1 a1 hl r⟩⟩
/-- the new list p in slot i -/
theorem OI.fresh {z : Z} {Hc H H1 : Hp} {vol : List (Addr × HO)} {σ : L2.St} (I : OI z Hc H vol σ es s) (i : Nat) {a : Addr} {vs : List V} (e1 : Ez (z.own vol) H H1) (a1 : At (z.own vol) H1 s1) (ha : H1 a = none) {H2 : Hp} (e2 : Ez (z.own vol) H1 H2) (a2 : At ((z.own vol).add a (.lst vs)) H2 s2) (r : DaAll ((z.own vol).add a (.lst vs)) H2 vs ds) :
    OI z Hc H2 ((a, .lst vs) :: vol) (σ.set i (some (.ref a))) (es.set i (.own ds)) s2 := by
  have nc : Hc a = none := by
    cases hh : Hc a with
    | none => rfl
    | some u =>
      have f : Fz (z.own vol) a := a1.fresh ha
      rw [I.ezc e1 a u f.of_own.1 hh] at ha
      cases ha
  have fa := a1.fresh ha
  have re : ∀ (b : Addr) (u : HO), Fz (z.own vol) b → H1 b = some u → Fz (z.own ((a, .lst vs) :: vol)) b ∧ H2 b = some u := fun b u fb hb => by
    have nb := ne_of_none hb ha
    refine ⟨⟨fb.1, fun o m => ?_⟩, e2 b u fb hb⟩
    rcases List.mem_cons.mp m with e | m
    · exact nb (congrArg Prod.fst e)
    · exact fb.2 o m
  have notin : ∀ u, (a, u) ∉ vol := fun u m => fa.2 u (List.mem_append_left _ m)
  refine ⟨?_, ?_, I.base, a2, ?_, (fun b u f h => e2 b u (f.to_own (I.old h)) (I.ezc e1 b u f h)), ?_, ?_⟩
  · intro q hq
    rcases List.mem_cons.mp hq with e | m
    · rw [e]
      exact nc
    · exact I.new q m
  · show ((a :: vol.map (·.1)) : List Addr).Nodup
    refine List.nodup_cons.mpr ⟨fun m => ?_, I.nd⟩
    obtain ⟨q, hq, e⟩ := List.mem_map.mp m
    exact notin q.2 (by rw [← e]; exact hq)
  · exact (En.re (z := z.own vol) (z' := z.own ((a, .lst vs) :: vol)) rfl (fun q m => List.mem_cons_of_mem _ m) re (I.en.mono e1)).set i (.own (List.mem_cons_self ..) r)
  · intro j ds' b h1 h2
    by_cases hj : i = j
    · subst hj
      by_cases hl : i < σ.length
      · rw [List.getElem?_set_self hl] at h2
        cases h2
        exact nc
      · rw [List.getElem?_eq_none (by rw [List.length_set]; omega)] at h2
        cases h2
    · rw [List.getElem?_set_ne hj] at h1 h2
      exact I.far j ds' b h1 h2
  · intro j l ds1 ds2 b n h1 h2 h3 h4
    have own_ne : ∀ {m : Nat} {ds' : List PyData}, i ≠ m → (es.set i (Sl.own ds))[m]? = some (.own ds') → (σ.set i (some (.ref a)))[m]? = some (some (.ref b)) → b ≠ a := fun {m ds'} hm g1 g2 e => by
      rw [List.getElem?_set_ne hm] at g1 g2
      subst e
      obtain ⟨y, hy, r⟩ := I.en.slot g1
      rw [g2] at hy
      cases hy
      cases r with
      | own mm _ =>
        have := a1.v _ mm
        rw [show H1 b = _ from this] at ha
        cases ha
    have self : ∀ {m : Nat}, i = m → (σ.set i (some (.ref a)))[m]? = some (some (.ref b)) → b = a := fun {m} hm g => by
      subst hm
      by_cases hl : i < σ.length
      · rw [List.getElem?_set_self hl] at g
        cases g
        rfl
      · rw [List.getElem?_eq_none (by rw [List.length_set]; omega)] at g
        cases g
    by_cases hj : i = j
    · exact own_ne (fun e => n (hj.symm.trans e)) h2 h4 (self hj h3)
    · by_cases hl : i = l
      · exact own_ne hj h1 h3 (self hl h4)
      · rw [List.getElem?_set_ne hj] at h1 h3
        rw [List.getElem?_set_ne hl] at h2 h4
        exact I.two j l ds1 ds2 b n h1 h2 h3 h4
end
section
variable {z : Z} {X : Cx} {es : List Sl} {s s1 : S} {iter elt cond a : Expr} {ds : List PyData} {o : Out} {rest : List Stmt} {pos p p1 p2 p3 p4 : Pos}
/-- the turns of a comprehension over anything that walks, with any target -/
theorem lc_allO {te : TE} {tt : TT} {g : TG} {ws : List Nat} {n : Nat} {J : It} {G : Hp → Prop} {Y : Nat → Hp → V → Hp → Prop} (wk : Walk J n G Y) {σ : L2.St} {H1 : Hp} {D : Addr} (T U : Nat → S) (a1 : At z H1 (T 0)) (hD : H1 D = none) (esT : Nat → List Sl)
    (hG : ∀ H', Ez z H1 H' → G H') (turn : ∀ (i : Nat) (x : V) (H' H2 : Hp) (o : HO), i < n → Ez z H1 H' → Y i H' x H2 → At (z.add D o) H' (T i) → ∀ Q : L2.St → Hp → Prop, (∀ σ2 H3, wipe σ2 ws = wipe σ ws → Ez (z.add D o) H' H3 → At (z.add D o) H3 (T i) → En (z.add D o) H3 σ2 (esT i) → Q σ2 H3) → g x (wipe σ ws) H2 Q) (hl : n ≤ 100000) (kb : Nat → Bool) (A : Nat → List PyData) (hA0 : A 0 = [])
    (Ht : ∀ (z' : Z) (i : Nat), i < n → ∀ σ H, En z' H σ (esT i) → At z' H (T i) → ∀ Q : Bool → Hp → Prop, (∀ H2, Ez z' H H2 → At z' H2 (U i) → Q (kb i) H2) → tt σ H Q)
    (He : ∀ (z' : Z) (i : Nat), i < n → kb i = true → ∃ y, A (i + 1) = A i ++ [y] ∧ ∀ σ H, En z' H σ (esT i) → At z' H (U i) → ∀ Q : VK, (∀ v H2, Ez z' H H2 → At z' H2 (T (i + 1)) → Da z' H2 v y → Q v H2) → te σ H Q)
    (hn : ∀ (i : Nat), i < n → kb i = false → A (i + 1) = A i ∧ T (i + 1) = U i) {Qd : Hp → Prop} (hQ : ∀ H' acc, Ez z H1 H' → H' D = some (.lst acc) → At (z.add D (.lst acc)) H' (T n) → DaAll (z.add D (.lst acc)) H' acc (A n) → Qd H') :
    ∃ W : Nat → Nat → Hp → Prop, (∃ m, W 0 m (upd H1 D (.lst []))) ∧ ∀ i m H, W i m H → (J.stop i H ∧ Qd H) ∨ (J.go i H ∧ ∃ Nx : Hp → Prop, (∀ H', Nx H' → ∃ m', m' < m ∧ W (i + 1) m' H') ∧ ∀ x H', J.yld i H x H' → g x (wipe σ ws) H' fun σ2 H2 => wipe σ2 ws = wipe σ ws ∧ tt σ2 H2 fun b H3 =>
        if b = true then te σ2 H3 fun y H4 => ∃ acc, H4 D = some (.lst acc) ∧ acc.length < sizeLine ∧ Nx (upd H4 D (.lst (acc ++ [y]))) else Nx H3) := by
  have lA : ∀ i, i ≤ n → (A i).length ≤ i := by
    intro i
    induction i with
    | zero => intro _; rw [hA0]; exact Nat.le_refl _
    | succ i ih =>
      intro hi
      cases hk : kb i with
      | true =>
        obtain ⟨y, hy, _⟩ := He z i (by omega) hk
        rw [hy, List.length_append]
        have := ih (by omega)
        simp
        omega
      | false =>
        rw [(hn i (by omega) hk).1]
        have := ih (by omega)
        omega
  have reach : ∀ {H' : Hp} {o : HO}, Ez z H1 H' → ∀ (b : Addr) (u : HO), Fz z b → H1 b = some u → Fz (z.add D o) b ∧ H' b = some u := fun e b u fb hb => ⟨fb.to_add (ne_of_none hb hD), e b u fb hb⟩
  have up : ∀ {H' H2 : Hp} {o : HO}, Ez z H1 H' → Ez (z.add D o) H' H2 → Ez z H1 H2 := fun e e2 b u fb hb => e2 b u (fb.to_add (ne_of_none hb hD)) (e b u fb hb)
  refine lc_it wk (fun i H' => Ez z H1 H' ∧ ∃ acc, H' D = some (.lst acc) ∧ At (z.add D (.lst acc)) H' (T i) ∧ DaAll (z.add D (.lst acc)) H' acc (A i)) ?_ (fun i H' _ w => hG H' w.1) ?_ ?_
  · refine ⟨.new hD, [], upd_same, ⟨?_, ?_, ?_⟩, ?_⟩
    · intro b hb
      rw [upd_ne (ne_of_none (a1.d b hb) hD)]
      exact a1.d b hb
    · intro p hp
      rcases List.mem_cons.mp hp with e | e
      · rw [e]
        exact upd_same
      · rw [upd_ne (ne_of_none (a1.v p e) hD)]
        exact a1.v p e
    · intro p hp e2
      rcases List.mem_cons.mp hp with e | e
      · rw [e] at e2
        have := a1.d D e2
        rw [this] at hD
        cases hD
      · exact a1.n p e e2
    · rw [hA0]
      exact .nil
  · intro i x H0 H' hi w hy
    obtain ⟨e2, acc, hDa, a2, rA⟩ := w
    refine turn i x H0 H' (.lst acc) hi e2 hy a2 _ fun σ2 H5 hw e5 a5 en2 => ⟨hw, ?_⟩
    refine Ht _ i hi _ H5 en2 a5 _ fun H3 e30 a3 => ?_
    have e3 := e5.trans e30
    have hD3 : H3 D = some (.lst acc) := a3.v (D, .lst acc) (List.mem_cons_self ..)
    cases hk : kb i with
    | false =>
      obtain ⟨n1, n2⟩ := hn i hi hk
      refine iteF ⟨up e2 e3, acc, hD3, by rw [n2]; exact a3, by rw [n1]; exact rA.mono e3⟩
    | true =>
      obtain ⟨y, hy, go⟩ := He (z.add D (.lst acc)) i hi hk
      refine iteT (go _ H3 (en2.mono e30) a3 _ fun v H4 e4 a4 v4 => ?_)
      have hD4 : H4 D = some (.lst acc) := a4.v (D, .lst acc) (List.mem_cons_self ..)
      have rA4 := (rA.mono e3).mono e4
      have la := rA4.length
      have := lA i (by omega)
      have far : ∀ (b : Addr) (u : HO), Fz (z.add D (.lst acc)) b → H4 b = some u → Fz (z.add D (.lst (acc ++ [v]))) b ∧ upd H4 D (.lst (acc ++ [v])) b = some u := fun b u fb hb => by
        obtain ⟨f1, f2⟩ := fb.of_add
        exact ⟨f1.to_add f2, by rw [upd_ne f2]; exact hb⟩
      refine ⟨acc, hD4, Nat.lt_of_lt_of_le (show acc.length < 100001 by omega) (by decide), ?_, acc ++ [v], upd_same, ⟨?_, ?_, ?_⟩, ?_⟩
      · intro b u fb hb
        rw [upd_ne (ne_of_none hb hD)]
        exact up (up e2 e3) e4 b u fb hb
      · intro b hb
        rw [upd_ne (fun e => a4.n (D, .lst acc) (List.mem_cons_self ..) (by rw [← e]; exact hb))]
        exact a4.d b hb
      · intro p hp
        rcases List.mem_cons.mp hp with e | e
        · rw [e]
          exact upd_same
        · have h1 := a1.v p e
          rw [upd_ne (ne_of_none h1 hD)]
          exact a4.v p (List.mem_cons_of_mem _ e)
      · intro p hp
        rcases List.mem_cons.mp hp with e | e
        · rw [e]
          exact a4.n (D, .lst acc) (List.mem_cons_self ..)
        · exact a4.n p (List.mem_cons_of_mem _ e)
      · rw [hy]
        exact (rA4.re far).app (.cons (v4.re far) .nil)
  · intro H' w
    obtain ⟨e2, acc, hDa, a2, rA⟩ := w
    exact hQ H' acc e2 hDa a2 rA

/-- y = [e for x in range(n)], a list of one's own, the state going along -/
theorem so_lcR {j k : Nat} {x y : Str} {scope : Scope} {n : Nat} {py spos : Pos} (hc : X.calm = true) (hN : X.N.Nodup) (hm : X.mg "range" = none) (f : Nat → PyData) (T : Nat → S) (hit : ∀ z, ED X z [a] es s [.int (n : Int)] s1) (t0 : T 0 = s1) (hl : n ≤ 100000) (hB : BlkOk X.N X.env.scope scope [(x, j)]) (hg : PgIn X scope (.Name x p) (gName j))
    (He : ∀ i : Nat, i < n → ∀ z' : Z, Blk X scope fun Y => EV Y z' elt (es.set j (.val (.int (i : Int)))) (T i) (f i) (T (i + 1))) (kk : SO X rest (es.set k (.own ((List.range n).map f))) (T n) o) (hi : X.N[k]? = some y := by rfl) (hy : List.lookup y X.env.scope.names = some NameKind.local := by rfl)
    (hsw : swapsWith (.ListComp elt [{ target := .Name x p, iter := .Call (.Name "range" p1) [a] [] p2, ifs := [], is_async := 0 }] scope pos) (some (.Name y py)) spos.line X.env = pure true := by exact sw_true rfl rfl rfl (by decide +kernel))
    (hgl : Gl X "range" := by rfl) (hst : starEach [a] X.env = [(false, eval a X.env)] := by rfl) (hs : ∀ x, foldedSetIterable (.Call (.Name "range" p1) [a] [] p2) X.env x = pure x := by intro _; rfl) :
    SO X (.Assign [.Name y py] (.ListComp elt [{ target := .Name x p, iter := .Call (.Name "range" p1) [a] [] p2, ifs := [], is_async := 0 }] scope pos) spos :: rest) es s o := fun z Hc H vol σ I D q =>
  ⟨_, pss_cons (ps_setLc (i := k) (own := [(x, j)]) hc hN hi hy hsw (pi_range1 hgl hm wA_ok hst) hB hg (fun _ _ _ _ _ => pts_nil) tEl_ok hs) wB_ok, by
    refine hit _ σ H I.en I.at_ _ fun vs H1 e1 a1 v1 => ?_
    cases v1 with
    | cons h r =>
      cases r
      cases h
      refine ⟨(n : Int), rfl, by omega, by omega, fun D' hD => ?_⟩
      rw [Int.toNat_natCast]
      subst t0
      refine lc_allO (g := gName j) (ws := [j]) (walk_range (lo := 0) (n := n)) T T a1 hD (fun i => es.set j (.val (.int (i : Int)))) (fun H' e => trivial) (fun i x H' H2 o hi e2 hy a2 Q q => ?_) hl (fun _ => true) (fun i => (List.range i).map f) rfl (fun z' i hi σ H en at_ Q q => q H (.refl H) at_)
        (fun z' i hi _ => ⟨f i, by rw [List.range_succ, List.map_append]; rfl, fun σ H en at_ Q q s0 H0 C cl fp => He i hi z' s0 H0 C cl fp σ H en at_ Q q⟩) (fun i _ h => by cases h) (fun H' acc e hD2 a2 r2 => kk z Hc H' _ _ (I.fresh k e1 a1 hD e a2 r2) D q)
      obtain ⟨rfl, hx⟩ := hy
      have reach : ∀ (b : Addr) (u : HO), Fz (z.own vol) b → H1 b = some u → Fz ((z.own vol).add D' o) b ∧ H2 b = some u := fun b u fb hb => ⟨fb.to_add (ne_of_none hb hD), e2 b u fb hb⟩
      have es2 : (wipe σ [j]).set j (some x) = σ.set j (some x) := by
        show (σ.set j none).set j (some x) = _
        rw [List.set_set]
      show Q ((wipe σ [j]).set j (some x)) H2
      rw [es2]
      have en0 : En ((z.own vol).add D' o) H2 σ es := En.re (z := z.own vol) (z' := (z.own vol).add D' o) rfl (fun q h => List.mem_cons_of_mem _ h) reach (I.en.mono e1)
      refine q _ H2 (by
        show (σ.set j (some x)).set j none = σ.set j none
        rw [List.set_set]) (.refl _) a2 (en0.set j (.val ?_))
      rw [hx]
      show Da _ _ (.int (0 + (i : Int))) _
      rw [Int.zero_add]
      exact .int _⟩
end
/-! own lists handed on, cut -/
section
variable {X : Cx} {z : Z} {es : List Sl} {s s1 s2 : S} {a b : Expr} {xs : List Expr} {ds : List PyData} {as : List Sl} {pos p p1 p2 : Pos}
theorem ea_own (i : Nat) {x : Str} (hr : EA X z xs es s as s2) (h : es[i]? = some (.own ds) := by rfl) (hN : X.N[i]? = some x := by rfl) (hvi : Vis X.env.scope x := by first | exact Or.inl rfl | exact Or.inr (Or.inl rfl) | exact Or.inr (Or.inr rfl)) (hd : (x == ("__debug__" : Str)) = false := by decide) (hcd : (x == ("__classdict__" : Str)) = false := by decide)
    (hs : starEach (.Name x p :: xs) X.env = (false, eval (.Name x p) X.env) :: starEach xs X.env := by rfl) : EA X z (.Name x p :: xs) es s (.own ds :: as) s2 := fun σ H en at_ Q q => ⟨_, pa_cons (pe_var hN hvi hd hcd) wA_ok hs, by
    obtain ⟨y, hy, r⟩ := en.slot h
    cases r with
    | @own a0 vs _ m k =>
      exact ⟨_, hy, hr σ H en at_ _ fun us H1 e1 a1 n1 => q _ H1 e1 a1 (.cons (.own m (k.mono e1)) n1)⟩⟩
theorem ev_slToO (i : Nat) {x : Str} {j : Int} (hb : EV X z b es s (.int j) s1) (h : es[i]? = some (.own ds) := by rfl) (hN : X.N[i]? = some x := by rfl) (hvi : Vis X.env.scope x := by first | exact Or.inl rfl | exact Or.inr (Or.inl rfl) | exact Or.inr (Or.inr rfl)) (hd : (x == ("__debug__" : Str)) = false := by decide) (hcd : (x == ("__classdict__" : Str)) = false := by decide) :
    EV X z (.Subscript (.Name x p) (.Slice none (some b) none p1) pos) es s (.list (DL.cutD ds none (some j))) s1 :=
  .mk (pe_slice sl_list (pe_var hN hvi hd hcd) po_none (po_some wE_ok)) fun σ H en at_ Q q => by
    obtain ⟨y, hy, r⟩ := en.slot h
    cases r with
    | @own a0 vs _ m k =>
      refine ⟨_, hy, hb σ H en at_ _ fun u H2 e2 a2 v2 => ?_⟩
      cases v2
      exact ⟨j, rfl, _, _, rfl, .inl (.inl (a2.v _ m)), fun p hp => q _ _ (e2.trans (.new hp)) (a2.new hp) (.lst (a2.fresh hp) upd_same (((k.cut none (some j)).mono e2).mono (.new hp)))⟩
theorem en_listO (i : Nat) {x y : Str} (hm : X.mg y = none) (h : es[i]? = some (.own ds) := by rfl) (hN : X.N[i]? = some x := by rfl) (hvi : Vis X.env.scope x := by first | exact Or.inl rfl | exact Or.inr (Or.inl rfl) | exact Or.inr (Or.inr rfl)) (hd : (x == ("__debug__" : Str)) = false := by decide) (hcd : (x == ("__classdict__" : Str)) = false := by decide)
    (hv : bootBuiltins y = some (.type "list") := by decide +kernel) (hg : Gl X y := by rfl) (hn : y ≠ "__name__" := by decide) (hdb : (y == ("__debug__" : Str)) = false := by decide) (hs : starEach [.Name x p] X.env = (false, eval (.Name x p) X.env) :: starEach [] X.env := by rfl) (hpl : (backTo pos (starEach [] X.env)).any (·.1) = false := by rfl) :
    EN X z (.Call (.Name y p1) [.Name x p] [] pos) es s ds s := fun σ H en at_ Q q =>
  ⟨_, pe_callTy call_list_of hg hm hv (pa_cons (pe_var hN hvi hd hcd) pa_nil hs) hn hdb hs hpl, by
    obtain ⟨y, hy, r⟩ := en.slot h
    cases r with
    | @own a0 vs _ m k => exact ⟨_, hy, _, _, rfl, .inl (.inl (.inl (at_.v _ m))), fun l hl => q l _ H (.refl H) at_ hl k⟩⟩
end
/-! a def whose first row makes a new list out of its arguments, own ones among them -/
structure Fst (X : Cx) (i : Nat) (y : Str) (e : Expr) (py pos : Pos) : Prop where
  hN : X.N.Nodup
  hi : X.N[i]? = some y
  hx : Loc X.env.scope y
  hs : swapsWith e (some (.Name y py)) pos.line X.env = pure false
  hf : X.fn y = true ∨ X.env.scope.names.lookup y = some .local
section
variable {P : Program} {w : World} {K : PySem.W.Frag} {mg : Str → Option Value} {base : Heap}
theorem okOF {x qual : Str} {st : Stmt} {f : Addr} {fd : FuncData} {N ps : List Str} {k : Nat} {R : Rel} (F : Fun K x qual st f fd) (Sc : FnScope N ps (defScope st)) (hl : ∀ as s d s', R as s d s' → as.length = ps.length) (i : Nat) {y : Str} {e : Expr} {py pos : Pos} {rest : List Stmt} (hB : defBody st = .Assign [.Name y py] e pos :: rest)
    (hb : ∀ cdv A outer s0 H0 E, Ctx (cxOf CX0 P w K mg base N qual (defScope st) f cdv A outer s0 H0 E).nox k N → Fst (cxOf CX0 P w K mg base N qual (defScope st) f cdv A outer s0 H0 E).nox i y e py pos ∧ ∀ as s d s', R as s d s' → ∃ ds s1 es0, Le (as ++ List.replicate (N.length - as.length) .un) es0 ∧ (∀ fs, Sl.own fs ∉ es0) ∧ (∀ z, EN (cxOf CX0 P w K mg base N qual (defScope st) f cdv A outer s0 H0 E).nox z e (as ++ List.replicate (N.length - as.length) .un) s ds s1) ∧ SO (cxOf CX0 P w K mg base N qual (defScope st) f cdv A outer s0 H0 E).nox rest (es0.set i (.own ds)) s1 (.rt d s')) :
    FnOk P w K mg base CX0 (k + 1) f fd ps (spD R) := by
  refine F.ok Sc (fun vs H Q E h => ?_) (fun cdv A outer s0 H0 vs Q E hr h => ?_)
  · obtain ⟨z, as, s, d, s', hR, en, _⟩ := h
    have := en.length
    rw [List.length_map] at this
    rw [this]
    exact hl _ _ _ _ hR
  · obtain ⟨z, as, s, d, s', hR, en, at_, q⟩ := h
    have e1 : vs.length = as.length := by
      have := en.length
      rwa [List.length_map] at this
    have C : Ctx (cxOf CX0 P w K mg base N qual (defScope st) f cdv A outer s0 H0 E).nox k N := ⟨Sc.nd, rfl, PassesOwn.never, hr, hr.units⟩
    obtain ⟨B, go⟩ := hb cdv A outer s0 H0 E C
    obtain ⟨ds, s1, es0, l0, hno, hen, hso⟩ := go as s d s' hR
    have none_own : ∀ (i : Nat) (ds : List PyData), es0[i]? ≠ some (.own ds) := fun i ds h => hno ds (List.mem_of_getElem? h)
    have enf : En z H0 (L2.start N vs) (as ++ List.replicate (N.length - as.length) .un) := by
      unfold L2.start
      rw [e1]
      exact en.app (.uns _)
    have I : OI z H0 H0 [] (L2.start N vs) es0 s := ⟨fun q h => (by cases h), List.nodup_nil, fun p hp => (by rw [at_.v p hp]; exact fun h => by cases h), at_, enf.le l0, .refl H0, fun i ds p h => absurd h (none_own i ds), fun i j ds ds' p _ h => absurd h (none_own i ds)⟩
    rw [hB]
    refine ⟨_, wB_ok, ?_⟩
    refine ⟨_, pss_cons (ps_set B.hN B.hi B.hx wE_ok B.hs B.hf) wB_ok, hen z (L2.start N vs) H0 enf at_ _ fun a vs' H1 e1' a1 ha r => ?_⟩
    have re : ∀ (b : Addr) (u : HO), Fz z b → H1 b = some u → Fz (z.add a (.lst vs')) b ∧ upd H1 a (.lst vs') b = some u := fun b u fb hb => by
      have nb := ne_of_none hb ha
      exact ⟨fb.to_add nb, by rw [upd_ne nb]; exact hb⟩
    have a2 : At (z.add a (.lst vs')) (upd H1 a (.lst vs')) s1 := by
      refine ⟨fun b hb => ?_, fun q hq => ?_, fun q hq => ?_⟩
      · rw [upd_ne (ne_of_none (a1.d b hb) ha)]
        exact a1.d b hb
      · rcases List.mem_cons.mp hq with e | m
        · rw [e]
          exact upd_same
        · rw [upd_ne (ne_of_none (a1.v q m) ha)]
          exact a1.v q m
      · rcases List.mem_cons.mp hq with e | m
        · rw [e]
          intro hd
          have := a1.d a hd
          rw [this] at ha
          cases ha
        · exact a1.n q m
    have J := I.fresh i (vs := vs') e1' a1 ha (.new ha) a2 (r.re re)
    exact hso z H0 _ _ _ J { nx := fun _ H' => Q .non H', rt := Q } fun v H' e a n => q v H' e a n
end
end DL


set_option Elab.async false
set_option linter.all false
set_option maxRecDepth 100000
namespace DL
open PySem PySem.Spec PyProof.Rows L2
/-! ### zip(*rows), each turn's tuple under one name -/
abbrev ZipO (h : Heap) (z TI TO : Addr) (v : Value) (g : Bool) : Prop := h.get? z = some { cls := .type "zip", dict := none, data := .fields #[v, .bool g, .bool false, .ref TI, .ref TO], slots := #[] }
abbrev TupO (h : Heap) (T : Addr) (xs : Array Value) : Prop := h.get? T = some { cls := .type "tuple", data := .seq xs }
/-- the tuples' iterators at one place, the items there -/
inductive RowZ (h : Heap) (i : Nat) : List (Addr × Addr) → List Value → Prop
  | nil : RowZ h i [] []
  | cons {it l : Addr} {ar : Array Value} {x : Value} {ps : List (Addr × Addr)} {xs : List Value} : h.IsTupleIter it l i → h.IsTuple l ar → ar[i]? = some x → RowZ h i ps xs → RowZ h i ((it, l) :: ps) (x :: xs)
theorem RowZ.length {h : Heap} {i : Nat} : ∀ {ps : List (Addr × Addr)} {xs : List Value}, RowZ h i ps xs → ps.length = xs.length
  | _, _, .nil => rfl
  | _, _, .cons _ _ _ r => by rw [List.length_cons, List.length_cons, RowZ.length r]
theorem RowZ.keep {h h' : Heap} {i : Nat} : ∀ {ps : List (Addr × Addr)} {xs : List Value}, RowZ h i ps xs → (∀ p ∈ ps, ∀ o, (h.get? p.1 = some o → h'.get? p.1 = some o) ∧ (h.get? p.2 = some o → h'.get? p.2 = some o)) → RowZ h' i ps xs
  | _, _, .nil, _ => .nil
  | _, _, .cons a b c r, k => .cons (a.at fun o e => (k _ (List.mem_cons_self ..) o).1 e) (b.at fun o e => (k _ (List.mem_cons_self ..) o).2 e) c (RowZ.keep r fun p hp => k p (List.mem_cons_of_mem _ hp))
structure ApartZ (z TI TO : Addr) (ps : List (Addr × Addr)) : Prop where
  tiz : TI ≠ z
  toz : TO ≠ z
  tito : TI ≠ TO
  nd : (ps.map Prod.fst).Nodup
  iz : ∀ p ∈ ps, p.1 ≠ z ∧ p.1 ≠ TI ∧ p.1 ≠ TO
  lz : ∀ p ∈ ps, p.2 ≠ z ∧ p.2 ≠ TO ∧ p.2 ∉ ps.map Prod.fst
section
variable {M : Model} {A : Around} {E : Value → Shared → Prop}
theorem loop_walk {α β : Type} {f : α → β → Sem (ForInStep β)} (I : List α → β → Shared → Prop) (step : ∀ x xs b s, I (x :: xs) b s → wpAny M A (f x b) (fun r s' => ∃ b', r = .yield b' ∧ I xs b' s') E s) {Q : β → Shared → Prop} (fin : ∀ b s, I [] b s → Q b s) :
    ∀ (xs : List α) (b : β) (s : Shared), I xs b s → wpAny M A (forIn xs b f) Q E s
  | [], b, s, h => by
    rw [List.forIn_nil]
    exact wpAny_pure (fin b s h)
  | x :: xs, b, s, h => by
    rw [List.forIn_cons]
    refine wpAny_bind (wpAny_mono (step x xs b s h) (fun r s' ⟨b', e, h'⟩ => ?_) fun _ _ q => q)
    subst e
    exact loop_walk I step fin xs b' s' h'
end
section
variable {prog : Program} {w : World} {A : Around} {E : Value → Shared → Prop} {s : Shared}
theorem alive_any {a : Addr} {Q : Option Obj → Shared → Prop} (h : Q (s.heap.get? a) s) : wpAny (model prog w) A (loadIfAlive a) Q E s := fun _ _ _ => h
theorem upd_TupO {T : Addr} {xs : Array Value} {x : Value} {k : Nat} {Q : Unit → Shared → Prop} (hT : TupO s.heap T xs) (hz : xs.size ≤ sizeLine)
    (h : ∀ h', TupO h' T (xs.setIfInBounds k x) → Heap.SameBut T s.heap h' → Q () { s with heap := h' }) : wpAny (model prog w) A (updateSeq T (·.setIfInBounds k x)) Q E s := by
  refine wpAny_updateSeq hT rfl (h _ ?_ (Heap.SameBut.update ..)) hz (by rw [Array.size_setIfInBounds]; omega)
  show Heap.get? _ T = _
  rw [Heap.get?_update_self _ hT rfl]
  simp [Obj.mapSeq]
/-- whether the tuple that was handed out is free again, both ways -/
theorem free_any {z TI TO : Addr} {v : Value} {g : Bool} {Q : Bool → Shared → Prop} (hz : ZipO s.heap z TI TO v g) (hv : v = .none ∨ ∃ a : Nat, v = rawInt (a : Int))
    (h1 : Q true s) (h2 : ∀ h' g', ZipO h' z TI TO v g' → (∃ a : Nat, v = rawInt (a : Int)) → Heap.SameBut z s.heap h' → Q false { s with heap := h' }) : wpAny (model prog w) A (Builtin.SmallTypes.ownedTupleIsFree (.ref z)) Q E s := by
  unfold Builtin.SmallTypes.ownedTupleIsFree
  refine wpAny_bind (wpAny_field hz rfl (x := v) rfl ?_)
  rcases hv with rfl | ⟨a, rfl⟩
  · exact wpAny_pure h1
  · show wpAny _ _ (loadIfAlive _ >>= _) _ _ _
    refine wpAny_bind (alive_any ?_)
    cases hg : s.heap.get? ((a : Int).toNat) with
    | none =>
      simp only [Option.isNone_none, if_true]
      exact wpAny_pure h1
    | some o =>
      simp only [Option.isNone_some, Bool.false_eq_true, if_false]
      refine wpAny_bind (wpAny_field hz rfl (x := .bool g) rfl ?_)
      cases g with
      | true =>
        rw [if_neg (by decide)]
        exact wpAny_pure (h2 s.heap true hz ⟨a, rfl⟩ (Heap.SameBut.refl _ _))
      | false =>
        rw [if_pos (by rfl)]
        exact wpAny_bind (wpAny_setField_rec hz (by simp) fun h' q k => wpAny_pure (h2 h' true q ⟨a, rfl⟩ k))

/-- what the turns of the loop over the iterators keep -/
structure MidZ (s : Shared) (z TI TO : Addr) (i : Nat) (ps : List (Addr × Addr)) (h' : Heap) (done todo : List (Addr × Addr)) (v : Value) (g : Bool) : Prop where
  eq : ps = done ++ todo
  zo : ZipO h' z TI TO v g
  old : ∀ p ∈ done, h'.IsTupleIter p.1 p.2 (i + 1)
  sz : h'.objs.size = s.heap.objs.size
  fr : ∀ c o, c ≠ z → c ≠ TO → c ∉ ps.map Prod.fst → s.heap.get? c = some o → h'.get? c = some o

theorem MidZ.next {z TI TO : Addr} {i : Nat} {ps done todo : List (Addr × Addr)} {p : Addr × Addr} {h' h2 : Heap} {v : Value} {g : Bool} (D : ApartZ z TI TO ps) (m : MidZ s z TI TO i ps h' done (p :: todo) v g)
    (hi : h2.IsTupleIter p.1 p.2 (i + 1)) (b : Heap.SameBut p.1 h' h2) : MidZ s z TI TO i ps h2 (done ++ [p]) todo v g ∧ ∀ {xs : List Value}, RowZ h' i todo xs → RowZ h2 i todo xs := by
  have e := m.eq
  have hp : p ∈ ps := by rw [e]; simp
  have nd := D.nd
  rw [e, List.map_append, List.map_cons] at nd
  have nd1 := (List.nodup_append.mp nd)
  have nd2 := List.nodup_cons.mp nd1.2.1
  refine ⟨⟨by rw [e, List.append_assoc]; rfl, (b.2 _ (D.iz p hp).1.symm).trans m.zo, fun q hq => ?_, b.1.trans m.sz, fun c o c1 c2 c3 h => (b.2 c (fun w => c3 (by rw [w]; exact List.mem_map.mpr ⟨p, hp, rfl⟩))).trans (m.fr c o c1 c2 c3 h)⟩, fun r => r.keep fun q hq o => ?_⟩
  · rcases List.mem_append.mp hq with hq | hq
    · exact (m.old q hq).at fun o h => (b.2 q.1 (fun w => nd1.2.2 q.1 (List.mem_map.mpr ⟨q, hq, rfl⟩) p.1 (List.mem_cons_self ..) w)).trans h
    · rw [List.mem_singleton.mp hq]
      exact hi
  · have hq2 : q ∈ ps := by rw [e]; simp [hq]
    exact ⟨fun h => (b.2 q.1 (fun w => nd2.1 (by rw [← w]; exact List.mem_map.mpr ⟨q, hq, rfl⟩))).trans h, fun h => (b.2 q.2 (fun w => (D.lz q hq2).2.2 (by rw [w]; exact List.mem_map.mpr ⟨p, hp, rfl⟩))).trans h⟩
theorem MidZ.put {z TI TO : Addr} {i : Nat} {ps done todo : List (Addr × Addr)} {h' h2 : Heap} {v : Value} {g : Bool} (D : ApartZ z TI TO ps) (m : MidZ s z TI TO i ps h' done todo v g)
    (b : Heap.SameBut TO h' h2) : MidZ s z TI TO i ps h2 done todo v g ∧ ∀ {xs : List Value}, RowZ h' i todo xs → RowZ h2 i todo xs := by
  have e := m.eq
  refine ⟨⟨e, (b.2 _ D.toz.symm).trans m.zo, fun q hq => (m.old q hq).at fun o h => (b.2 q.1 (D.iz q (by rw [e]; simp [hq])).2.2).trans h, b.1.trans m.sz, fun c o c1 c2 c3 h => (b.2 c c2).trans (m.fr c o c1 c2 c3 h)⟩, fun r => r.keep fun q hq o => ?_⟩
  have hq2 : q ∈ ps := by rw [e]; simp [hq]
  exact ⟨fun h => (b.2 q.1 (D.iz q hq2).2.2).trans h, fun h => (b.2 q.2 (D.lz q hq2).2.1).trans h⟩
theorem MidZ.start {z TI TO : Addr} {i : Nat} {ps : List (Addr × Addr)} {h1 : Heap} {v : Value} {g : Bool} (D : ApartZ z TI TO ps) (hz : ZipO h1 z TI TO v g) (b : Heap.SameBut z s.heap h1) : MidZ s z TI TO i ps h1 [] ps v g ∧ ∀ {xs : List Value}, RowZ s.heap i ps xs → RowZ h1 i ps xs := by
  refine ⟨⟨rfl, hz, (by intro p h; cases h), b.1, fun c o c1 c2 c3 h => (b.2 c c1).trans h⟩, fun r => r.keep fun q hq o => ⟨fun h => (b.2 q.1 (D.iz q hq).1).trans h, fun h => (b.2 q.2 (D.lz q hq).1).trans h⟩⟩
theorem zipN_next {z TI TO : Addr} {i : Nat} {ps : List (Addr × Addr)} {xs : List Value} {ar : Array Value} {v : Value} {g : Bool} {Q : Value → Shared → Prop} (D : ApartZ z TI TO ps)
    (hz : ZipO s.heap z TI TO v g) (hv : v = .none ∨ ∃ a : Nat, v = rawInt (a : Int)) (hTI : TupO s.heap TI (ps.map fun p => Value.ref p.1).toArray) (hTO : TupO s.heap TO ar) (har : ar.size = ps.length) (hps : ps ≠ []) (hsz : ps.length ≤ 1000)
    (R : RowZ s.heap i ps xs)
    (hQ : ∀ h' v' g' ar', ZipO h' z TI TO v' g' → (∃ a : Nat, v' = rawInt (a : Int)) → TupO h' TO ar' → ar'.size = ps.length → (∀ p ∈ ps, h'.IsTupleIter p.1 p.2 (i + 1)) → TupO h' s.heap.objs.size xs.toArray → h'.objs.size = s.heap.objs.size + 1 →
      (∀ c o, c ≠ z → c ≠ TO → c ∉ ps.map Prod.fst → s.heap.get? c = some o → h'.get? c = some o) → Q (.ref s.heap.objs.size) { s with heap := h' }) :
    wpAny (model prog w) A (Builtin.«zip.__next__» ⟨[.ref z], []⟩) (fun fin s' => ∃ u, fin = .done (.ret u) ∧ Q u s') E s := by
  have xl := R.length
  have hsl : (1000 : Nat) ≤ sizeLine := by decide
  have far : ∀ {h' : Heap} {v g}, ZipO h' z TI TO v g → z < h'.objs.size := fun q => Heap.lt_size q
  show wpAny _ _ (field (.ref z) 2 >>= _) _ _ _
  refine wpAny_bind (wpAny_field hz rfl (x := .bool false) rfl ?_)
  show wpAny _ _ (field (.ref z) 3 >>= _) _ _ _
  refine wpAny_bind (wpAny_field hz rfl (x := .ref TI) rfl (wpAny_bind (wpAny_seqItems hTI rfl ?_)))
  dsimp only
  rw [if_neg (by simp [hps])]
  refine wpAny_bind (free_any hz hv ?_ fun h₁ g₁ hz₁ hv₁ hs₁ => ?_)
  · simp only [if_true]
    refine wpAny_bind (wpAny_rule (wpAny_bind (wpAny_field hz rfl (x := .ref TO) rfl (wpAny_bind (wpAny_setField_rec hz (by simp) fun h₁ hz₁ hs₁ => wpAny_bind ?_)))))
    replace hz₁ : ZipO h₁ z TI TO .ellipsis g := hz₁
    obtain ⟨m0, r0⟩ := MidZ.start (i := i) D hz₁ hs₁
    refine loop_walk (fun rest b s' => b = (none, ()) ∧ ∃ h' done todo ar', s' = { s with heap := h' } ∧ rest = (todo.map fun p => Value.ref p.1).zipIdx done.length ∧ MidZ s z TI TO i ps h' done todo .ellipsis g ∧ TupO h' TO ar' ∧ ar'.size = ps.length ∧ (∀ k, k < done.length → ar'[k]? = xs[k]?) ∧ RowZ h' i todo (xs.drop done.length))
      (fun x rest b s' h => ?_) (fun b s' h => ?_) _ _ _ ⟨rfl, h₁, [], ps, ar, rfl, rfl, m0, (hs₁.2 _ D.toz).trans hTO, har, fun k h => (by cases h), r0 R⟩
    · obtain ⟨rfl, h', done, todo, ar', rfl, hr, m, hT, hl, ha, r⟩ := h
      cases todo with
      | nil => cases hr
      | cons p todo =>
        rw [List.map_cons, List.zipIdx_cons] at hr
        injection hr with hx hr
        subst hx hr
        generalize hd : xs.drop done.length = dx at r
        cases r with
        | @cons it l arr x _ dx' hit hl2 hx r =>
          have hp : (it, l) ∈ ps := by rw [m.eq]; simp
          refine wpAny_bind (wpAny_onRaise ?_)
          show wpAny _ _ (Builtin.SmallTypes.nextOf (.ref it) >>= _) _ _ _
          refine wpAny_bind (RZ.nextOf_tuple_item hit hl2 hx fun h2 hit2 hs2 => wpAny_pure ?_)
          obtain ⟨m2, rr2⟩ := m.next D hit2 hs2
          have hT2 : TupO h2 TO ar' := (hs2.2 _ (D.iz _ hp).2.2.symm).trans hT
          refine wpAny_bind (wpAny_seqItems hT2 rfl ?_)
          refine wpAny_bind (upd_TupO hT2 (by omega) fun h3 hT3 hs3 => ?_)
          obtain ⟨m3, rr3⟩ := m2.put D hs3
          refine wpAny_bind (wpAny_letGo (wpAny_pure ⟨_, rfl, rfl, h3, done ++ [(it, l)], todo, _, rfl, by rw [List.length_append]; rfl, m3, hT3, by rw [Array.size_setIfInBounds, hl], fun k hk => ?_, ?_⟩))
          · have dl : done.length < ps.length := by
              have := congrArg List.length m.eq
              rw [List.length_append, List.length_cons] at this
              omega
            rw [List.length_append, List.length_singleton] at hk
            rw [Array.getElem?_setIfInBounds]
            by_cases e : done.length = k
            · subst e
              rw [if_pos rfl, if_pos (by omega)]
              have := congrArg List.head? hd
              rw [List.head?_drop] at this
              exact this.symm
            · rw [if_neg e]
              exact ha k (by omega)
          · have : xs.drop (done ++ [(it, l)]).length = dx' := by
              have := congrArg List.tail hd
              rw [List.tail_drop] at this
              rw [List.length_append, List.length_singleton]
              exact this
            rw [this]
            exact rr3 (rr2 r)
    · obtain ⟨rfl, h', done, todo, ar', rfl, hr, m, hT, hl, ha, r⟩ := h
      have ht : todo = [] := by
        cases todo with
        | nil => rfl
        | cons p t => cases hr
      subst ht
      have e := m.eq
      rw [List.append_nil] at e
      subst e
      have ex : ar' = xs.toArray := by
        apply Array.ext'
        apply List.ext_getElem?
        intro k
        by_cases hk : k < ps.length
        · have := ha k hk
          rw [Array.getElem?_toList]
          exact this
        · rw [List.getElem?_eq_none (by rw [Array.length_toList]; omega), List.getElem?_eq_none (by show xs.length ≤ k; omega)]
      subst ex
      dsimp only
      refine wpAny_bind (wpAny_seqItems hT rfl ?_)
      dsimp only
      refine wpAny_bind (wpAny_newTuple ?_)
      have hzl := far m.zo
      show wpAny _ _ (Builtin.SmallTypes.ownedTupleHandOut (.ref z) (.ref h'.objs.size) >>= _) _ _ _
      refine wpAny_bind ?_
      unfold Builtin.SmallTypes.ownedTupleHandOut
      have q1 : ZipO (h'.push { cls := .type "tuple", data := .seq xs.toArray }) z TI TO .ellipsis g := Heap.get?_push_of_some _ m.zo
      refine wpAny_bind (wpAny_setField_rec q1 (by simp) fun h4 q4 b4 => ?_)
      replace q4 : ZipO h4 z TI TO (rawInt h'.objs.size) g := q4
      refine wpAny_setField_rec q4 (by simp) fun h5 q5 b5 => ?_
      replace q5 : ZipO h5 z TI TO (rawInt h'.objs.size) false := q5
      have up : ∀ c o, c ≠ z → h'.get? c = some o → h5.get? c = some o := fun c o c1 e => (b5.2 c c1).trans ((b4.2 c c1).trans (Heap.get?_push_of_some _ e))
      have hT5 : TupO h5 h'.objs.size xs.toArray := (b5.2 _ (Nat.ne_of_gt hzl)).trans ((b4.2 _ (Nat.ne_of_gt hzl)).trans (Heap.get?_push_size _ rfl))
      have s5 : h5.objs.size = h'.objs.size + 1 := by rw [b5.1, b4.1, Heap.size_push]
      refine wpAny_pure ⟨_, rfl, ?_⟩
      show Q (.ref h'.objs.size) _
      rw [m.sz] at hT5 s5 q5 ⊢
      exact hQ h5 _ _ _ q5 ⟨_, rfl⟩ (up _ _ D.toz hT) hl (fun p hp => (m.old p hp).at fun o q => up _ _ (D.iz p hp).1 q) hT5 s5 fun c o c1 c2 c3 q => up c o c1 (m.fr c o c1 c2 c3 q)
  · simp only [Bool.false_eq_true, if_false]
    rw [← Array.forIn_toList]
    refine wpAny_bind ?_
    obtain ⟨m0, r0⟩ := MidZ.start (i := i) D hz₁ hs₁
    refine loop_walk (fun rest b s' => ∃ h' done todo, s' = { s with heap := h' } ∧ rest = todo.map (fun p => Value.ref p.1) ∧ b = (none, (xs.take done.length).toArray) ∧ MidZ s z TI TO i ps h' done todo v g₁ ∧ TupO h' TO ar ∧ RowZ h' i todo (xs.drop done.length))
      (fun x rest b s' h => ?_) (fun b s' h => ?_) _ _ _ ⟨h₁, [], ps, rfl, rfl, rfl, m0, (hs₁.2 _ D.toz).trans hTO, r0 R⟩
    · obtain ⟨h', done, todo, rfl, hr, rfl, m, hT, r⟩ := h
      cases todo with
      | nil => cases hr
      | cons p todo =>
        rw [List.map_cons] at hr
        injection hr with hx hr
        subst hx hr
        generalize hd : xs.drop done.length = dx at r
        cases r with
        | @cons it l arr x _ dx' hit hl2 hx r =>
          have hp : (it, l) ∈ ps := by rw [m.eq]; simp
          refine wpAny_bind (wpAny_holding ?_)
          show wpAny _ _ (Builtin.SmallTypes.nextOf (.ref it) >>= _) _ _ _
          refine wpAny_bind (RZ.nextOf_tuple_item hit hl2 hx fun h2 hit2 hs2 => wpAny_pure ?_)
          obtain ⟨m2, rr2⟩ := m.next D hit2 hs2
          have hx' : xs[done.length]? = some x := by
            have := congrArg List.head? hd
            rwa [List.head?_drop] at this
          refine wpAny_pure ⟨_, rfl, h2, done ++ [(it, l)], todo, rfl, rfl, ?_, m2, (hs2.2 _ (D.iz _ hp).2.2.symm).trans hT, ?_⟩
          · rw [List.length_append, List.length_singleton, List.take_add_one, hx']
            simp
          · have : xs.drop (done ++ [(it, l)]).length = dx' := by
              have := congrArg List.tail hd
              rw [List.tail_drop] at this
              rw [List.length_append, List.length_singleton]
              exact this
            rw [this]
            exact rr2 r
    · obtain ⟨h', done, todo, rfl, hr, rfl, m, hT, r⟩ := h
      have ht : todo = [] := by
        cases todo with
        | nil => rfl
        | cons p t => cases hr
      subst ht
      have e := m.eq
      rw [List.append_nil] at e
      subst e
      rw [List.take_of_length_le (by omega)]
      dsimp only
      refine wpAny_bind (wpAny_newTuple (wpAny_pure ⟨_, rfl, ?_⟩))
      have up : ∀ c o, h'.get? c = some o → (h'.push { cls := .type "tuple", data := .seq xs.toArray }).get? c = some o := fun c o e => Heap.get?_push_of_some _ e
      have hT5 : TupO (h'.push { cls := .type "tuple", data := .seq xs.toArray }) h'.objs.size xs.toArray := Heap.get?_push_size _ rfl
      have s5 : (h'.push { cls := .type "tuple", data := .seq xs.toArray }).objs.size = h'.objs.size + 1 := Heap.size_push ..
      show Q (.ref h'.objs.size) _
      rw [m.sz] at hT5 s5 ⊢
      exact hQ _ _ _ _ (up _ _ m.zo) hv₁ (up _ _ hT) har (fun p hp => (m.old p hp).at fun o q => up _ _ q) hT5 s5 fun c o c1 c2 c3 q => up c o (m.fr c o c1 c2 c3 q)
theorem zipN_stop {z TI TO it l : Addr} {i : Nat} {ps : List (Addr × Addr)} {arr ar : Array Value} {v : Value} {g : Bool} {Q : PySem.Fin → Shared → Prop} (hh : A.handled = none) (D : ApartZ z TI TO ((it, l) :: ps))
    (hz : ZipO s.heap z TI TO v g) (hv : v = .none ∨ ∃ a : Nat, v = rawInt (a : Int)) (hTI : TupO s.heap TI (((it, l) :: ps).map fun p => Value.ref p.1).toArray) (hTO : TupO s.heap TO ar)
    (hit : s.heap.IsTupleIter it l i) (hl : s.heap.IsTuple l arr) (hx : arr[i]? = none)
    (hE : ∀ h' e, (∀ c o, c ≠ z → c ≠ it → s.heap.get? c = some o → h'.get? c = some o) → (∃ o, h'.get? e = some o ∧ o.cls = .type "StopIteration") → E (.ref e) { s with heap := h' }) :
    wpAny (model prog w) A (Builtin.«zip.__next__» ⟨[.ref z], []⟩) Q E s := by
  have iz := (D.iz _ (List.mem_cons_self ..)).1
  have lz := (D.lz _ (List.mem_cons_self ..)).1
  show wpAny _ _ (field (.ref z) 2 >>= _) _ _ _
  refine wpAny_bind (wpAny_field hz rfl (x := .bool false) rfl ?_)
  show wpAny _ _ (field (.ref z) 3 >>= _) _ _ _
  refine wpAny_bind (wpAny_field hz rfl (x := .ref TI) rfl (wpAny_bind (wpAny_seqItems hTI rfl ?_)))
  dsimp only
  rw [if_neg (by simp)]
  refine wpAny_bind (free_any hz hv ?_ fun h₁ g₁ hz₁ hv₁ hs₁ => ?_)
  · simp only [if_true]
    refine wpAny_bind (wpAny_rule (wpAny_bind (wpAny_field hz rfl (x := .ref TO) rfl (wpAny_bind (wpAny_setField_rec hz (by simp) fun h₁ hz₁ hs₁ => wpAny_bind ?_)))))
    replace hz₁ : ZipO h₁ z TI TO .ellipsis g := hz₁
    rw [List.map_cons, List.zipIdx_cons, List.forIn_cons]
    refine wpAny_bind (wpAny_bind (wpAny_onRaise ?_))
    show wpAny _ _ (Builtin.SmallTypes.nextOf (.ref it) >>= _) _ _ _
    refine wpAny_bind (RZ.nextOf_tuple_end hh (hit.at fun o q => (hs₁.2 _ iz).trans q) (hl.at fun o q => (hs₁.2 _ lz).trans q) hx fun h2 e k2 he => ?_)
    obtain ⟨oe, hoe, hce⟩ := he
    have hz2 : ZipO h2 z TI TO .ellipsis g := k2 _ _ iz.symm hz₁
    have ez : e ≠ z := fun w => by
      subst w
      rw [hz2] at hoe
      cases hoe
      simp at hce
    exact wpAny_setField_rec hz2 (by simp) fun h3 _ k3 => hE h3 e (fun c o c1 c2 q => (k3.2 c c1).trans (k2 c o c2 ((hs₁.2 c c1).trans q))) ⟨oe, (k3.2 e ez).trans hoe, hce⟩
  · simp only [Bool.false_eq_true, if_false]
    rw [← Array.forIn_toList]
    refine wpAny_bind ?_
    show wpAny _ _ (forIn (Value.ref it :: ps.map fun p => Value.ref p.1) _ _) _ _ _
    rw [List.forIn_cons]
    refine wpAny_bind (wpAny_bind (wpAny_holding ?_))
    show wpAny _ _ (Builtin.SmallTypes.nextOf (.ref it) >>= _) _ _ _
    exact wpAny_bind (RZ.nextOf_tuple_end hh (hit.at fun o q => (hs₁.2 _ iz).trans q) (hl.at fun o q => (hs₁.2 _ lz).trans q) hx fun h2 e k2 he => hE h2 e (fun c o c1 c2 q => k2 c o c2 ((hs₁.2 c c1).trans q)) he)
end
end DL


set_option Elab.async false
set_option linter.all false
set_option maxRecDepth 100000
namespace DL
open PySem PySem.Spec PyProof.Rows L2
theorem newCallZ : ∀ us : List Value, us ≠ [] → us.length ≤ 4 → checkBuiltinCall "zip.__new__" ⟨.type "zip" :: us, []⟩ = pure ()
  | [], h, _ => absurd rfl h
  | [a], _, _ => by kernel_rfl
  | [a, b], _, _ => by kernel_rfl
  | [a, b, c], _, _ => by kernel_rfl
  | [a, b, c, d], _, _ => by kernel_rfl
  | _ :: _ :: _ :: _ :: _ :: _, _, h => by simp at h
theorem typeCallZ (us : List Value) : checkTypeCall "zip" ⟨us, []⟩ = pure () := by kernel_rfl
theorem argsInitZ (us : List Value) (o : Value) : argsOk "object.__init__" ⟨o :: us, []⟩ := by
  unfold argsOk
  rw [signature?_of (id := "object.__init__") (n := ['_', '_', 't', 'i', 'n', 'i', '_', '_']) (o := ['t', 'c', 'e', 'j', 'b', 'o']) (by kernel_rfl) F.owner_object]
  kernel_rfl
section
variable {prog : Program} {w : World} {A : Around} {E : Value → Shared → Prop} {s : Shared}
structure ItsZ (s : Shared) (h' : Heap) (its as : List Addr) : Prop where
  len : its.length = as.length
  it : ∀ (k : Nat) (t a : Addr), its[k]? = some t → as[k]? = some a → h'.IsTupleIter t a 0
  nd : its.Nodup
  lo : ∀ t ∈ its, s.heap.objs.size ≤ t ∧ t < h'.objs.size
  le : s.heap.objs.size ≤ h'.objs.size
  kp : ∀ c o, s.heap.get? c = some o → h'.get? c = some o
theorem iterAll_any {as : List Addr} {Q : List Value → Shared → Prop} (ht : ∀ a ∈ as, ∃ ar, s.heap.IsTuple a ar) (k : ∀ h' its, ItsZ s h' its as → Q (its.map Value.ref) { s with heap := h' }) :
    wpAny (model prog w) A (Builtin.SmallTypes.iterAll (as.map Value.ref)) Q E s := by
  unfold Builtin.SmallTypes.iterAll
  refine wpAny_bind ?_
  refine loop_walk (fun rest b s' => ∃ h' its done todo, as = done ++ todo ∧ rest = todo.map Value.ref ∧ b = (its.map Value.ref).toArray ∧ s' = { s with heap := h' } ∧ ItsZ s h' its done) (fun x rest b s' h => ?_) (fun b s' h => ?_) _ _ _ ⟨s.heap, [], [], as, rfl, rfl, rfl, rfl, rfl, (by intro k t a h; simp at h), List.nodup_nil, (by intro t h; cases h), Nat.le_refl _, fun _ _ e => e⟩
  · obtain ⟨h', its, done, todo, ea, er, rfl, rfl, I⟩ := h
    cases todo with
    | nil => cases er
    | cons a todo =>
      rw [List.map_cons] at er
      injection er with ex er
      subst ex er
      obtain ⟨ar, har⟩ := ht a (by rw [ea]; simp)
      refine wpAny_bind (wpAny_holding (wpAny_pyIter_tuple (s := { s with heap := h' }) (har.at fun o e => I.kp a o e) ?_))
      have hn : (h'.push { cls := .type "tuple_iterator", data := .fields #[.ref a, .int 0 0] }).objs.size = h'.objs.size + 1 := Heap.size_push ..
      have il := I.len
      refine wpAny_pure ⟨_, rfl, _, its ++ [h'.objs.size], done ++ [a], todo, by rw [ea, List.append_assoc]; rfl, rfl, by simp, rfl, ⟨by simp [il], fun k t b h1 h2 => ?_, ?_, fun t ht => ?_, by rw [hn]; have := I.le; omega, fun c o e => Heap.get?_push_of_some _ (I.kp c o e)⟩⟩
      · by_cases hk : k < its.length
        · rw [List.getElem?_append_left hk] at h1
          rw [List.getElem?_append_left (by omega)] at h2
          exact (I.it k t b h1 h2).at fun o e => Heap.get?_push_of_some _ e
        · have hk2 : k = its.length := by
            have := (List.getElem?_eq_some_iff.mp h1).1
            simp at this
            omega
          subst hk2
          rw [List.getElem?_append_right (Nat.le_refl _), Nat.sub_self] at h1
          rw [List.getElem?_append_right (by omega), show its.length - done.length = 0 by omega] at h2
          cases h1
          cases h2
          exact ⟨_, Heap.get?_push_size _ rfl, rfl, rfl⟩
      · refine List.nodup_append.mpr ⟨I.nd, by simp, fun x hx y hy e => ?_⟩
        have := (I.lo x hx).2
        rw [List.mem_singleton.mp hy] at e
        rw [e] at this
        exact Nat.lt_irrefl _ this
      · rw [hn]
        rcases List.mem_append.mp ht with h | h
        · exact ⟨(I.lo t h).1, Nat.lt_succ_of_lt (I.lo t h).2⟩
        · rw [List.mem_singleton.mp h]
          exact ⟨I.le, Nat.lt_succ_self _⟩
  · obtain ⟨h', its, done, todo, ea, er, rfl, rfl, I⟩ := h
    have : todo = [] := by
      cases todo with
      | nil => rfl
      | cons a t => cases er
    subst this
    rw [List.append_nil] at ea
    subst ea
    exact wpAny_pure (k h' its I)
theorem newZ {as : List Addr} :
    PySem.Meets (Builtin.«zip.__new__» ⟨.type "zip" :: as.map Value.ref, []⟩) (fun _ R s => (∀ a ∈ as, ∃ ar, s.heap.IsTuple a ar) ∧ as.length ≤ 1000 ∧ ∀ h1 h' its z TI TO, ItsZ s h1 its as → (∀ c o, h1.get? c = some o → h'.get? c = some o) → z = h1.objs.size + 2 → TI = h1.objs.size → TO = h1.objs.size + 1 →
      ZipO h' z TI TO .none false → TupO h' TI (its.map Value.ref).toArray → TupO h' TO (its.map fun _ => Value.none).toArray → R (.ok (.ret (.ref z))) { s with heap := h' }) :=
  .of_wp fun prog w A R s h => by
    obtain ⟨hp, g, d, tk, os⟩ := s
    obtain ⟨ht, hl, hR⟩ := h
    have hsub := sub_zip
    have hsl : (1000 : Nat) ≤ sizeLine := by decide
    have main : ∀ {B : Around} {E : Value → Shared → Prop} {Q : List Value → Shared → Prop}, (∀ h1 its, ItsZ ⟨hp, g, d, tk, os⟩ h1 its as → Q (its.map Value.ref) ⟨h1, g, d, tk, os⟩) → wpAny (model prog w) B (Builtin.SmallTypes.iterAll (as.map Value.ref)) Q E ⟨hp, g, d, tk, os⟩ := fun k => iterAll_any ht k
    wp_walk using main
    intro h1 its I
    have il := I.len
    have nil : its.map (fun _ => Value.none) = (its.map Value.ref).map fun _ => Value.none := by rw [List.map_map]; rfl
    refine wpAny_bind (wpAny_newTuple ?_ (by rw [List.length_map]; omega))
    refine wpAny_bind (wpAny_newTuple ?_ (by rw [List.length_map, List.length_map]; omega))
    rw [← nil]
    have z1 : (h1.push { cls := .type "tuple", data := .seq (its.map Value.ref).toArray }).objs.size = h1.objs.size + 1 := Heap.size_push ..
    have z2 : ((h1.push { cls := .type "tuple", data := .seq (its.map Value.ref).toArray }).push { cls := .type "tuple", data := .seq (its.map fun _ => Value.none).toArray }).objs.size = h1.objs.size + 2 := by rw [Heap.size_push, z1]
    show wpAny _ _ (newObj (.type "zip") (.fields #[.none, .bool false, .bool false, .ref h1.objs.size, .ref (h1.push { cls := .type "tuple", data := .seq (its.map Value.ref).toArray }).objs.size]) >>= _) _ _ _
    refine wpAny_bind (wpAny_newObj_type (wpAny_pure ⟨_, rfl, ?_⟩))
    refine hR h1 _ its _ h1.objs.size (h1.objs.size + 1) I (fun c o e => Heap.get?_push_of_some _ (Heap.get?_push_of_some _ (Heap.get?_push_of_some _ e))) z2 rfl rfl ?_ (Heap.get?_push_of_some _ (Heap.get?_push_of_some _ (Heap.get?_push_size _ rfl))) ?_
    · rw [← z1]
      exact Heap.get?_push_size _ rfl
    · rw [← z1]
      exact Heap.get?_push_of_some _ (Heap.get?_push_size _ rfl)
theorem callZ {as : List Addr} {Q : Value → Shared → Prop} (ht : ∀ a ∈ as, ∃ ar, s.heap.IsTuple a ar) (h0 : as ≠ []) (hl : as.length ≤ 4)
    (h : ∀ h1 h' its (z TI TO : Addr), ItsZ s h1 its as → (∀ c o, h1.get? c = some o → h'.get? c = some o) → z = h1.objs.size + 2 → TI = h1.objs.size → TO = h1.objs.size + 1 →
      ZipO h' z TI TO .none false → TupO h' TI (its.map Value.ref).toArray → TupO h' TO (its.map fun _ => Value.none).toArray → Q (.ref z) { s with heap := h' }) :
    wpAny (model prog w) A (call (.type "zip") (as.map Value.ref)) Q E s := by
  refine callType_new F.called_zip (by decide) (typeCallZ _) (newCallZ _ (by simp [h0]) (by rw [List.length_map]; exact hl)) (fun obj => argsInitZ _ obj) F.entry_zip_new newZ ⟨ht, by omega, fun h1 h' its z TI TO I k ez e1 e2 qz q1 q2 => ?_⟩
  exact ⟨⟨_, qz, rfl⟩, h h1 h' its z TI TO I k ez e1 e2 qz q1 q2⟩
theorem callWith_typeS {M : Model} {A : Around} {E : Value → Shared → Prop} {s : Shared} {env : Env} {pos p : Pos} {T : String} {e : Expr} {Q : Value → Shared → Prop}
    (h : wpAny M A (eval e env) (fun v s₁ => PySem.W.StarOf M A E v (fun vs s₂ => wpAny M A (call (.type T) vs) Q E s₂) s₁) E s)
    (he : starEach [.Starred e p] env = [(true, eval e env)] := by rfl) : wpAny M A (callWith pos (.type T) [] (backTo pos (starEach [.Starred e p] env)) []) Q E s := by
  rw [he]
  unfold callWith
  refine wpAny_bind (wpAny_holding (wpAny_mono (PySem.W.ks_lone (Q := fun (a : Args) s₂ => wpAny M A (call (.type T) a.pos a.kw) Q E s₂) h) (fun a s₁ h₁ => wpAny_bind (wpAny_standAt ?_)) fun _ _ q => q))
  refine wpAny_bind (wpAny_pure ?_)
  exact wpAny_bind (wpAny_mono (wpAny_operating h₁) (fun r s₂ hr => wpAny_bind (wpAny_holding (wpAny_point (wpAny_pure hr)))) fun _ _ q => q)
end
/-! ### the walk -/
inductive RowV (K : PySem.W.Frag) (H : Hp) (i : Nat) : List Addr → List V → Prop
  | nil : RowV K H i [] []
  | cons {a : Addr} {xs vs : List V} {x : V} {as : List Addr} : SqT K H a xs → xs[i]? = some x → RowV K H i as vs → RowV K H i (a :: as) (x :: vs)
def ItN (K : PySem.W.Frag) (as : List Addr) : It where
  go i H := ∃ vs, RowV K H i as vs
  yld i H v H' := ∃ T vs, v = .ref T ∧ H T = none ∧ H' = upd H T (.tup vs) ∧ vs.length = as.length ∧ ∀ (k : Nat) (a : Addr) (xs : List V), as[k]? = some a → SqT K H a xs → ∃ x, vs[k]? = some x ∧ xs[i]? = some x
  stop i H := ∃ (a : Addr) (xs : List V) (rest : List Addr), as = a :: rest ∧ SqT K H a xs ∧ xs.length = i
/-- how the zip object stands ahead of the turn i -/
structure TnZ (z TI TO : Addr) (ps : List (Addr × Addr)) (i : Nat) (h : Heap) : Prop where
  zo : ∃ v g, ZipO h z TI TO v g ∧ (v = .none ∨ ∃ a : Nat, v = rawInt (a : Int))
  ti : TupO h TI (ps.map fun p => Value.ref p.1).toArray
  to : ∃ ar, TupO h TO ar ∧ ar.size = ps.length
  it : ∀ p ∈ ps, h.IsTupleIter p.1 p.2 i
theorem RowV.length {K : PySem.W.Frag} {H : Hp} {i : Nat} : ∀ {as : List Addr} {vs : List V}, RowV K H i as vs → vs.length = as.length
  | _, _, .nil => rfl
  | _, _, .cons _ _ r => by rw [List.length_cons, List.length_cons, RowV.length r]
theorem RowV.get {K : PySem.W.Frag} {H : Hp} {i : Nat} {X : Cx} {pins : List (Addr × Obj)} {σ : L2.St} {s : Shared} (I : Inv X pins σ H s) (hK : X.K = K) : ∀ {as : List Addr} {vs : List V}, RowV K H i as vs → ∀ (k : Nat) (a : Addr) (xs : List V), as[k]? = some a → SqT K H a xs → ∃ x, vs[k]? = some x ∧ xs[i]? = some x
  | _, _, .nil, k, a, xs, h, _ => by simp at h
  | _, _, .cons q e r, 0, a, xs, h, hs => by
    cases h
    subst hK
    exact ⟨_, rfl, by rw [I.tuple_inj hs q]; exact e⟩
  | _, _, .cons q e r, k + 1, a, xs, h, hs => RowV.get I hK r k a xs h hs
theorem RowV.rowZ {K : PySem.W.Frag} {H : Hp} {i : Nat} {X : Cx} {pins : List (Addr × Obj)} {σ : L2.St} {s : Shared} (I : Inv X pins σ H s) (hK : X.K = K) : ∀ {ps : List (Addr × Addr)} {vs : List V}, RowV K H i (ps.map Prod.snd) vs → (∀ p ∈ ps, s.heap.IsTupleIter p.1 p.2 i) → ∃ us, RowZ s.heap i ps us ∧ Vals vs us
  | [], _, .nil, _ => ⟨[], .nil, .nil⟩
  | (t, a) :: ps, _, .cons q e r, hp => by
    obtain ⟨us, r1, r2⟩ := RowV.rowZ I hK r fun p h => hp p (List.mem_cons_of_mem _ h)
    subst hK
    obtain ⟨its, rv, isT, _⟩ := I.tuple q
    obtain ⟨u, hu, ru⟩ := rv.get e
    exact ⟨u :: us, .cons (hp (t, a) (List.mem_cons_self ..)) isT (by simpa using hu) r1, .cons ru r2⟩
theorem iter_ZipO {prog : Program} {w : World} {A : Around} {E : Value → Shared → Prop} {s : Shared} {z TI TO : Addr} {v : Value} {g : Bool} {Q : Value → Shared → Prop} (hz : ZipO s.heap z TI TO v g) (h : Q (.ref z) s) : wpAny (model prog w) A (pyIter (.ref z)) Q E s := by
  have ty : s.TypeIs (.ref z) "zip" := ⟨_, hz, rfl⟩
  exact wpAny_pyIter_slot ty F.slot_zip_iter (wpAny_call_entry F.slot_zip_iter ty F.entry_zip_iter (show wpAny _ _ (ret (.ref z)) _ _ s from wpAny_pure ⟨_, rfl, "zip", _, ty, F.slot_zip_next.lookup, h⟩) (F.args_zip_iter_1 _))
theorem turn_zipN {P : Program} {w : World} {K : PySem.W.Frag} {x : Str} {tpos : Pos} {z TI TO : Addr} {ps : List (Addr × Addr)} (D : ApartZ z TI TO ps) (h0 : ps ≠ []) (hl : ps.length ≤ 1000) :
    Turn P w K (.Name x tpos) (ItN K (ps.map Prod.snd)) (z :: TI :: TO :: ps.map Prod.fst) z (TnZ z TI TO ps) where
  mem := List.mem_cons_self ..
  obj := fun i h st c hc => by
    rcases List.mem_cons.mp hc with q | hc
    · obtain ⟨v, g, e, _⟩ := st.zo
      rw [q]
      exact ⟨_, e, fun v q => nomatch q⟩
    · rcases List.mem_cons.mp hc with q | hc
      · rw [q]
        exact ⟨_, st.ti, fun v q => nomatch q⟩
      · rcases List.mem_cons.mp hc with q | hc
        · obtain ⟨ar, e, _⟩ := st.to
          rw [q]
          exact ⟨_, e, fun v q => nomatch q⟩
        · obtain ⟨p, hp, q⟩ := List.mem_map.mp hc
          obtain ⟨o, e, _, d⟩ := st.it p hp
          rw [← q]
          exact ⟨o, e, fun v q => by rw [d] at q; cases q⟩
  keep := fun i h h' st k => by
    obtain ⟨v, g, e, hv⟩ := st.zo
    obtain ⟨ar, e2, ha⟩ := st.to
    exact ⟨⟨v, g, k z (List.mem_cons_self ..) _ e, hv⟩, k TI (by simp) _ st.ti, ⟨ar, k TO (by simp) _ e2, ha⟩, fun p hp => (st.it p hp).at fun o q => k p.1 (by simp only [List.mem_cons]; exact .inr (.inr (.inr (List.mem_map.mpr ⟨p, hp, rfl⟩)))) o q⟩
  item := by
    intro X hP hw hK hc i pins s σ H E I hf st hg
    subst hP hw hK
    obtain ⟨v, g, hz, hv⟩ := st.zo
    obtain ⟨ar, hTO, ha⟩ := st.to
    obtain ⟨vs, rv⟩ := hg
    obtain ⟨us, rz, ru⟩ := rv.rowZ I rfl st.it
    have hTy : s.TypeIs (.ref z) "zip" := ⟨_, hz, rfl⟩
    have ul := rz.length
    unfold pyNext
    refine wpAny_bind (wpAny_attempt (wpAny_callSpecial?_slot (name := Str.ofString "__next__") hTy F.slot_zip_next (wpAny_call_entry F.slot_zip_next hTy F.entry_zip_next (zipN_next D hz hv st.ti hTO ha h0 hl rz fun h' v' g' ar' q1 q2 q3 q4 q5 q6 q7 q8 => ?_) (F.args_zip_next_1 _))))
    refine wpAny_pure ⟨_, rfl, wpAny_pure ?_⟩
    have new : ObjOk X.prog X.w (upd H s.heap.objs.size (.tup vs)) h' s.heap.objs.size (.tup vs) := ⟨by
      show vs.length ≤ sizeLine
      rw [ru.length, ← ul]
      exact Nat.le_trans hl (by decide), us, ru, ⟨_, q6, rfl, _, rfl⟩⟩
    have I1 : Inv X pins σ (upd H s.heap.objs.size (.tup vs)) { s with heap := h' } :=
      I.turnedNew (t' := s.toks) (ch := z :: TI :: TO :: ps.map Prod.fst) (fun c o hb q => q8 c o (fun w => hb (by simp [w])) (fun w => hb (by simp [w])) (fun w => hb (by simp only [List.mem_cons]; exact .inr (.inr (.inr w)))) q) hf (Nat.le_refl _) new
    refine ⟨.ref s.heap.objs.size, _, I1, rfl, ⟨_, vs, rfl, I.hok.fresh (Nat.le_refl _), rfl, rv.length, rv.get I rfl⟩, ⟨⟨v', g', q1, .inr q2⟩, q8 _ _ D.tiz D.tito (fun w => ?_) st.ti, ⟨ar', q3, q4⟩, q5⟩, fun c hcm => ?_⟩
    · obtain ⟨p, hp, q⟩ := List.mem_map.mp w
      exact (D.iz p hp).2.1 q
    · have hlt : c < s.heap.objs.size := by
        rcases List.mem_cons.mp hcm with q | hcm
        · rw [q]; exact Heap.lt_size hz
        · rcases List.mem_cons.mp hcm with q | hcm
          · rw [q]; exact Heap.lt_size st.ti
          · rcases List.mem_cons.mp hcm with q | hcm
            · rw [q]; exact Heap.lt_size hTO
            · obtain ⟨p, hp, q⟩ := List.mem_map.mp hcm
              obtain ⟨_, e1, _⟩ := st.it p hp
              rw [← q]
              exact Heap.lt_size e1
      rw [upd_ne (Nat.ne_of_lt hlt)]
      exact (hf c hcm).1
  done := by
    intro X hP hw hK hc i pins s σ H E I hf st hg
    subst hP hw hK
    obtain ⟨v, g, hz, hv⟩ := st.zo
    obtain ⟨ar, hTO, ha⟩ := st.to
    obtain ⟨a, xs, rest, e, hq, hx⟩ := hg
    cases ps with
    | nil => exact absurd rfl h0
    | cons p ps =>
      obtain ⟨t, b⟩ := p
      injection e with e1 e2
      obtain rfl : b = a := e1
      obtain ⟨its, rv, isT, _⟩ := I.tuple hq
      have l1 := rv.length
      have hTy : s.TypeIs (.ref z) "zip" := ⟨_, hz, rfl⟩
      unfold pyNext
      refine wpAny_bind (wpAny_attempt (wpAny_callSpecial?_slot (name := Str.ofString "__next__") hTy F.slot_zip_next (wpAny_call_entry F.slot_zip_next hTy F.entry_zip_next (zipN_stop (I.ok.hd hc) D hz hv st.ti hTO (st.it _ (List.mem_cons_self ..)) isT (by simp; omega) fun h' e hk he => ?_) (F.args_zip_next_1 _))))
      obtain ⟨o, ho, hcl⟩ := he
      refine wpAny_bind (wpAny_isInstance (T := "StopIteration") (b := true) ⟨o, ho, hcl⟩ isSubtype_stop ?_)
      exact wpAny_pure ⟨rfl, I.turnedL (t' := s.toks) (ch := z :: TI :: TO :: t :: ps.map Prod.fst) (fun c o hb q => hk c o (fun w => hb (by simp [w])) (fun w => hb (by simp [w])) q) hf⟩
  self := fun A i s Q E st h => by
    obtain ⟨v, g, hz, hv⟩ := st.zo
    exact iter_ZipO hz h
def iZipN (K : PySem.W.Frag) (te : TE) : TI := fun σ H R => te σ H fun y H1 => ∃ a, ∃ as : List Addr, y = .ref a ∧ SqT K H1 a (as.map V.ref) ∧ as ≠ [] ∧ as.length ≤ 4 ∧ (∀ b ∈ as, ∃ xs, SqT K H1 b xs) ∧ R (ItN K as) H1
theorem vals_refs : ∀ {as : List Addr} {us : List Value}, Vals (as.map V.ref) us → us = as.map Value.ref
  | [], _, .nil => rfl
  | a :: as, _, .cons r h => by
    cases r
    rw [vals_refs h]
    rfl
theorem zip_fst : ∀ {its as : List Addr}, its.length = as.length → (its.zip as).map Prod.fst = its ∧ (its.zip as).map Prod.snd = as
  | [], [], _ => ⟨rfl, rfl⟩
  | t :: its, a :: as, h => by
    obtain ⟨h1, h2⟩ := zip_fst (its := its) (as := as) (by simpa using h)
    exact ⟨by rw [List.zip_cons_cons, List.map_cons, h1], by rw [List.zip_cons_cons, List.map_cons, h2]⟩
theorem pi_zipN {X : Cx} {e : Expr} {te : TE} {x : Str} {p pos tpos sp : Pos} (hg : Gl X "zip") (hm : X.mg "zip" = none) (he : PE X e te) (hs : starEach [.Starred e sp] X.env = [(true, eval e X.env)] := by rfl) :
    PI X (.Name x tpos) (.Call (.Name "zip" p) [.Starred e sp] [] pos) (iZipN X.K te) := by
  refine ⟨fun pins s σ H R I h => ?_⟩
  refine Call_ (ld_blt I hg hm PyProof.Rows.boot_zip (callWith_typeS (thn (he.run pins s σ H _ I h) fun v s1 got => ?_) hs))
  obtain ⟨y, H1, I1, rel, a, as, rfl, hxs, h0, h4, hts, q⟩ := got
  obtain rfl : v = Value.ref a := rel
  refine star_tup I1 hxs fun us s2 I2 rv => ?_
  rw [vals_refs rv]
  have ht : ∀ b ∈ as, ∃ ar, s2.heap.IsTuple b ar := fun b hb => by
    obtain ⟨xs, hx⟩ := hts b hb
    obtain ⟨its, _, isT, _⟩ := I2.tuple hx
    exact ⟨_, isT⟩
  refine callZ ht h0 h4 fun h1 h' its z TI TO J k ez e1 e2 qz q1 q2 => iter_ZipO (s := { s2 with heap := h' }) qz ?_
  have il := J.len
  obtain ⟨f1, f2⟩ := zip_fst il
  have old : ∀ b ∈ as, b < s2.heap.objs.size := fun b hb => by
    obtain ⟨ar, o, ho, _⟩ := ht b hb
    exact Heap.lt_size ho
  have I3 : Inv X pins σ H1 { s2 with heap := h' } := I2.kept (t' := s2.toks) fun c o q => k c o (J.kp c o q)
  have tz : ∀ t ∈ its, t < h1.objs.size := fun t ht => (J.lo t ht).2
  have n1 : TI ≠ z := by rw [e1, ez]; exact Nat.ne_of_lt (by omega)
  have n2 : TO ≠ z := by rw [e2, ez]; exact Nat.ne_of_lt (by omega)
  have n3 : TI ≠ TO := by rw [e1, e2]; exact Nat.ne_of_lt (by omega)
  have gz : h1.objs.size ≤ z := by rw [ez]; exact Nat.le_add_right _ _
  have gi : h1.objs.size ≤ TI := by rw [e1]; exact Nat.le_refl _
  have go : h1.objs.size ≤ TO := by rw [e2]; exact Nat.le_add_right _ _
  have D : ApartZ z TI TO (its.zip as) := by
    refine ⟨n1, n2, n3, by rw [f1]; exact J.nd, fun p hp => ?_, fun p hp => ?_⟩
    · have m : p.1 ∈ its := (List.of_mem_zip hp).1
      have := tz _ m
      exact ⟨Nat.ne_of_lt (Nat.lt_of_lt_of_le this gz), Nat.ne_of_lt (Nat.lt_of_lt_of_le this gi), Nat.ne_of_lt (Nat.lt_of_lt_of_le this go)⟩
    · have m : p.2 ∈ as := (List.of_mem_zip hp).2
      have l2 := Nat.lt_of_lt_of_le (old _ m) J.le
      refine ⟨Nat.ne_of_lt (Nat.lt_of_lt_of_le l2 gz), Nat.ne_of_lt (Nat.lt_of_lt_of_le l2 go), fun w => ?_⟩
      rw [f1] at w
      exact Nat.lt_irrefl _ (Nat.lt_of_lt_of_le (old _ m) (J.lo _ w).1)
  have fresh : ∀ c ∈ z :: TI :: TO :: (its.zip as).map Prod.fst, FpOk X pins H1 c := fun c hc => by
    have ge : s2.heap.objs.size ≤ c := by
      rcases List.mem_cons.mp hc with q | hc
      · rw [q]; exact Nat.le_trans J.le gz
      · rcases List.mem_cons.mp hc with q | hc
        · rw [q]; exact Nat.le_trans J.le gi
        · rcases List.mem_cons.mp hc with q | hc
          · rw [q]; exact Nat.le_trans J.le go
          · rw [f1] at hc
            exact (J.lo _ hc).1
    exact I2.fpOk ge (I2.hok.fresh ge)
  have zl : (its.zip as).length = its.length := by rw [List.length_zip, il, Nat.min_self]
  refine ⟨z, z :: TI :: TO :: (its.zip as).map Prod.fst, TnZ z TI TO (its.zip as), ItN X.K ((its.zip as).map Prod.snd), H1, rfl, I3, turn_zipN D (fun w => ?_) (by rw [zl, il]; omega), ⟨⟨_, _, qz, .inl rfl⟩, ?_, ⟨_, q2, by rw [zl]; simp⟩, fun p hp => ?_⟩, fresh, by rw [f2]; exact q⟩
  · rw [w] at f2
    exact h0 f2.symm
  · have : (its.zip as).map (fun p => Value.ref p.1) = its.map Value.ref := by
      rw [show (fun p : Addr × Addr => Value.ref p.1) = Value.ref ∘ Prod.fst from rfl, ← List.map_map, f1]
    rw [this]
    exact q1
  · obtain ⟨n, hn⟩ := List.mem_iff_getElem?.mp hp
    rw [List.getElem?_zip_eq_some] at hn
    exact (J.it n _ _ hn.1 hn.2).at fun o q => k _ o q
end DL


set_option Elab.async false
set_option linter.all false
set_option maxRecDepth 100000
namespace DL
open PySem PySem.Spec PyProof.Rows L2
theorem walk_zipN {K : PySem.W.Frag} {as : List Addr} {m : Nat} (h0 : as ≠ []) : Walk (ItN K as) m (fun H => ∀ a ∈ as, ∃ xs : List V, SqT K H a xs ∧ xs.length = m) (fun i H v H' => (ItN K as).yld i H v H') where
  goes i H hi q := by
    clear h0
    induction as with
    | nil => exact ⟨[], .nil⟩
    | cons a as ih =>
      obtain ⟨vs, r⟩ := ih fun b hb => q b (List.mem_cons_of_mem _ hb)
      obtain ⟨xs, hx, hl⟩ := q a (List.mem_cons_self ..)
      exact ⟨xs[i] :: vs, .cons hx (List.getElem?_eq_getElem (by omega)) r⟩
  stops H q := by
    cases as with
    | nil => exact absurd rfl h0
    | cons a as =>
      obtain ⟨xs, hx, hl⟩ := q a (List.mem_cons_self ..)
      exact ⟨a, xs, as, rfl, hx, hl⟩
  yields i H v H' _ _ y := y
theorem DaAll.tups {z : Z} {H : Hp} : ∀ {xs : List V} {rows : List (List PyData)}, DaAll z H xs (rows.map PyData.tuple) → ∃ as : List Addr, xs = as.map V.ref ∧ as.length = rows.length ∧ ∀ (k : Nat) (b : Addr) (r : List PyData), as[k]? = some b → rows[k]? = some r → ∃ ys, Fz z b ∧ H b = some (.tup ys) ∧ DaAll z H ys r
  | [], [], .nil => ⟨[], rfl, rfl, fun k b r h => by simp at h⟩
  | _ :: xs, r :: rows, .cons h q => by
    obtain ⟨as, e, l, f⟩ := DaAll.tups q
    cases h with
    | @tup a ys _ fa ha hr =>
      refine ⟨a :: as, by rw [e]; rfl, by simp [l], fun k b r' h1 h2 => ?_⟩
      cases k with
      | zero =>
        cases h1
        cases h2
        exact ⟨ys, fa, ha, hr⟩
      | succ k => exact f k b r' h1 h2
/-- the told column -/
def colD (rows : List (List PyData)) (i : Nat) : PyData := .tuple (rows.map fun r => r.getD i .none)
section
variable {X : Cx} {z : Z} {es : List Sl} {s : S} {iter elt a e : Expr} {pos p p1 p2 p3 p4 : Pos}
/-- over zip( *rows) -/
theorem lc_readN {te : TE} {j : Nat} {rows : List (List PyData)} {m : Nat} (f : PyData → PyData) (hit : EV X z e es s (.tuple (rows.map PyData.tuple)) s) (h0 : rows ≠ []) (h4 : rows.length ≤ 4) (hw : ∀ r ∈ rows, r.length = m) (hl : m ≤ 100000)
    (He : ∀ (z' : Z) (i : Nat), i < m → ∀ σ H, En z' H σ (es.set j (.val (colD rows i))) → At z' H s → ∀ Q : VK, (∀ v H2, Ez z' H H2 → At z' H2 s → Da z' H2 v (f (colD rows i)) → Q v H2) → te σ H Q) :
    ∀ σ H, En z H σ es → At z H s → ∀ Q : VK, (∀ v H2, Ez z H H2 → At z H2 s → Da z H2 v (.list ((List.range m).map fun i => f (colD rows i))) → Q v H2) → tLc (iZipN X.K (wE X e)) (gName j) tYes te [j] σ H Q := fun σ H en at_ Q q => by
    refine hit σ H en at_ _ fun v H1 e1 a1 v1 => ?_
    cases v1 with
    | @tup a xs _ fa ha r =>
      obtain ⟨as, rfl, al, ff⟩ := r.tups
      have row : ∀ {k : Nat} {b : Addr}, as[k]? = some b → ∃ r, rows[k]? = some r := fun {k b} h => by
        have := (List.getElem?_eq_some_iff.mp h).1
        exact ⟨_, List.getElem?_eq_getElem (by omega)⟩
      have tupAt : ∀ b ∈ as, ∃ ys, Fz z b ∧ H1 b = some (.tup ys) ∧ ys.length = m := fun b hb => by
        obtain ⟨k, hk⟩ := List.mem_iff_getElem?.mp hb
        obtain ⟨r, hr⟩ := row hk
        obtain ⟨ys, fb, hy, dy⟩ := ff k b r hk hr
        exact ⟨ys, fb, hy, by rw [dy.length]; exact hw r (List.mem_of_getElem? hr)⟩
      have as0 : as ≠ [] := fun w => by
        rw [w] at al
        exact h0 (List.length_eq_zero_iff.mp al.symm)
      refine ⟨a, as, rfl, .inl (.inl ha), as0, by omega, fun b hb => ?_, fun D hD => ?_⟩
      · obtain ⟨ys, _, hy, _⟩ := tupAt b hb
        exact ⟨ys, .inl (.inl hy)⟩
      · refine lc_all (g := gName j) (ws := [j]) (walk_zipN (K := X.K) (m := m) as0) (fun _ => s) (fun _ => s) a1 hD (fun i => es.set j (.val (colD rows i))) (fun H' e b hb => ?_) (fun i x H' H2 o hi e2 hy a2 Q q => ?_) hl (fun _ => true) (fun i => (List.range i).map fun i => f (colD rows i)) rfl (fun z' i hi σ H en at_ Q q => q H (.refl H) at_)
          (fun z' i hi _ => ⟨f (colD rows i), by rw [List.range_succ, List.map_append]; rfl, He z' i hi⟩) (fun i _ h => by cases h) (fun H' e a2 d2 => q _ H' (e1.trans e) a2 d2)
        · obtain ⟨ys, fb, hy, hl⟩ := tupAt b hb
          exact ⟨ys, .inl (.inl (e b _ fb hy)), hl⟩
        · obtain ⟨t, vs, rfl, nt, rfl, vl, hv⟩ := hy
          have e3 : Ez (z.add D o) H' (upd H' t (.tup vs)) := .new nt
          have reach : ∀ (b : Addr) (u : HO), Fz z b → H1 b = some u → Fz (z.add D o) b ∧ (upd H' t (.tup vs)) b = some u := fun b u fb hb => by
            have f1 := fb.to_add (o := o) (ne_of_none hb hD)
            exact ⟨f1, e3 b u f1 (e2 b u fb hb)⟩
          have es2 : (wipe σ [j]).set j (some (.ref t)) = σ.set j (some (.ref t)) := by
            show (σ.set j none).set j (some _) = _
            rw [List.set_set]
          show Q ((wipe σ [j]).set j (some (.ref t))) _
          rw [es2]
          have en0 : En (z.add D o) (upd H' t (.tup vs)) σ es := En.re (z := z) (z' := z.add D o) rfl (fun q h => List.mem_cons_of_mem _ h) reach (en.mono e1)
          refine q _ _ (by
            show (σ.set j (some _)).set j none = σ.set j none
            rw [List.set_set]) e3 (a2.new nt) (en0.set j (.val (.tup (a2.fresh nt) upd_same ?_)))
          have gen : ∀ {vs : List V} {ds : List PyData}, vs.length = ds.length → (∀ (k : Nat) (v : V) (d : PyData), vs[k]? = some v → ds[k]? = some d → Da (z.add D o) (upd H' t (.tup vs)) v d) → True := fun _ _ => trivial
          have all : ∀ (hh : Hp) {vs : List V} {ds : List PyData}, vs.length = ds.length → (∀ (k : Nat) (v : V) (d : PyData), vs[k]? = some v → ds[k]? = some d → Da (z.add D o) hh v d) → DaAll (z.add D o) hh vs ds := by
            intro hh vs
            induction vs with
            | nil =>
              intro ds h _
              cases ds with
              | nil => exact .nil
              | cons _ _ => simp at h
            | cons v vs ih =>
              intro ds h k
              cases ds with
              | nil => simp at h
              | cons d ds => exact .cons (k 0 v d rfl rfl) (ih (by simpa using h) fun n v d h1 h2 => k (n + 1) v d h1 h2)
          refine all _ (by rw [vl, al, List.length_map]) fun k v d h1 h2 => ?_
          rw [List.getElem?_map] at h2
          obtain ⟨b, hb⟩ : ∃ b, as[k]? = some b := ⟨_, List.getElem?_eq_getElem (by have := (List.getElem?_eq_some_iff.mp h1).1; omega)⟩
          obtain ⟨r, hr⟩ := row hb
          obtain ⟨ys, fb, hyb, dy⟩ := ff k b r hb hr
          rw [hr] at h2
          cases h2
          obtain ⟨x, hx1, hx2⟩ := hv k b ys hb (.inl (.inl (e2 b _ fb hyb)))
          rw [h1] at hx1
          cases hx1
          obtain ⟨d, hd, dd⟩ := dy.getV i v hx2
          show Da _ _ v (r.getD i .none)
          have : r.getD i .none = d := by
            rw [List.getD_eq_getElem?_getD, hd]
            rfl
          rw [this]
          exact dd.re reach
/-- [e for x in zip( *rows)] -/
theorem ev_lcN {j : Nat} {x : Str} {scope : Scope} {rows : List (List PyData)} {m : Nat} (hc : X.calm = true) (hN : X.N.Nodup) (hm : X.mg "zip" = none) (f : PyData → PyData) (hit : EV X z e es s (.tuple (rows.map PyData.tuple)) s) (h0 : rows ≠ []) (h4 : rows.length ≤ 4) (hw : ∀ r ∈ rows, r.length = m) (hl : m ≤ 100000)
    (hB : BlkOk X.N X.env.scope scope [(x, j)]) (hg : PgIn X scope (.Name x p) (gName j))
    (He : ∀ i : Nat, i < m → ∀ z' : Z, Blk X scope fun Y => EV Y z' elt (es.set j (.val (colD rows i))) s (f (colD rows i)) s) (hgl : Gl X "zip" := by rfl) (hst : starEach [.Starred e p3] X.env = [(true, eval e X.env)] := by rfl)
    (hs : ∀ x, foldedSetIterable (.Call (.Name "zip" p1) [.Starred e p3] [] p2) X.env x = pure x := by intro _; rfl) :
    EV X z (.ListComp elt [{ target := .Name x p, iter := .Call (.Name "zip" p1) [.Starred e p3] [] p2, ifs := [], is_async := 0 }] scope pos) es s (.list ((List.range m).map fun i => f (colD rows i))) s :=
  .mk (pe_lc (own := [(x, j)]) hc hN (pi_zipN hgl hm wE_ok hst) hB hg (fun _ _ _ _ _ => pts_nil) tEl_ok hs) (lc_readN (te := tEl X scope elt) (j := j) f hit h0 h4 hw hl fun z' i hi σ H en at_ Q q s0 H0 C cl fp => He i hi z' s0 H0 C cl fp σ H en at_ Q q)
/-- y = [e for x in zip( *rows)] -/
theorem sr_lcN {j k : Nat} {x y : Str} {scope : Scope} {py spos : Pos} {rest : List Stmt} {o : Out} {rows : List (List PyData)} {m : Nat} (hc : X.calm = true) (hN : X.N.Nodup) (hm : X.mg "zip" = none) (f : PyData → PyData) (hit : EV X z e es s (.tuple (rows.map PyData.tuple)) s) (h0 : rows ≠ []) (h4 : rows.length ≤ 4) (hw : ∀ r ∈ rows, r.length = m) (hl : m ≤ 100000)
    (hB : BlkOk X.N X.env.scope scope [(x, j)]) (hg : PgIn X scope (.Name x p) (gName j))
    (He : ∀ i : Nat, i < m → ∀ z' : Z, Blk X scope fun Y => EV Y z' elt (es.set j (.val (colD rows i))) s (f (colD rows i)) s) (kk : SR X z rest (es.set k (.val (.list ((List.range m).map fun i => f (colD rows i))))) s o) (hi : X.N[k]? = some y := by rfl) (hy : List.lookup y X.env.scope.names = some NameKind.local := by rfl)
    (hsw : swapsWith (.ListComp elt [{ target := .Name x p, iter := .Call (.Name "zip" p1) [.Starred e p3] [] p2, ifs := [], is_async := 0 }] scope pos) (some (.Name y py)) spos.line X.env = pure true := by exact sw_true rfl rfl rfl (by decide +kernel)) (hgl : Gl X "zip" := by rfl) (hst : starEach [.Starred e p3] X.env = [(true, eval e X.env)] := by rfl)
    (hs : ∀ x, foldedSetIterable (.Call (.Name "zip" p1) [.Starred e p3] [] p2) X.env x = pure x := by intro _; rfl) :
    SR X z (.Assign [.Name y py] (.ListComp elt [{ target := .Name x p, iter := .Call (.Name "zip" p1) [.Starred e p3] [] p2, ifs := [], is_async := 0 }] scope pos) spos :: rest) es s o := fun σ H en at_ D q =>
  ⟨_, pss_cons (ps_setLc (i := k) (own := [(x, j)]) hc hN hi hy hsw (pi_zipN hgl hm wE_ok hst) hB hg (fun _ _ _ _ _ => pts_nil) tEl_ok hs) wB_ok,
    lc_readN (te := tEl X scope elt) (j := j) f hit h0 h4 hw hl (fun z' i hi σ H en at_ Q q s0 H0 C cl fp => He i hi z' s0 H0 C cl fp σ H en at_ Q q) σ H en at_ _ fun v H2 e2 a2 v2 => kk _ H2 ((en.mono e2).set k (.val v2)) a2 D (q.mono e2)⟩
theorem rb_tupleT {K : PySem.W.Frag} {ds : List PyData} : RB z s (fun xs H Q => ∃ p ys, xs = [.ref p] ∧ ((SqL K H p ys ∧ ∀ l, H l = none → Q (.ref l) (upd H l (.tup ys))) ∨ (SqT K H p ys ∧ Q (.ref p) H))) [.tuple ds] (.tuple ds) := fun vs H at_ h Q q => by
  cases h with
  | cons h r =>
    cases r
    cases h with
    | tup n e r => exact ⟨_, _, rfl, .inr ⟨.inl (.inl e), q _ H (.refl H) at_ (.tup n e r)⟩⟩
end
end DL


set_option Elab.async false
set_option linter.all false
set_option maxRecDepth 100000
namespace DL
open PySem PySem.Spec PyProof.Rows L2
theorem At.fill {z : Z} {H : Hp} {p : Addr} {s : S} {xs : List V} (A : At z H s) (h : H p = none) : At (z.add p (.lst xs)) (upd H p (.lst xs)) s := by
  refine ⟨fun b hb => ?_, fun q hq => ?_, fun q hq => ?_⟩
  · rw [upd_ne (ne_of_none (A.d b hb) h)]
    exact A.d b hb
  · rcases List.mem_cons.mp hq with e | m
    · rw [e]
      exact upd_same
    · rw [upd_ne (ne_of_none (A.v q m) h)]
      exact A.v q m
  · rcases List.mem_cons.mp hq with e | m
    · rw [e]
      intro hd
      have := A.d p hd
      rw [this] at h
      cases h
    · exact A.n q m
theorem walk_zipT {K : PySem.W.Frag} {a b : Addr} {xs ys : List V} {n : Nat} (hn : n = min xs.length ys.length) : Walk (RZ.ItzT K a b) n (fun H => SqT K H a xs ∧ SqT K H b ys) (YPair (fun i => xs[i]?) (fun i => ys[i]?)) := by
  subst hn
  refine ⟨fun i _ hi q => ⟨xs, ys, xs[i]'(by omega), ys[i]'(by omega), q.1, q.2, List.getElem?_eq_getElem _, List.getElem?_eq_getElem _⟩, fun _ q => ⟨xs, ys, q.1, q.2, by omega⟩, fun i H v H' _ q y => ?_⟩
  obtain ⟨T, x, z, k1, k2, k3, k4, k5⟩ := y
  exact ⟨T, x, z, k1, k2, k3, k4 xs q.1, k5 ys q.2⟩
section
variable {X : Cx} {z : Z} {es es1 es2 : List Sl} {s s1 s2 s3 : S} {iter elt cond a b c e : Expr} {ds fs : List PyData} {d d1 d2 d3 : PyData} {o : Out} {rest body els : List Stmt} {pos p p1 p2 p3 p4 p5 : Pos}
/-- [e for x, y in zip(a, b)], two tuples of one length -/
theorem ev_lcZT {j k : Nat} {x y : Str} {scope : Scope} {kt : Nat} (hc : X.calm = true) (hN : X.N.Nodup) (hm : X.mg "zip" = none) (hjk : j ≠ k) (f : PyData → PyData → PyData) (hit : ED X z [a, b] es s [.tuple ds, .tuple fs] s) (hlen : ds.length = fs.length) (hl : ds.length ≤ 100000) (hB : BlkOk X.N X.env.scope scope [(x, j), (y, k)])
    (hg : PgIn X scope (.Tuple [.Name x p, .Name y p1] kt p2) (gTup X.K 2 (gCons (gName j) (gCons (gName k) gNil))))
    (He : ∀ (i : Nat) (d1 d2 : PyData), ds[i]? = some d1 → fs[i]? = some d2 → ∀ z' : Z, Blk X scope fun Y => EV Y z' elt ((es.set j (.val d1)).set k (.val d2)) s (f d1 d2) s) (hgl : Gl X "zip" := by rfl) (hst : starEach [a, b] X.env = (false, eval a X.env) :: starEach [b] X.env := by rfl) (hpl : (backTo p4 (starEach [b] X.env)).any (·.1) = false := by rfl)
    (hs : ∀ x, foldedSetIterable (.Call (.Name "zip" p3) [a, b] [] p4) X.env x = pure x := by intro _; rfl) :
    EV X z (.ListComp elt [{ target := .Tuple [.Name x p, .Name y p1] kt p2, iter := .Call (.Name "zip" p3) [a, b] [] p4, ifs := [], is_async := 0 }] scope pos) es s (.list (List.zipWith f ds fs)) s :=
  .mk (pe_lc (own := [(x, j), (y, k)]) hc hN (RZ.pi_zipA hgl hm wA_ok hst hpl) hB hg (fun _ _ _ _ _ => pts_nil) tEl_ok hs) fun σ H en at_ Q q => by
    refine hit σ H en at_ _ fun vs H1 e1 a1 v1 => ?_
    cases v1 with
    | cons h1 r =>
      cases r with
      | cons h2 r =>
        cases r
        cases h1 with
        | @tup a1' xs _ fa ha r1 =>
          cases h2 with
          | @tup b1' ys _ fb hb r2 =>
            have hx : xs.length = ds.length := r1.length
            have hy : ys.length = fs.length := r2.length
            have g1 : ∀ i, i < ds.length → ds[i]? = some (ds.getD i .none) := fun i hi => by
              rw [List.getD_eq_getElem?_getD, List.getElem?_eq_getElem hi]
              rfl
            have g2 : ∀ i, i < ds.length → fs[i]? = some (fs.getD i .none) := fun i hi => by
              rw [List.getD_eq_getElem?_getD, List.getElem?_eq_getElem (by omega)]
              rfl
            have zl : (List.zipWith f ds fs).length = ds.length := by rw [List.length_zipWith]; omega
            refine ⟨a1', b1', xs, ys, rfl, .inr ⟨.inl (.inl ha), .inl (.inl hb), fun D hD => ?_⟩⟩
            refine lc_two (K := X.K) (walk_zipT (K := X.K) (a := a1') (b := b1') (xs := xs) (ys := ys) (n := ds.length) (by omega)) (fun _ => s) (fun _ => s) (en.mono e1) a1 hD hjk (fun i => ds.getD i .none) (fun i => fs.getD i .none) (fun H' e => ⟨.inl (.inl (e _ _ fa ha)), .inl (.inl (e _ _ fb hb))⟩) (fun i x H' H2 hi eH hY => ?_) hl (fun _ => true) (fun i => (List.zipWith f ds fs).take i) rfl
              (fun z' i hi σ H en at_ Q q => q H (.refl H) at_) (fun z' i hi _ => ⟨f (ds.getD i .none) (fs.getD i .none), by
                rw [List.take_add_one, List.getElem?_zipWith, g1 i hi, g2 i hi]
                rfl, fun σ H en at_ Q q s0 H0 C cl fp => He i _ _ (g1 i hi) (g2 i hi) z' s0 H0 C cl fp σ H en at_ Q q⟩) (fun i _ h => by cases h) (fun H' e a2 d2 => ?_)
            · obtain ⟨T, u, v, rfl, nT, rfl, hu, hv⟩ := hY
              obtain ⟨d, hd, hdu⟩ := r1.getV i u hu
              obtain ⟨d', hd', hdv⟩ := r2.getV i v hv
              rw [g1 i hi] at hd
              rw [g2 i hi] at hd'
              exact ⟨T, u, v, rfl, .inl (.inl upd_same), .inr ⟨nT, rfl⟩, by rw [Option.some.inj hd]; exact hdu, by rw [Option.some.inj hd']; exact hdv⟩
            · have : (List.zipWith f ds fs).take ds.length = List.zipWith f ds fs := List.take_of_length_le (by omega)
              rw [this] at d2
              exact q _ H' (e1.trans e) a2 d2
/-- [e for x in a list], the state going along -/
theorem ev_lcFS {j : Nat} {x : Str} {scope : Scope} (hc : X.calm = true) (hN : X.N.Nodup) (f : Nat → PyData) (T : Nat → S) (hit : EV X z iter es s (.list ds) s1) (t0 : T 0 = s1) (hl : ds.length ≤ 100000) (hB : BlkOk X.N X.env.scope scope [(x, j)]) (hg : PgIn X scope (.Name x p) (gName j))
    (He : ∀ (i : Nat) d, ds[i]? = some d → ∀ z' : Z, Blk X scope fun Y => EV Y z' elt (es.set j (.val d)) (T i) (f i) (T (i + 1))) (hs : ∀ x, foldedSetIterable iter X.env x = pure x := by intro _; rfl) :
    EV X z (.ListComp elt [{ target := .Name x p, iter := iter, ifs := [], is_async := 0 }] scope pos) es s (.list ((List.range ds.length).map f)) (T ds.length) :=
  .mk (pe_lc (own := [(x, j)]) hc hN (pi_list wE_ok) hB hg (fun _ _ _ _ _ => pts_nil) tEl_ok hs)
    (lc_read (X := X) (te := tEl X scope elt) (tt := tYes) (j := j) hit hl (fun _ => true) (fun i => (List.range i).map f) T T rfl t0 (fun z' i d hd σ H en at_ Q q => q H (.refl H) at_)
      (fun z' i d hd _ => ⟨f i, by rw [List.range_succ, List.map_append]; rfl, fun σ H en at_ Q q s0 H0 C cl fp => He i d hd z' s0 H0 C cl fp σ H en at_ Q q⟩) (fun i d _ h => by cases h))
theorem rb_sum {K : PySem.W.Frag} {ns : List Int} : RB z s (rSum K) [.list (ns.map .int)] (.int ns.sum) := fun vs H at_ h Q q => by
  cases h with
  | cons h r =>
    cases r
    cases h with
    | @lst a xs _ n e r =>
      have : xs = ns.map V.int := by
        clear e n q
        induction ns generalizing xs with
        | nil => cases r; rfl
        | cons i ns ih =>
          cases r with
          | cons h r =>
            cases h
            rw [ih r]
            rfl
      subst this
      exact ⟨a, ns, rfl, .inl (.inl e), q _ H (.refl H) at_ (.int _)⟩
/-- x, y, w = e1, e2, e3 -/
theorem sr_par3 (i j l : Nat) {x y w : Str} {kt k2 : Nat} (hc : X.calm = true) (hN : X.N.Nodup) (h : ED X z [a, b, c] es s [d1, d2, d3] s1) (k : SR X z rest (((es.set i (.val d1)).set j (.val d2)).set l (.val d3)) s1 o)
    (hi : X.N[i]? = some x := by rfl) (hj : X.N[j]? = some y := by rfl) (hl : X.N[l]? = some w := by rfl) (hij : i ≠ j := by decide) (hil : i ≠ l := by decide) (hjl : j ≠ l := by decide) (hx : X.env.scope.names.lookup x = some .local := by rfl) (hy : X.env.scope.names.lookup y = some .local := by rfl) (hz : X.env.scope.names.lookup w = some .local := by rfl)
    (hw : swappedStores [.Tuple [.Name x p1, .Name y p2, .Name w p5] kt p3] (.Tuple [a, b, c] k2 p4) X.env = pure (some [x, y, w]) := by rfl) (hs : swapsWithSole [.Tuple [.Name x p1, .Name y p2, .Name w p5] kt p3] (.Tuple [a, b, c] k2 p4) pos.line X.env = pure false := by rfl) :
    SR X z (.Assign [.Tuple [.Name x p1, .Name y p2, .Name w p5] kt p3] (.Tuple [a, b, c] k2 p4) pos :: rest) es s o := fun σ H en at_ D q =>
  ⟨_, pss_cons (ps_par3 hc hN hi hj hl hij hil hjl hx hy hz wA_ok hw hs) wB_ok, h σ H en at_ _ fun vs H1 e1 a1 v1 => by
    cases v1 with
    | cons h1 r =>
      cases r with
      | cons h2 r =>
        cases r with
        | cons h3 r =>
          cases r
          exact ⟨_, _, _, rfl, k _ H1 ((((en.mono e1).set i (.val h1)).set j (.val h2)).set l (.val h3)) a1 D (q.mono e1)⟩⟩
theorem so_par3 (i j l : Nat) {x y w : Str} {kt k2 : Nat} (hc : X.calm = true) (hN : X.N.Nodup) (h : ∀ z, ED X z [a, b, c] es s [d1, d2, d3] s1) (k : SO X rest (((es.set i (.val d1)).set j (.val d2)).set l (.val d3)) s1 o)
    (hi : X.N[i]? = some x := by rfl) (hj : X.N[j]? = some y := by rfl) (hl : X.N[l]? = some w := by rfl) (hij : i ≠ j := by decide) (hil : i ≠ l := by decide) (hjl : j ≠ l := by decide) (hx : X.env.scope.names.lookup x = some .local := by rfl) (hy : X.env.scope.names.lookup y = some .local := by rfl) (hz : X.env.scope.names.lookup w = some .local := by rfl)
    (hw : swappedStores [.Tuple [.Name x p1, .Name y p2, .Name w p5] kt p3] (.Tuple [a, b, c] k2 p4) X.env = pure (some [x, y, w]) := by rfl) (hs : swapsWithSole [.Tuple [.Name x p1, .Name y p2, .Name w p5] kt p3] (.Tuple [a, b, c] k2 p4) pos.line X.env = pure false := by rfl) :
    SO X (.Assign [.Tuple [.Name x p1, .Name y p2, .Name w p5] kt p3] (.Tuple [a, b, c] k2 p4) pos :: rest) es s o := fun z Hc H vol σ I D q =>
  ⟨_, pss_cons (ps_par3 hc hN hi hj hl hij hil hjl hx hy hz wA_ok hw hs) wB_ok, h _ σ H I.en I.at_ _ fun vs H1 e1 a1 v1 => by
    cases v1 with
    | cons h1 r =>
      cases r with
      | cons h2 r =>
        cases r with
        | cons h3 r =>
          cases r
          have w1 := I.step e1 a1
          exact ⟨_, _, _, rfl, k z Hc H1 vol _ (((w1.set (.refl _) w1.at_ i h1).set (.refl _) w1.at_ j h2).set (.refl _) w1.at_ l h3) D q⟩⟩
/-- x, y = e, [] -/
theorem so_parN (i j : Nat) {x y : Str} {kt k2 : Nat} {pl : Pos} (hc : X.calm = true) (hN : X.N.Nodup) (h : ∀ z, EV X z a es s d1 s1) (k : SO X rest ((es.set i (.val d1)).set j (.own [])) s1 o)
    (hi : X.N[i]? = some x := by rfl) (hj : X.N[j]? = some y := by rfl) (hij : i ≠ j := by decide) (hx : X.env.scope.names.lookup x = some .local := by rfl) (hy : X.env.scope.names.lookup y = some .local := by rfl)
    (hs1 : starEach [a, .List [] pl] X.env = (false, eval a X.env) :: starEach [.List [] pl] X.env := by rfl) (hs2 : starEach [.List [] pl] X.env = (false, eval (.List [] pl) X.env) :: starEach [] X.env := by rfl)
    (hw : swappedStores [.Tuple [.Name x p1, .Name y p2] kt p3] (.Tuple [a, .List [] pl] k2 p4) X.env = pure (some [x, y]) := by rfl) (hs : swapsWithSole [.Tuple [.Name x p1, .Name y p2] kt p3] (.Tuple [a, .List [] pl] k2 p4) pos.line X.env = pure false := by rfl) :
    SO X (.Assign [.Tuple [.Name x p1, .Name y p2] kt p3] (.Tuple [a, .List [] pl] k2 p4) pos :: rest) es s o := fun z Hc H vol σ I D q =>
  ⟨_, pss_cons (ps_par hc hN hi hj hij hx hy (pa_cons wE_ok (pa_cons (pe_lst pa_nil) pa_nil hs2) hs1) hw hs) wB_ok, h _ σ H I.en I.at_ _ fun v H1 e1 a1 v1 => ⟨Nat.zero_le _, fun l hl => by
    have w1 := (I.step e1 a1)
    have w2 := w1.set (.refl _) w1.at_ i v1
    exact ⟨_, _, rfl, k z Hc _ _ _ (w2.fresh j (vs := []) (.refl _) a1 hl (.new hl) (a1.fill hl) .nil) D q⟩⟩⟩
/-- for x in range(n), own lists written -/
theorem so_for1 (l : Nat) {x : Str} {n : Int} (hp : PassesOwn (model X.prog X.w) X.A X.env X.xe) (hc : X.calm = true) (hN : X.N.Nodup) (hm : X.mg "range" = none) (h : ∀ z, ED X z [a] es s [.int n] s1) (hn : n < 2 ^ 60) (hn0 : -(2 ^ 60) < n) (E : Nat → List Sl) (T : Nat → S) (h0 : Le es (E 0)) (t0 : T 0 = s1)
    (hb : ∀ i : Nat, (i : Int) < n → SO X body ((E i).set l (.val (.int (i : Int)))) (T i) (.nx (E (i + 1)) (T (i + 1)))) (k : SO X rest (E n.toNat) (T n.toNat) o)
    (hi : X.N[l]? = some x := by rfl) (hx : Loc X.env.scope x := by first | exact Or.inl rfl | exact Or.inr rfl) (hg : Gl X "range" := by rfl) (hs : starEach [a] X.env = [(false, eval a X.env)] := by rfl)
    (hf : X.fn x = true ∨ X.env.scope.names.lookup x = some .local := by first | exact .inl rfl | exact .inr rfl) (hfo : ∀ x, foldedSetIterable (.Call (.Name "range" p2) [a] [] p3) X.env x = pure x := by intro _; rfl) :
    SO X (.For (.Name x p) (.Call (.Name "range" p2) [a] [] p3) body [] pos :: rest) es s o := fun z Hc H vol σ I D q =>
  ⟨_, pss_cons (ps_for hp hc (pi_range1 hg hm wA_ok hs) (pg_name hN hi hx hf) wB_ok hfo) wB_ok, h _ σ H I.en I.at_ _ fun vs H1 e1 a1 v1 => by
    cases v1 with
    | cons v1 r =>
      cases r
      cases v1
      have I1 := I.step e1 a1
      subst t0
      refine ⟨n, rfl, by omega, by omega, for_range (lo := 0) (n := n.toNat) (fun i σ' H' => ∃ vol', OI z Hc H' vol' σ' (E i) (T i)) ⟨vol, I1.le h0⟩ (fun i σ' H' hi w => ?_) fun σ' H' w => ?_⟩
      · obtain ⟨vol', w⟩ := w
        have e0 : (0 : Int) + (i : Int) = (i : Int) := Int.zero_add _
        show wB X body _ (σ'.set l (some (.int ((0 : Int) + (i : Int))))) H'
        rw [e0]
        exact hb i (by omega) z Hc H' vol' _ (w.set (.refl _) w.at_ l (.int _)) _ fun vol2 σ2 H2 I2 => ⟨vol2, I2⟩
      · obtain ⟨vol', w⟩ := w
        exact k z Hc H' vol' σ' w D q⟩
end
end DL


set_option Elab.async false
set_option linter.all false
set_option maxRecDepth 100000
namespace DL
open PySem PySem.Spec PyProof.Rows L2
section
variable {X : Cx} {z : Z} {es es1 es2 : List Sl} {s s1 s2 s3 : S} {iter elt cond a b c e : Expr} {ds fs : List PyData} {d d1 d2 d3 : PyData} {o : Out} {rest body els : List Stmt} {pos p p1 p2 p3 p4 p5 : Pos}
/-- x, y, w = e, e a tuple, own lists at hand -/
theorem so_unp3 (i j l : Nat) {x y w : Str} {kt : Nat} (hc : X.calm = true) (hN : X.N.Nodup) (h : ∀ z, EV X z e es s (.tuple [d1, d2, d3]) s1) (k : SO X rest (((es.set i (.val d1)).set j (.val d2)).set l (.val d3)) s1 o)
    (hi : X.N[i]? = some x := by rfl) (hj : X.N[j]? = some y := by rfl) (hl : X.N[l]? = some w := by rfl) (hx : Loc X.env.scope x := by first | exact Or.inl rfl | exact Or.inr rfl) (hy : Loc X.env.scope y := by first | exact Or.inl rfl | exact Or.inr rfl) (hw' : Loc X.env.scope w := by first | exact Or.inl rfl | exact Or.inr rfl)
    (fx : X.fn x = true ∨ X.env.scope.names.lookup x = some .local := by first | exact .inl rfl | exact .inr rfl) (fy : X.fn y = true ∨ X.env.scope.names.lookup y = some .local := by first | exact .inl rfl | exact .inr rfl) (fw : X.fn w = true ∨ X.env.scope.names.lookup w = some .local := by first | exact .inl rfl | exact .inr rfl)
    (hs : swapsWithSole [.Tuple [.Name x p1, .Name y p2, .Name w p5] kt p3] e pos.line X.env = pure false := by rfl) (hw : swappedStores [.Tuple [.Name x p1, .Name y p2, .Name w p5] kt p3] e X.env = pure none := by rfl)
    (hn : (assignEach [.Name x p1, .Name y p2, .Name w p5] X.env).length = 3 := by rfl) (hst : (assignEach [.Name x p1, .Name y p2, .Name w p5] X.env).findIdx? (·.1) = none := by rfl)
    (h1 : (assignEach (.Name x p1 :: [.Name y p2, .Name w p5]) X.env).map (·.2) = assign (.Name x p1) X.env :: (assignEach [.Name y p2, .Name w p5] X.env).map (·.2) := by rfl) (h2 : (assignEach (.Name y p2 :: [.Name w p5]) X.env).map (·.2) = assign (.Name y p2) X.env :: (assignEach [.Name w p5] X.env).map (·.2) := by rfl)
    (h3 : (assignEach (.Name w p5 :: []) X.env).map (·.2) = assign (.Name w p5) X.env :: (assignEach [] X.env).map (·.2) := by rfl) :
    SO X (.Assign [.Tuple [.Name x p1, .Name y p2, .Name w p5] kt p3] e pos :: rest) es s o := fun z Hc H vol σ I D q =>
  ⟨_, pss_cons (ps_asg wE_ok (pg_tup hc (pgs_cons (pg_name hN hi hx fx) (pgs_cons (pg_name hN hj hy fy) (pgs_cons (pg_name hN hl hw' fw) pgs_nil h3) h2) h1) hn hst) hs hw) wB_ok, h _ σ H I.en I.at_ _ fun v H1 e1 a1 v1 => by
    cases v1 with
    | tup n e r =>
      cases r with
      | cons v1 r =>
        cases r with
        | cons v2 r =>
          cases r with
          | cons v3 r =>
            cases r
            have w1 := I.step e1 a1
            exact ⟨_, _, rfl, .inl (.inl e), rfl, _, _, rfl, _, _, rfl, _, _, rfl, rfl, k z Hc H1 vol _ (((w1.set (.refl _) w1.at_ i v1).set (.refl _) w1.at_ j v2).set (.refl _) w1.at_ l v3) D q⟩⟩
/-- x, y = e, [], the pair being made -/
theorem so_unpN (i j : Nat) {x y : Str} {kt k2 : Nat} {pl : Pos} (hc : X.calm = true) (hN : X.N.Nodup) (h : ∀ z, EV X z a es s d1 s1) (k : SO X rest ((es.set i (.val d1)).set j (.own [])) s1 o)
    (hi : X.N[i]? = some x := by rfl) (hj : X.N[j]? = some y := by rfl) (hx : Loc X.env.scope x := by first | exact Or.inl rfl | exact Or.inr rfl) (hy : Loc X.env.scope y := by first | exact Or.inl rfl | exact Or.inr rfl)
    (fx : X.fn x = true ∨ X.env.scope.names.lookup x = some .local := by first | exact .inl rfl | exact .inr rfl) (fy : X.fn y = true ∨ X.env.scope.names.lookup y = some .local := by first | exact .inl rfl | exact .inr rfl)
    (hs1 : starEach [a, .List [] pl] X.env = (false, eval a X.env) :: starEach [.List [] pl] X.env := by rfl) (hs2 : starEach [.List [] pl] X.env = (false, eval (.List [] pl) X.env) :: starEach [] X.env := by rfl)
    (hs : swapsWithSole [.Tuple [.Name x p1, .Name y p2] kt p3] (.Tuple [a, .List [] pl] k2 p4) pos.line X.env = pure false := by rfl) (hw : swappedStores [.Tuple [.Name x p1, .Name y p2] kt p3] (.Tuple [a, .List [] pl] k2 p4) X.env = pure none := by rfl)
    (hn : (assignEach [.Name x p1, .Name y p2] X.env).length = 2 := by rfl) (hst : (assignEach [.Name x p1, .Name y p2] X.env).findIdx? (·.1) = none := by rfl)
    (h1 : (assignEach (.Name x p1 :: [.Name y p2]) X.env).map (·.2) = assign (.Name x p1) X.env :: (assignEach [.Name y p2] X.env).map (·.2) := by rfl) (h2 : (assignEach (.Name y p2 :: []) X.env).map (·.2) = assign (.Name y p2) X.env :: (assignEach [] X.env).map (·.2) := by rfl) :
    SO X (.Assign [.Tuple [.Name x p1, .Name y p2] kt p3] (.Tuple [a, .List [] pl] k2 p4) pos :: rest) es s o := fun z Hc H vol σ I D q =>
  ⟨_, pss_cons (ps_asg (pe_tup (pa_cons wE_ok (pa_cons (pe_lst pa_nil) pa_nil hs2) hs1)) (pg_tup hc (pgs_cons (pg_name hN hi hx fx) (pgs_cons (pg_name hN hj hy fy) pgs_nil h2) h1) hn hst) hs hw) wB_ok, h _ σ H I.en I.at_ _ fun v H1 e1 a1 v1 => ⟨Nat.zero_le _, fun l hl => ⟨by show 2 ≤ sizeLine; decide, fun t ht => by
    have w1 := (I.step e1 a1)
    have w2 := w1.set (.refl _) w1.at_ i v1
    have af := a1.fill (xs := []) hl
    have et : Ez ((z.own vol).add l (.lst [])) (upd H1 l (.lst [])) (upd (upd H1 l (.lst [])) t (.tup [v, .ref l])) := .new ht
    have tl : t ≠ l := fun w => by
      rw [w, upd_same] at ht
      cases ht
    have e2 : Ez (z.own vol) H1 (upd (upd H1 l (.lst [])) t (.tup [v, .ref l])) := fun b u fb hb => by
      have nb := ne_of_none hb hl
      rw [upd_ne (fun w => ?_), upd_ne nb]
      · exact hb
      · rw [w, ← upd_ne (H := H1) (o := .lst []) tl] at hb
        rw [ht] at hb
        cases hb
    exact ⟨_, _, rfl, .inl (.inl upd_same), rfl, _, _, rfl, _, _, rfl, rfl, k z Hc _ _ _ (w2.fresh j (vs := []) (.refl _) a1 hl e2 (af.new ht) .nil) D q⟩⟩⟩⟩
/-- y = [e for x in a list] -/
theorem sr_lcFL {j k : Nat} {x y : Str} {scope : Scope} {py spos : Pos} (hc : X.calm = true) (hN : X.N.Nodup) (f : PyData → PyData) (hit : EV X z iter es s (.list ds) s) (hl : ds.length ≤ 100000) (hB : BlkOk X.N X.env.scope scope [(x, j)]) (hg : PgIn X scope (.Name x p) (gName j))
    (He : ∀ d ∈ ds, ∀ z' : Z, Blk X scope fun Y => EV Y z' elt (es.set j (.val d)) s (f d) s) (kk : SR X z rest (es.set k (.val (.list (ds.map f)))) s o) (hi : X.N[k]? = some y := by rfl) (hy : List.lookup y X.env.scope.names = some NameKind.local := by rfl)
    (hsw : swapsWith (.ListComp elt [{ target := .Name x p, iter := iter, ifs := [], is_async := 0 }] scope pos) (some (.Name y py)) spos.line X.env = pure true := by exact sw_true rfl rfl rfl (by decide +kernel)) (hs : ∀ x, foldedSetIterable iter X.env x = pure x := by intro _; rfl) :
    SR X z (.Assign [.Name y py] (.ListComp elt [{ target := .Name x p, iter := iter, ifs := [], is_async := 0 }] scope pos) spos :: rest) es s o := fun σ H en at_ D q =>
  ⟨_, pss_cons (ps_setLc (i := k) (own := [(x, j)]) hc hN hi hy hsw (pi_list wE_ok) hB hg (fun _ _ _ _ _ => pts_nil) tEl_ok hs) wB_ok, by
    have g := lc_read (X := X) (te := tEl X scope elt) (tt := tYes) (j := j) hit hl (fun _ => true) (fun i => (ds.take i).map f) (fun _ => s) (fun _ => s) rfl rfl (fun z' i d hd σ H en at_ Q q => q H (.refl H) at_)
      (fun z' i d hd _ => ⟨f d, take_succ hd, fun σ H en at_ Q q s0 H0 C cl fp => He d (List.mem_of_getElem? hd) z' s0 H0 C cl fp σ H en at_ Q q⟩) (fun i d _ h => by cases h)
    rw [List.take_length] at g
    exact g σ H en at_ _ fun v H2 e2 a2 v2 => kk _ H2 ((en.mono e2).set k (.val v2)) a2 D (q.mono e2)⟩
end
end DL


set_option Elab.async false
set_option linter.all false
set_option maxRecDepth 100000
namespace DL
open PySem PySem.Spec PyProof.Rows L2
theorem DaAll.put {z : Z} {H : Hp} {v : V} {d : PyData} (hv : Da z H v d) : ∀ {vs : List V} {ds : List PyData} (j : Nat), DaAll z H vs ds → DaAll z H (vs.set j v) (ds.set j d)
  | _, _, _, .nil => .nil
  | _, _, 0, .cons _ r => .cons hv r
  | _, _, j + 1, .cons h r => .cons h (DaAll.put hv j r)
theorem daAll_of {z : Z} {H : Hp} : ∀ {vs : List V} {ds : List PyData}, vs.length = ds.length → (∀ (k : Nat) (v : V) (d : PyData), vs[k]? = some v → ds[k]? = some d → Da z H v d) → DaAll z H vs ds
  | [], [], _, _ => .nil
  | [], _ :: _, h, _ => by simp at h
  | _ :: _, [], h, _ => by simp at h
  | v :: vs, d :: ds, h, k => .cons (k 0 v d rfl rfl) (daAll_of (by simpa using h) fun n v d h1 h2 => k (n + 1) v d h1 h2)
theorem At.upd_free {z : Z} {H : Hp} {p : Addr} {o : HO} {s : S} (A : At z H s) (f : Fz z p) : At z (upd H p o) s := by
  refine ⟨fun b hb => ?_, fun q hq => ?_, A.n⟩
  · rw [upd_ne (fun w => f.1 (by rw [← w]; exact hb))]
    exact A.d b hb
  · rw [upd_ne (fun w => f.2 q.2 (by rw [← w]; exact hq))]
    exact A.v q hq
/-- list(x), x a list: the items as they stand -/
theorem el_list {Y : Cx} {x y : Str} {j : Nat} {p p1 pos : Pos} {σ : L2.St} {H : Hp} {Q : VK} {a : Addr} {ws : List V} (hσ : σ[j]? = some (some (.ref a))) (hs : SqL Y.K H a ws) (q : ∀ l, H l = none → Q (.ref l) (upd H l (.lst ws))) (hm : Y.mg y = none)
    (hN : Y.N[j]? = some x := by rfl) (hvi : Vis Y.env.scope x := by first | exact Or.inl rfl | exact Or.inr (Or.inl rfl) | exact Or.inr (Or.inr rfl)) (hd : (x == ("__debug__" : Str)) = false := by decide) (hcd : (x == ("__classdict__" : Str)) = false := by decide)
    (hv : bootBuiltins y = some (.type "list") := by decide +kernel) (hg : Gl Y y := by rfl) (hn : y ≠ "__name__" := by decide) (hdb : (y == ("__debug__" : Str)) = false := by decide) (hst : starEach [.Name x p] Y.env = (false, eval (.Name x p) Y.env) :: starEach [] Y.env := by rfl) (hpl : (backTo pos (starEach [] Y.env)).any (·.1) = false := by rfl) :
    wE Y (.Call (.Name y p1) [.Name x p] [] pos) σ H Q :=
  ⟨_, pe_callTy call_list_of hg hm hv (pa_cons (pe_var hN hvi hd hcd) pa_nil hst) hn hdb hst hpl, _, hσ, a, ws, rfl, .inl hs, q⟩
section
variable {X : Cx} {z : Z} {es : List Sl} {s : S} {iter elt a b e : Expr} {d : PyData} {o : Out} {rest : List Stmt} {pos p p1 p2 p3 p4 p5 py spos : Pos}
/-- y = [list(x) for x in rows]; y[i][n] = e -/
theorem sr_bent {j k i n : Nat} {t1 t2 : Int} {x y : Str} {scope : Scope} {rows : List (List PyData)} {r : List PyData} (hc : X.calm = true) (hN : X.N.Nodup) (hit : EV X z iter es s (.list (rows.map PyData.list)) s) (hl : rows.length ≤ 100000) (hB : BlkOk X.N X.env.scope scope [(x, j)]) (hg : PgIn X scope (.Name x p) (gName j))
    (He : ∀ (σ : L2.St) (H : Hp) (Q : VK) (a : Addr) (ws : List V), σ[j]? = some (some (.ref a)) → SqL X.K H a ws → (∀ l, H l = none → Q (.ref l) (upd H l (.lst ws))) → tEl X scope elt σ H Q)
    (hv : EV X z e (es.set k .un) s (.tuple [.int t1, .int t2]) s) (ha : EV X z a (es.set k .un) s (.int (i : Int)) s) (hb : EV X z b (es.set k .un) s (.int (n : Int)) s) (hr : rows[i]? = some r) (hn : n < r.length)
    (kk : SR X z rest (es.set k (.val (.list ((rows.set i (r.set n (.tuple [.int t1, .int t2]))).map PyData.list)))) s o) (jl : j < es.length) (kl : k < es.length) (hi : X.N[k]? = some y := by rfl) (hy : List.lookup y X.env.scope.names = some NameKind.local := by rfl)
    (hsw : swapsWith (.ListComp elt [{ target := .Name x p, iter := iter, ifs := [], is_async := 0 }] scope pos) (some (.Name y py)) spos.line X.env = pure true := by exact sw_true rfl rfl rfl (by decide +kernel)) (hs : ∀ x, foldedSetIterable iter X.env x = pure x := by intro _; rfl)
    (hvi : Vis X.env.scope y := by first | exact Or.inl rfl | exact Or.inr (Or.inl rfl) | exact Or.inr (Or.inr rfl)) (hdd : (y == ("__debug__" : Str)) = false := by decide) (hcd : (y == ("__classdict__" : Str)) = false := by decide) (hpi : PlainIx a := by intro _ _; rfl)
    (hgs : PE X (.Subscript (.Name y p1) a p2) (tOp (rIxL X.K) (tVar k) (wE X a)) → PG X (.Subscript (.Subscript (.Name y p1) a p2) b p3) (gSub (tOp (rIxL X.K) (tVar k) (wE X a)) (wE X b) rSetL))
    (hs2 : swapsWithSole [.Subscript (.Subscript (.Name y p1) a p2) b p3] e p4.line X.env = pure false := by rfl) (hw2 : swappedStores [.Subscript (.Subscript (.Name y p1) a p2) b p3] e X.env = pure none := by rfl) :
    SR X z (.Assign [.Name y py] (.ListComp elt [{ target := .Name x p, iter := iter, ifs := [], is_async := 0 }] scope pos) spos :: .Assign [.Subscript (.Subscript (.Name y p1) a p2) b p3] e p4 :: rest) es s o := fun σ H en at_ D q =>
  ⟨_, pss_cons (ps_setLc (i := k) (own := [(x, j)]) hc hN hi hy hsw (pi_list wE_ok) hB hg (fun _ _ _ _ _ => pts_nil) tEl_ok hs) (pss_cons (ps_asg wE_ok (hgs (pe_ix ix_list (pe_var hi hvi hdd hcd) wE_ok hpi)) hs2 hw2) wB_ok), by
    have el := en.length
    refine hit σ H en at_ _ fun v H1 e1 a1 v1 => ?_
    cases v1 with
    | @lst a0 xs _ fa ha0 r1 =>
      have xl : xs.length = rows.length := by rw [r1.length, List.length_map]
      have item : ∀ (m : Nat) (x : V), xs[m]? = some x → ∃ (b : Addr) (ws : List V) (rr : List PyData), x = .ref b ∧ rows[m]? = some rr ∧ Fz z b ∧ H1 b = some (.lst ws) ∧ DaAll z H1 ws rr := fun m x hx => by
        obtain ⟨d, hd, hv⟩ := r1.getV m x hx
        rw [List.getElem?_map] at hd
        cases hr : rows[m]? with
        | none => rw [hr] at hd; cases hd
        | some rr =>
          rw [hr] at hd
          cases hd
          cases hv with
          | lst f h r => exact ⟨_, _, rr, rfl, rfl, f, h, r⟩
      refine ⟨a0, rfl, ⟨xs, .inl (.inl ha0)⟩, fun B hB0 => ?_⟩
      refine lc_it (walk_list (K := X.K) (a := a0) (xs := xs)) (vs := [j]) (fun m H' => Ez z H1 H' ∧ At z H' s ∧ ∃ qs : List Addr, qs.length = m ∧ H' B = some (.lst (qs.map V.ref)) ∧ qs.Nodup ∧ ∀ (t : Nat) (c : Addr), qs[t]? = some c → c ≠ B ∧ H1 c = none ∧ ∃ (b : Addr) (ws : List V), xs[t]? = some (.ref b) ∧ H1 b = some (.lst ws) ∧ H' c = some (.lst ws)) ?_ (fun m H' _ w => .inl (.inl (w.1 a0 _ fa ha0))) ?_ ?_
      · exact ⟨.new hB0, a1.new hB0, [], rfl, upd_same, List.nodup_nil, fun t c h => by simp at h⟩
      · intro m x H' H2 hm w hy
        obtain ⟨rfl, hx⟩ := hy
        obtain ⟨e2, a2, qs, ql, hB1, nd, old⟩ := w
        obtain ⟨bb, ws, rr, rfl, hrr, fb, hbb, dws⟩ := item m x hx
        have hσ : ((wipe σ [j]).set j (some (V.ref bb)))[j]? = some (some (.ref bb)) := by
          show ((σ.set j none).set j _)[j]? = _
          rw [List.set_set, List.getElem?_set_self (by omega)]
        refine ⟨by
          show ((σ.set j none).set j _).set j none = σ.set j none
          rw [List.set_set, List.set_set], ?_⟩
        unfold tYes
        dsimp only
        rw [if_pos rfl]
        refine He _ H2 _ bb ws hσ (.inl (.inl (e2 bb _ fb hbb))) fun l hl0 => ?_
        have lB : l ≠ B := fun w => by
          rw [w, hB1] at hl0
          cases hl0
        have l1 : H1 l = none := by
          cases h : H1 l with
          | none => rfl
          | some u =>
            rw [e2 l u (a2.fresh hl0) h] at hl0
            cases hl0
        refine ⟨qs.map V.ref, by rw [upd_ne (Ne.symm lB)]; exact hB1, Nat.lt_of_lt_of_le (show (qs.map V.ref).length < 100001 by rw [List.length_map]; omega) (by decide), fun b u f h => ?_, (a2.new hl0).upd_free ?_, qs ++ [l], by simp [ql], by rw [List.map_append]; exact upd_same, ?_, fun t c ht => ?_⟩
        · rw [upd_ne (ne_of_none h hB0), upd_ne (ne_of_none h l1)]
          exact e2 b u f h
        · exact (a1.fresh hB0)
        · refine List.nodup_append.mpr ⟨nd, by simp, fun c hc c2 hc2 w => ?_⟩
          obtain ⟨t, ht⟩ := List.mem_iff_getElem?.mp hc
          obtain ⟨_, _, b, ws', _, _, h3⟩ := old t c ht
          rw [w, List.mem_singleton.mp hc2, hl0] at h3
          cases h3
        · by_cases h : t < qs.length
          · rw [List.getElem?_append_left h] at ht
            obtain ⟨n1, n2, b, ws', h1, h2, h3⟩ := old t c ht
            have cl : c ≠ l := fun w => by
              rw [w, hl0] at h3
              cases h3
            exact ⟨n1, n2, b, ws', h1, h2, by rw [upd_ne n1, upd_ne cl]; exact h3⟩
          · have te : t = qs.length := by
              have := (List.getElem?_eq_some_iff.mp ht).1
              simp at this
              omega
            subst te
            rw [List.getElem?_append_right (Nat.le_refl _), Nat.sub_self] at ht
            cases ht
            exact ⟨lB, l1, bb, ws, by rw [ql]; exact hx, hbb, by rw [upd_ne lB]; exact upd_same⟩
      · intro H' w
        obtain ⟨e2, a2, qs, ql, hB1, nd, old⟩ := w
        have f0 : Fz z B := a1.fresh hB0
        have enU : En z H' (σ.set k (some (.ref B))) (es.set k .un) := (en.mono (e1.trans e2)).set k .un
        refine hv _ H' enU a2 _ fun v H3 e3 a3 v3 => ?_
        have hσk : (σ.set k (some (V.ref B)))[k]? = some (some (.ref B)) := List.getElem?_set_self (by omega)
        refine ⟨_, hσk, ha _ H3 (enU.mono e3) a3 _ fun u H4 e4 a4 u4 => ?_⟩
        cases u4
        have e34 := e3.trans e4
        obtain ⟨c, hcq⟩ : ∃ c, qs[i]? = some c := ⟨_, List.getElem?_eq_getElem (by have := (List.getElem?_eq_some_iff.mp hr).1; omega)⟩
        obtain ⟨c1, c2, bb, ws, hx, hb1, hc3⟩ := old i c hcq
        have fc : Fz z c := a1.fresh c2
        refine ⟨B, qs.map V.ref, (i : Int), .ref c, rfl, rfl, .inl (.inl (e34 B _ f0 hB1)), atI_nat (by rw [List.getElem?_map, hcq]; rfl), ?_⟩
        refine hb _ H4 (enU.mono e34) a4 _ fun u H5 e5 a5 u5 => ?_
        cases u5
        have e35 := e34.trans e5
        obtain ⟨b', ws', rr, eb, hrr, fb, hb2, dws⟩ := item i _ hx
        cases eb
        rw [hb1] at hb2
        cases hb2
        rw [hr] at hrr
        cases hrr
        have wl : ws.length = r.length := dws.length
        refine ⟨c, ws, (n : Int), n, rfl, rfl, e35 c _ fc hc3, by unfold ixN; rw [if_pos (by omega), if_pos (by omega)]; simp, ?_⟩
        have full : Ez z H (upd H5 c (.lst (ws.set n v))) := fun b u f h => by
          have h1 := e1 b u f h
          rw [upd_ne (ne_of_none h1 c2)]
          exact e35 b u f (e2 b u f h1)
        have from1 : Ez z H1 (upd H5 c (.lst (ws.set n v))) := fun b u f h => by
          rw [upd_ne (ne_of_none h c2)]
          exact e35 b u f (e2 b u f h)
        have from3 : Da z (upd H5 c (.lst (ws.set n v))) v (.tuple [.int t1, .int t2]) := by
          cases v3 with
          | @tup a3 ys _ fa3 ha3 r3 =>
            cases r3 with
            | cons g1 r3 =>
              cases g1
              cases r3 with
              | cons g1 r3 =>
                cases g1
                cases r3
                have ne : a3 ≠ c := fun w => by
                  rw [w, e3 c _ fc hc3] at ha3
                  cases ha3
                exact .tup fa3 (by rw [upd_ne ne]; exact (e4.trans e5) a3 _ fa3 ha3) (.cons (.int _) (.cons (.int _) .nil))
        refine kk _ _ ?_ (a5.upd_free fc) D (q.mono full)
        have : σ.set k (some (V.ref B)) = (σ.set k (some (.ref B))) := rfl
        refine (en.mono full).set k (.val (.lst f0 (by rw [upd_ne (Ne.symm c1)]; exact e35 B _ f0 hB1) ?_))
        refine daAll_of (by rw [List.length_map, List.length_map, List.length_set]; omega) fun t u dd h1 h2 => ?_
        rw [List.getElem?_map] at h1 h2
        cases hqt : qs[t]? with
        | none => rw [hqt] at h1; cases h1
        | some cc =>
          rw [hqt] at h1
          cases h1
          obtain ⟨k1, k2, bt, wst, kx, kb, kc⟩ := old t cc hqt
          by_cases hti : t = i
          · subst hti
            rw [hcq] at hqt
            cases hqt
            rw [List.getElem?_set_self (by have := (List.getElem?_eq_some_iff.mp hr).1; omega)] at h2
            cases h2
            exact .lst fc upd_same (DaAll.put from3 n (dws.mono from1))
          · rw [List.getElem?_set_ne (fun w => hti w.symm)] at h2
            obtain ⟨b2, ws2, rr2, eb2, hrr2, fb2, hb22, dws2⟩ := item t _ kx
            cases eb2
            rw [kb] at hb22
            cases hb22
            rw [hrr2] at h2
            cases h2
            have cne : cc ≠ c := fun w => by
              subst w
              have i1 := (List.getElem?_eq_some_iff.mp hqt).1
              exact hti ((List.getElem?_inj i1 nd).mp (hqt.trans hcq.symm))
            exact .lst (a1.fresh k2) (by rw [upd_ne cne]; exact e35 cc _ (a1.fresh k2) kc) (dws2.mono from1)⟩
end
end DL


set_option linter.all false
namespace PM
/-! ### polynomials as lists over a ring -/
universe u
section
variable {α : Type} [Lean.Grind.CommRing α]
def co (p : List α) (i : Nat) : α := p.getD i 0
theorem co_nil (i : Nat) : co ([] : List α) i = 0 := by simp [co]
theorem co_zero (a : α) (p : List α) : co (a :: p) 0 = a := by simp [co]
theorem co_succ (a : α) (p : List α) (i : Nat) : co (a :: p) (i + 1) = co p i := by simp [co]
def add : List α → List α → List α
  | [], q => q
  | p, [] => p
  | a :: p, b :: q => (a + b) :: add p q
theorem co_add : ∀ (p q : List α) (i : Nat), co (add p q) i = co p i + co q i
  | [], q, i => by rw [add, co_nil]; grind
  | a :: p, [], i => by rw [add, co_nil]; grind; simp
  | a :: p, b :: q, 0 => by rw [add]; simp [co_zero]
  | a :: p, b :: q, i + 1 => by rw [add, co_succ, co_succ, co_succ, co_add p q i]
def smul (c : α) (p : List α) : List α := p.map (c * ·)
theorem co_smul (c : α) : ∀ (p : List α) (i : Nat), co (smul c p) i = c * co p i
  | [], i => by rw [smul, List.map_nil, co_nil]; grind
  | a :: p, 0 => by simp [smul, co_zero]
  | a :: p, i + 1 => by
    have := co_smul c p i
    rw [smul, List.map_cons, co_succ, co_succ]
    exact this
def mul : List α → List α → List α
  | [], q => []
  | a :: p, q => add (smul a q) (0 :: mul p q)
/-- the same numbers, but for zeros at the end -/
def Eqv (p q : List α) : Prop := ∀ i, co p i = co q i
/-- Σ over i < n of p i * q (k - i) -/
def msum (p q : List α) (k : Nat) : Nat → α
  | 0 => 0
  | n + 1 => msum p q k n + (if n ≤ k then co p n * co q (k - n) else 0)
theorem msum_cons (a : α) (p q : List α) (k : Nat) : ∀ n, msum (a :: p) q k (n + 1) = a * co q k + (if k = 0 then 0 else msum p q (k - 1) n)
  | 0 => by
    simp only [msum, co_zero, Nat.zero_le, if_true, Nat.sub_zero]
    split <;> grind
  | n + 1 => by
    rw [msum, msum_cons a p q k n, co_succ, msum]
    by_cases h : k = 0
    · subst h
      simp
      grind
    · rw [if_neg h, if_neg h]
      by_cases h2 : n + 1 ≤ k
      · rw [if_pos h2, if_pos (show n ≤ k - 1 by omega), show k - 1 - n = k - (n + 1) by omega]
        grind
      · rw [if_neg h2, if_neg (show ¬ n ≤ k - 1 by omega)]
        grind
theorem co_mul : ∀ (p q : List α) (k : Nat), co (mul p q) k = msum p q k p.length
  | [], q, k => by rw [mul, co_nil]; rfl
  | a :: p, q, k => by
    rw [mul, co_add, co_smul, List.length_cons, msum_cons]
    cases k with
    | zero => simp [co_zero]
    | succ k =>
      rw [co_succ, co_mul p q k]
      simp
theorem co_ge (p : List α) {i : Nat} (h : p.length ≤ i) : co p i = 0 := by
  unfold co
  rw [List.getD_eq_getElem?_getD, List.getElem?_eq_none h]
  rfl
theorem msum_more (p q : List α) (k : Nat) : ∀ m, msum p q k (p.length + m) = msum p q k p.length
  | 0 => rfl
  | m + 1 => by
    rw [← Nat.add_assoc, msum, msum_more p q k m, co_ge p (i := p.length + m) (by omega)]
    split <;> grind
theorem msum_eqv {p p' q q' : List α} (h : Eqv p p') (h2 : Eqv q q') (k : Nat) : ∀ n, msum p q k n = msum p' q' k n
  | 0 => rfl
  | n + 1 => by rw [msum, msum, msum_eqv h h2 k n, h n, h2 (k - n)]
theorem mul_eqv {p p' q q' : List α} (h : Eqv p p') (h2 : Eqv q q') : Eqv (mul p q) (mul p' q') := fun k => by
  rw [co_mul, co_mul, ← msum_more p q k p'.length, ← msum_more p' q' k p.length, msum_eqv h h2 k, Nat.add_comm]
theorem add_eqv {p p' q q' : List α} (h : Eqv p p') (h2 : Eqv q q') : Eqv (add p q) (add p' q') := fun k => by
  rw [co_add, co_add, h k, h2 k]
theorem smul_eqv {c : α} {p p' : List α} (h : Eqv p p') : Eqv (smul c p) (smul c p') := fun k => by
  rw [co_smul, co_smul, h k]
theorem cons_eqv {a : α} {p p' : List α} (h : Eqv p p') : Eqv (a :: p) (a :: p') := fun k => by
  cases k with
  | zero => rw [co_zero, co_zero]
  | succ k => rw [co_succ, co_succ, h k]
theorem mul_nil : ∀ (p : List α), Eqv (mul p []) []
  | [] => fun _ => rfl
  | a :: p => fun k => by
    rw [mul, co_add, co_smul, co_nil]
    cases k with
    | zero => rw [co_zero]; grind
    | succ k => rw [co_succ, mul_nil p k, co_nil]; grind
theorem mul_cons (b : α) (q : List α) : ∀ (p : List α), Eqv (mul p (b :: q)) (add (smul b p) (0 :: mul p q))
  | [] => fun k => by
    rw [mul, mul, co_add, co_smul, co_nil]
    cases k with
    | zero => rw [co_zero]; grind
    | succ k => rw [co_succ, co_nil]; grind
  | a :: p => fun k => by
    rw [mul, mul, co_add, co_smul, co_add, co_smul]
    cases k with
    | zero => simp only [co_zero]; grind
    | succ k =>
      have ih := mul_cons b q p k
      rw [co_add, co_smul] at ih
      simp only [co_succ, co_add, co_smul]
      cases k with
      | zero =>
        simp only [co_zero] at ih ⊢
        grind
      | succ k =>
        simp only [co_succ] at ih ⊢
        grind
theorem mul_comm : ∀ (p q : List α), Eqv (mul p q) (mul q p)
  | [], q => fun k => by rw [mul_nil q k]; rfl
  | a :: p, q => fun k => by
    rw [mul_cons a p q k, mul, co_add, co_add]
    cases k with
    | zero => simp only [co_zero]
    | succ k => rw [co_succ, co_succ, mul_comm p q k]
theorem mul_add (p p' q : List α) : Eqv (mul (add p p') q) (add (mul p q) (mul p' q)) := fun k => by
  have gen : ∀ n, msum (add p p') q k n = msum p q k n + msum p' q k n := by
    intro n
    induction n with
    | zero => simp only [msum]; grind
    | succ n ih =>
      rw [msum, msum, msum, ih, co_add]
      split <;> grind
  rw [co_add, co_mul, co_mul, co_mul, ← msum_more (add p p') q k (p.length + p'.length), ← msum_more p q k ((add p p').length + p'.length), ← msum_more p' q k ((add p p').length + p.length), gen]
  grind
/-! values -/
def ev (x : α) : List α → α
  | [] => 0
  | a :: p => a + x * ev x p
theorem ev_add (x : α) : ∀ (p q : List α), ev x (add p q) = ev x p + ev x q
  | [], q => by rw [add, ev]; grind
  | a :: p, [] => by rw [add, ev, ev]; grind; simp
  | a :: p, b :: q => by rw [add, ev, ev, ev, ev_add x p q]; grind
theorem ev_smul (x c : α) : ∀ (p : List α), ev x (smul c p) = c * ev x p
  | [] => by simp only [smul, List.map_nil, ev]; grind
  | a :: p => by
    have := ev_smul x c p
    rw [smul] at this
    rw [smul, List.map_cons, ev, ev, this]
    grind
theorem ev_mul (x : α) : ∀ (p q : List α), ev x (mul p q) = ev x p * ev x q
  | [], q => by rw [mul, ev]; grind
  | a :: p, q => by rw [mul, ev_add, ev_smul, ev, ev, ev_mul x p q]; grind
/-! derived ones -/
def nc : Nat → α
  | 0 => 0
  | n + 1 => nc n + 1
def derF : Nat → List α → List α
  | _, [] => []
  | n, a :: p => (nc n * a) :: derF (n + 1) p
def der : List α → List α
  | [] => []
  | _ :: p => derF 1 p
theorem co_derF : ∀ (p : List α) (n i : Nat), co (derF n p) i = nc (n + i) * co p i
  | [], n, i => by rw [derF, co_nil]; grind
  | a :: p, n, 0 => by rw [derF, co_zero, co_zero, Nat.add_zero]
  | a :: p, n, i + 1 => by
    rw [derF, co_succ, co_succ, co_derF p (n + 1) i, show n + 1 + i = n + (i + 1) by omega]
theorem co_der : ∀ (p : List α) (i : Nat), co (der p) i = nc (i + 1) * co p (i + 1)
  | [], i => by rw [der, co_nil, co_nil]; grind
  | a :: p, i => by rw [der, co_derF, co_succ, Nat.add_comm]
theorem der_cons (a : α) (p : List α) : Eqv (der (a :: p)) (add p (0 :: der p)) := fun k => by
  rw [co_der, co_add, co_succ]
  cases k with
  | zero =>
    rw [co_zero]
    have : (nc (0 + 1) : α) = 1 := by simp only [nc]; grind
    rw [this]
    grind
  | succ k =>
    rw [co_succ, co_der]
    have : (nc (k + 1 + 1) : α) = nc (k + 1) + 1 := rfl
    rw [this]
    grind
theorem der_mul : ∀ (p q : List α), Eqv (der (mul p q)) (add (mul (der p) q) (mul p (der q)))
  | [], q => fun k => by
    rw [mul, co_der, co_nil, co_add]
    show _ = co (mul [] q) k + co (mul [] (der q)) k
    rw [mul, mul, co_nil]
    grind
  | a :: p, q => fun k => by
    have e1 : co (mul (der (a :: p)) q) k = co (mul p q) k + co (mul (0 :: der p) q) k := by
      rw [mul_eqv (der_cons a p) (fun _ => rfl) k, mul_add, co_add]
    rw [co_add, e1, co_der, mul, mul, mul, co_add, co_add, co_smul, co_succ, co_add, co_smul, co_smul, co_der]
    cases k with
    | zero =>
      simp only [co_zero]
      have : (nc (0 + 1) : α) = 1 := by simp only [nc]; grind
      rw [this]
      grind
    | succ k =>
      have ih := der_mul p q k
      rw [co_der, co_add] at ih
      simp only [co_succ]
      have : (nc (k + 1 + 1) : α) = nc (k + 1) + 1 := rfl
      rw [this]
      grind
end
/-! ### without zeros at the end -/
section
variable {α : Type} [Lean.Grind.CommRing α] [DecidableEq α]
def strip : List α → List α
  | [] => []
  | a :: p => match strip p with
    | [] => if a = 0 then [] else [a]
    | b :: q => a :: b :: q
theorem strip_eqv : ∀ p : List α, Eqv (strip p) p
  | [] => fun _ => rfl
  | a :: p => fun k => by
    have ih := strip_eqv p
    rw [strip]
    cases h : strip p with
    | nil =>
      rw [h] at ih
      by_cases ha : a = 0
      · simp only [ha, if_true]
        cases k with
        | zero => rw [co_nil, co_zero]
        | succ k => rw [co_succ, ← ih k, co_nil, co_nil]
      · simp only [ha, if_false]
        cases k with
        | zero => rw [co_zero, co_zero]
        | succ k => rw [co_succ, co_succ, ← ih k]
    | cons b q =>
      rw [h] at ih
      show co (a :: (b :: q)) k = _
      exact cons_eqv ih k
theorem strip_zero : ∀ p : List α, (∀ i, co p i = 0) → strip p = []
  | [], _ => rfl
  | a :: p, h => by
    have h0 := h 0
    rw [co_zero] at h0
    have ih := strip_zero p (fun i => by have := h (i + 1); rwa [co_succ] at this)
    rw [strip, ih]
    simp [h0]
theorem strip_ext : ∀ p q : List α, Eqv p q → strip p = strip q
  | [], q, h => by
    rw [strip_zero q (fun i => by rw [← h i, co_nil])]
    rfl
  | a :: p, [], h => by
    rw [strip_zero (a :: p) (fun i => by rw [h i, co_nil])]
    rfl
  | a :: p, b :: q, h => by
    have h0 := h 0
    rw [co_zero, co_zero] at h0
    have ih := strip_ext p q (fun i => by have := h (i + 1); rwa [co_succ, co_succ] at this)
    rw [strip, strip, ih, h0]
/-- no zero at the end -/
def Tidy (p : List α) : Prop := strip p = p
theorem strip_tidy (p : List α) : Tidy (strip p) := strip_ext _ _ (strip_eqv p)
theorem tidy_tail {a : α} {p : List α} (h : Tidy (a :: p)) : Tidy p := by
  unfold Tidy at *
  rw [strip] at h
  cases hp : strip p with
  | nil =>
    rw [hp] at h
    by_cases ha : a = 0
    · simp [ha] at h
    · simp [ha] at h
      rw [← h]
  | cons b q =>
    rw [hp] at h
    injection h
theorem tidy_last : ∀ {p : List α}, Tidy p → p ≠ [] → co p (p.length - 1) ≠ 0
  | [], _, h => absurd rfl h
  | [a], h, _ => by
    intro e
    rw [show ([a] : List α).length - 1 = 0 from rfl, co_zero] at e
    unfold Tidy at h
    simp [strip, e] at h
  | a :: b :: p, h, _ => by
    have := tidy_last (tidy_tail h) (by simp)
    rw [show (a :: b :: p).length - 1 = (b :: p).length - 1 + 1 from rfl, co_succ]
    exact this
theorem last_tidy : ∀ {p : List α}, (p ≠ [] → co p (p.length - 1) ≠ 0) → Tidy p
  | [], _ => rfl
  | [a], h => by
    have := h (by simp)
    rw [show ([a] : List α).length - 1 = 0 from rfl, co_zero] at this
    unfold Tidy
    simp [strip, this]
  | a :: b :: p, h => by
    have ih : Tidy (b :: p) := last_tidy (fun _ => by
      have := h (by simp)
      rwa [show (a :: b :: p).length - 1 = (b :: p).length - 1 + 1 from rfl, co_succ] at this)
    unfold Tidy at *
    rw [strip, ih]
theorem ev_strip (x : α) : ∀ p : List α, ev x (strip p) = ev x p
  | [] => rfl
  | a :: p => by
    have ih := ev_strip x p
    rw [strip]
    cases h : strip p with
    | nil =>
      rw [h, ev] at ih
      by_cases ha : a = 0
      · simp only [ha, if_true, ev]
        rw [← ih]
        grind
      · simp only [ha, if_false, ev]
        rw [← ih]
    | cons b q =>
      rw [h] at ih
      show ev x (a :: (b :: q)) = _
      rw [ev, ih, ev]
end
end PM


/-! tables as lists of rows of rational numbers -/
namespace TM
def smF : Nat → (Nat → Rat) → Rat
  | 0, _ => 0
  | n + 1, f => smF n f + f n
theorem smF_congr {f g : Nat → Rat} : ∀ {n : Nat}, (∀ k, k < n → f k = g k) → smF n f = smF n g
  | 0, _ => rfl
  | n + 1, h => by rw [smF, smF, smF_congr (n := n) fun k hk => h k (by omega), h n (by omega)]
theorem smF_add {f g : Nat → Rat} : ∀ n : Nat, smF n (fun k => f k + g k) = smF n f + smF n g
  | 0 => by rw [smF, smF, smF]; grind
  | n + 1 => by rw [smF, smF, smF, smF_add n]; grind
theorem smF_mul {f : Nat → Rat} {a : Rat} : ∀ n : Nat, smF n (fun k => a * f k) = a * smF n f
  | 0 => by rw [smF, smF]; grind
  | n + 1 => by rw [smF, smF, smF_mul n]; grind
theorem smF_mulr {f : Nat → Rat} {a : Rat} : ∀ n : Nat, smF n (fun k => f k * a) = smF n f * a
  | 0 => by rw [smF, smF]; grind
  | n + 1 => by rw [smF, smF, smF_mulr n]; grind
theorem smF_zero : ∀ n : Nat, smF n (fun _ => 0) = 0
  | 0 => rfl
  | n + 1 => by rw [smF, smF_zero n]; grind
theorem smF_swap {f : Nat → Nat → Rat} (m : Nat) : ∀ n : Nat, smF n (fun i => smF m (f i)) = smF m (fun j => smF n (fun i => f i j))
  | 0 => by
    rw [smF]
    exact (smF_zero m).symm
  | n + 1 => by
    rw [smF, smF_swap m n, ← smF_add]
    rfl
theorem smF_one {f : Nat → Rat} {i : Nat} : ∀ n : Nat, smF n (fun k => if k = i then f k else 0) = if i < n then f i else 0
  | 0 => by rw [smF, if_neg (by omega)]
  | n + 1 => by
    rw [smF, smF_one n]
    by_cases h : n = i
    · subst h
      rw [if_neg (by omega), if_pos rfl, if_pos (by omega)]
      grind
    · rw [if_neg h]
      by_cases h2 : i < n
      · rw [if_pos h2, if_pos (by omega)]
        grind
      · rw [if_neg h2, if_neg (by omega)]
        grind
def at1 (p : List Rat) (k : Nat) : Rat := p.getD k 0
theorem at1_get {p : List Rat} {k : Nat} (h : k < p.length) : p[k]? = some (at1 p k) := by
  unfold at1
  rw [List.getD_eq_getElem?_getD, List.getElem?_eq_getElem h]
  rfl
theorem at1_of {p : List Rat} {k : Nat} {q : Rat} (h : p[k]? = some q) : at1 p k = q := by
  unfold at1
  rw [List.getD_eq_getElem?_getD, h]
  rfl
theorem at1_map {f : Rat → Rat} {p : List Rat} {k : Nat} (h : k < p.length) : at1 (p.map f) k = f (at1 p k) := at1_of (by rw [List.getElem?_map, at1_get h]; rfl)
theorem at1_range {f : Nat → Rat} {n k : Nat} (h : k < n) : at1 ((List.range n).map f) k = f k := at1_of (by rw [List.getElem?_map, List.getElem?_range h]; rfl)
theorem at1_zip {f : Rat → Rat → Rat} {p q : List Rat} {k : Nat} (h : k < p.length) (h2 : k < q.length) : at1 (List.zipWith f p q) k = f (at1 p k) (at1 q k) := at1_of (by rw [List.getElem?_zipWith, at1_get h, at1_get h2])
theorem ext1 {p q : List Rat} {n : Nat} (hp : p.length = n) (hq : q.length = n) (h : ∀ k, k < n → at1 p k = at1 q k) : p = q := by
  apply List.ext_getElem?
  intro k
  by_cases hk : k < n
  · rw [at1_get (by omega), at1_get (by omega), h k hk]
  · rw [List.getElem?_eq_none (by omega), List.getElem?_eq_none (by omega)]
/-- the sum from the left -/
def sumL (p : List Rat) : Rat := p.foldl (· + ·) 0
theorem foldl_smF : ∀ (p : List Rat) (a : Rat), p.foldl (· + ·) a = a + smF p.length (at1 p)
  | [], a => by
    show a = a + smF 0 _
    rw [smF]
    grind
  | x :: p, a => by
    have h := foldl_smF p (a + x)
    rw [List.foldl_cons, h, List.length_cons]
    have : ∀ n, smF (n + 1) (at1 (x :: p)) = x + smF n (at1 p) := by
      intro n
      induction n with
      | zero =>
        rw [smF, smF, smF]
        show 0 + x = x + 0
        grind
      | succ n ih =>
        rw [smF, ih, smF]
        show x + smF n (at1 p) + at1 p n = _
        grind
    rw [this]
    grind
theorem sumL_smF (p : List Rat) : sumL p = smF p.length (at1 p) := by
  unfold sumL
  rw [foldl_smF]
  grind
/-- the sum of the products -/
def dot (p q : List Rat) : Rat := sumL (List.zipWith (· * ·) p q)
theorem dot_smF {p q : List Rat} {n : Nat} (hp : p.length = n) (hq : q.length = n) : dot p q = smF n (fun k => at1 p k * at1 q k) := by
  have hl : (List.zipWith (· * ·) p q).length = n := by rw [List.length_zipWith]; omega
  unfold dot
  rw [sumL_smF, hl]
  exact smF_congr fun k hk => at1_zip (by omega) (by omega)
abbrev Tb := List (List Rat)
structure Dim (t : Tb) (n m : Nat) : Prop where
  n : t.length = n
  m : ∀ r ∈ t, r.length = m
def rw (t : Tb) (i : Nat) : List Rat := t.getD i []
def en (t : Tb) (i j : Nat) : Rat := at1 (rw t i) j
theorem rw_get {t : Tb} {i : Nat} (h : i < t.length) : t[i]? = some (rw t i) := by
  unfold rw
  rw [List.getD_eq_getElem?_getD, List.getElem?_eq_getElem h]
  rfl
theorem rw_of {t : Tb} {i : Nat} {r : List Rat} (h : t[i]? = some r) : rw t i = r := by
  unfold rw
  rw [List.getD_eq_getElem?_getD, h]
  rfl
theorem rw_mem {t : Tb} {i : Nat} (h : i < t.length) : rw t i ∈ t := List.mem_of_getElem? (rw_get h)
theorem Dim.row {t : Tb} {n m i : Nat} (h : Dim t n m) (hi : i < n) : (rw t i).length = m := h.m _ (rw_mem (by rw [h.n]; exact hi))
theorem extT {t u : Tb} {n m : Nat} (ht : Dim t n m) (hu : Dim u n m) (h : ∀ i j, i < n → j < m → en t i j = en u i j) : t = u := by
  apply List.ext_getElem?
  intro i
  have h1 := ht.n
  have h2 := hu.n
  by_cases hi : i < n
  · rw [rw_get (by omega), rw_get (by omega)]
    congr 1
    exact ext1 (ht.row hi) (hu.row hi) fun j hj => h i j hi hj
  · rw [List.getElem?_eq_none (by omega), List.getElem?_eq_none (by omega)]
/-- a column; the turned table, of m columns -/
def col (t : Tb) (j : Nat) : List Rat := t.map fun r => at1 r j
def turn (t : Tb) (m : Nat) : Tb := (List.range m).map (col t)
def add (t u : Tb) : Tb := List.zipWith (List.zipWith (· + ·)) t u
def scale (a : Rat) (t : Tb) : Tb := t.map fun r => r.map (a * ·)
def mul (t u : Tb) (m : Nat) : Tb := t.map fun r => (List.range m).map fun j => dot r (col u j)
def idle (n : Nat) : Tb := (List.range n).map fun i => (List.range n).map fun j => if i = j then 1 else 0
theorem col_len {t : Tb} {j : Nat} : (col t j).length = t.length := List.length_map ..
theorem col_at {t : Tb} {i j : Nat} (h : i < t.length) : at1 (col t j) i = en t i j := at1_of (by unfold col; rw [List.getElem?_map, rw_get h]; rfl)
theorem rw_map {f : List Rat → List Rat} {t : Tb} {i : Nat} (h : i < t.length) : rw (t.map f) i = f (rw t i) := rw_of (by rw [List.getElem?_map, rw_get h]; rfl)
theorem rw_range {f : Nat → List Rat} {n i : Nat} (h : i < n) : rw ((List.range n).map f) i = f i := rw_of (by rw [List.getElem?_map, List.getElem?_range h]; rfl)
theorem dim_range {f : Nat → List Rat} {n m : Nat} (h : ∀ i, i < n → (f i).length = m) : Dim ((List.range n).map f) n m := ⟨by rw [List.length_map, List.length_range], fun r hr => by
  obtain ⟨i, hi, rfl⟩ := List.mem_map.mp hr
  exact h i (List.mem_range.mp hi)⟩
theorem dim_map {f : List Rat → List Rat} {t : Tb} {n m : Nat} (hn : t.length = n) (h : ∀ r ∈ t, (f r).length = m) : Dim (t.map f) n m := ⟨by rw [List.length_map, hn], fun r hr => by
  obtain ⟨q, hq, rfl⟩ := List.mem_map.mp hr
  exact h q hq⟩
theorem dim_turn {t : Tb} {n m : Nat} (h : Dim t n m) : Dim (turn t m) m n := dim_range fun i _ => by rw [col_len, h.n]
theorem dim_mul {t u : Tb} {n m : Nat} (h : t.length = n) : Dim (mul t u m) n m := dim_map h fun r _ => by rw [List.length_map, List.length_range]
theorem dim_idle (n : Nat) : Dim (idle n) n n := dim_range fun i _ => by rw [List.length_map, List.length_range]
theorem dim_add {t u : Tb} {n m : Nat} (h : Dim t n m) (k : Dim u n m) : Dim (add t u) n m := by
  have h1 := h.n
  have h2 := k.n
  refine ⟨by unfold add; rw [List.length_zipWith]; omega, fun r hr => ?_⟩
  obtain ⟨i, hi⟩ := List.mem_iff_getElem?.mp hr
  unfold add at hi
  rw [List.getElem?_zipWith] at hi
  by_cases hn : i < n
  · rw [rw_get (by omega), rw_get (by omega)] at hi
    have := Option.some.inj hi
    rw [← this, List.length_zipWith, h.row hn, k.row hn, Nat.min_self]
  · rw [List.getElem?_eq_none (by omega : t.length ≤ i)] at hi
    cases hi
theorem dim_scale {a : Rat} {t : Tb} {n m : Nat} (h : Dim t n m) : Dim (scale a t) n m := dim_map h.n fun r hr => by rw [List.length_map, h.m r hr]
section
variable {t u w : Tb} {n m l k i j : Nat}
theorem en_turn (h : Dim t n m) (hi : i < m) (hj : j < n) : en (turn t m) i j = en t j i := by
  unfold en turn
  rw [rw_range hi, col_at (by rw [h.n]; exact hj)]
  rfl
theorem en_mul (ht : Dim t n k) (hu : Dim u k m) (hi : i < n) (hj : j < m) : en (mul t u m) i j = smF k (fun l => en t i l * en u l j) := by
  unfold mul
  rw [en, rw_map (by rw [ht.n]; exact hi), at1_range hj, dot_smF (ht.row hi) (by rw [col_len, hu.n])]
  exact smF_congr fun l hl => by rw [col_at (by rw [hu.n]; exact hl)]; rfl
theorem en_add (ht : Dim t n m) (hu : Dim u n m) (hi : i < n) (hj : j < m) : en (add t u) i j = en t i j + en u i j := by
  have h1 := ht.n
  have h2 := hu.n
  have : rw (add t u) i = List.zipWith (· + ·) (rw t i) (rw u i) := rw_of (by unfold add; rw [List.getElem?_zipWith, rw_get (by omega), rw_get (by omega)])
  unfold en
  rw [this, at1_zip (by rw [ht.row hi]; exact hj) (by rw [hu.row hi]; exact hj)]
theorem en_idle (hi : i < n) (hj : j < n) : en (idle n) i j = if i = j then 1 else 0 := by
  unfold en idle
  rw [rw_range hi, at1_range hj]
theorem mul_turn (ht : Dim t n k) (hu : Dim u k m) : mul (turn u m) (turn t k) n = turn (mul t u m) m := by
  have d1 := dim_turn hu
  have d2 := dim_turn ht
  refine extT (dim_mul d1.n) (dim_turn (dim_mul ht.n)) fun i j hi hj => ?_
  rw [en_mul d1 d2 hi hj, en_turn (dim_mul ht.n) hi hj, en_mul ht hu hj hi]
  exact smF_congr fun l hl => by rw [en_turn hu hi hl, en_turn ht hl hj]; grind
theorem add_mul (ht : Dim t n k) (hu : Dim u n k) (hw : Dim w k m) : mul (add t u) w m = add (mul t w m) (mul u w m) := by
  have d := dim_add ht hu
  refine extT (dim_mul d.n) (dim_add (dim_mul ht.n) (dim_mul hu.n)) fun i j hi hj => ?_
  rw [en_mul d hw hi hj, en_add (dim_mul ht.n) (dim_mul hu.n) hi hj, en_mul ht hw hi hj, en_mul hu hw hi hj, ← smF_add]
  exact smF_congr fun l hl => by rw [en_add ht hu hi hl]; grind
theorem mul_assoc (ht : Dim t n k) (hu : Dim u k m) (hw : Dim w m l) : mul (mul t u m) w l = mul t (mul u w l) l := by
  refine extT (dim_mul (by rw [(dim_mul (m := m) (u := u) ht.n).n])) (dim_mul ht.n) fun i j hi hj => ?_
  rw [en_mul (dim_mul ht.n) hw hi hj, en_mul ht (dim_mul hu.n) hi hj]
  rw [smF_congr (g := fun a => smF k (fun b => en t i b * en u b a * en w a j)) fun a ha => by rw [en_mul ht hu hi ha, ← smF_mulr]]
  rw [smF_congr (f := fun a => en t i a * en (mul u w l) a j) (g := fun b => smF m (fun a => en t i b * en u b a * en w a j)) fun b hb => by
    rw [en_mul hu hw hb hj, ← smF_mul]
    exact smF_congr fun a _ => by grind]
  exact smF_swap k m
theorem idle_mul (ht : Dim t n m) : mul (idle n) t m = t := by
  refine extT (dim_mul (dim_idle n).n) ht fun i j hi hj => ?_
  rw [en_mul (dim_idle n) ht hi hj]
  rw [smF_congr (g := fun l => if l = i then en t l j else 0) fun l hl => by
    rw [en_idle hi hl]
    by_cases e : i = l
    · rw [if_pos e, if_pos e.symm]; grind
    · rw [if_neg e, if_neg (fun h => e h.symm)]; grind]
  rw [smF_one, if_pos hi]
theorem mul_idle (ht : Dim t n m) : mul t (idle m) m = t := by
  refine extT (dim_mul ht.n) ht fun i j hi hj => ?_
  rw [en_mul ht (dim_idle m) hi hj]
  rw [smF_congr (g := fun l => if l = j then en t i l else 0) fun l hl => by
    rw [en_idle hl hj]
    by_cases e : l = j
    · rw [if_pos e, if_pos e]; grind
    · rw [if_neg e, if_neg e]; grind]
  rw [smF_one, if_pos hj]
end
end TM


set_option Elab.async false
set_option linter.all false
set_option maxRecDepth 100000
namespace K3
open PySem PySem.Spec PyProof.Rows L2 DL
def top (i : Nat) : Stmt := PySem.Challenge.pw_thirdcounts_k03_whole_products_of_tables.main.body.getD i (.Pass ⟨0, 0, 0, 0⟩)
/-! ### what the built-in classes say of data -/
def isW : PyData → Bool
  | .int _ => true
  | _ => false
theorem k_int (v : PyData) : kitB (tyD v) "int" = some (match v with | .int _ => true | .bool _ => true | _ => false) := by
  match v with
  | .none => exact (by decide +kernel : kitB "NoneType" "int" = some false)
  | .bool _ => exact (by decide +kernel : kitB "bool" "int" = some true)
  | .int _ => exact (by decide +kernel : kitB "int" "int" = some true)
  | .str _ => exact (by decide +kernel : kitB "str" "int" = some false)
  | .list _ => exact (by decide +kernel : kitB "list" "int" = some false)
  | .tuple _ => exact (by decide +kernel : kitB "tuple" "int" = some false)
  | .dict _ => exact (by decide +kernel : kitB "dict" "int" = some false)
theorem k_bool (v : PyData) : kitB (tyD v) "bool" = some (match v with | .bool _ => true | _ => false) := by
  match v with
  | .none => exact (by decide +kernel : kitB "NoneType" "bool" = some false)
  | .bool _ => exact (by decide +kernel : kitB "bool" "bool" = some true)
  | .int _ => exact (by decide +kernel : kitB "int" "bool" = some false)
  | .str _ => exact (by decide +kernel : kitB "str" "bool" = some false)
  | .list _ => exact (by decide +kernel : kitB "list" "bool" = some false)
  | .tuple _ => exact (by decide +kernel : kitB "tuple" "bool" = some false)
  | .dict _ => exact (by decide +kernel : kitB "dict" "bool" = some false)
theorem k_tuple (v : PyData) : kitB (tyD v) "tuple" = some (match v with | .tuple _ => true | _ => false) := by
  match v with
  | .none => exact (by decide +kernel : kitB "NoneType" "tuple" = some false)
  | .bool _ => exact (by decide +kernel : kitB "bool" "tuple" = some false)
  | .int _ => exact (by decide +kernel : kitB "int" "tuple" = some false)
  | .str _ => exact (by decide +kernel : kitB "str" "tuple" = some false)
  | .list _ => exact (by decide +kernel : kitB "list" "tuple" = some false)
  | .tuple _ => exact (by decide +kernel : kitB "tuple" "tuple" = some true)
  | .dict _ => exact (by decide +kernel : kitB "dict" "tuple" = some false)
theorem k_str (v : PyData) : kitB (tyD v) "str" = some (match v with | .str _ => true | _ => false) := by
  match v with
  | .none => exact (by decide +kernel : kitB "NoneType" "str" = some false)
  | .bool _ => exact (by decide +kernel : kitB "bool" "str" = some false)
  | .int _ => exact (by decide +kernel : kitB "int" "str" = some false)
  | .str _ => exact (by decide +kernel : kitB "str" "str" = some true)
  | .list _ => exact (by decide +kernel : kitB "list" "str" = some false)
  | .tuple _ => exact (by decide +kernel : kitB "tuple" "str" = some false)
  | .dict _ => exact (by decide +kernel : kitB "dict" "str" = some false)
/-- what the top has bound -/
structure Top (mg : Str → Option Value) : Prop where
  isi : mg "isinstance" = none
  int : mg "int" = none
  bool : mg "bool" = none
  str : mg "str" = none
  tuple : mg "tuple" = none
  len : mg "len" = none
  abs : mg "abs" = none
  range : mg "range" = none
  all : mg "all" = none
  long : ∃ t, mg "_TOO_LONG" = some (.int (10 ^ 60) t)
  gcd : mg "gcd" = some (.builtin "math.gcd")
section
variable {P : Program} {w : World} {K : PySem.W.Frag} {mg : Str → Option Value} {base : Heap} {f : Addr} {fd : FuncData}
abbrev sWhole : Stmt := top 8
theorem scWhole : FnScope ["value"] ["value"] (defScope sWhole) := ⟨rfl, rfl, rfl, by decide +kernel, rfl, by decide +kernel, by decide +kernel⟩
def rWhole : Rel := fun as s d s' => ∃ v, as = [.val v] ∧ d = .bool (isW v) ∧ s' = s
theorem ok_whole (F : Fun K "is_whole" "is_whole" sWhole f fd) (T : Top mg) : FnOk P w K mg base CX0 1 f fd ["value"] (spD rWhole) := by
  refine okD F scWhole (by rintro _ _ _ _ ⟨v, rfl, _⟩; rfl) fun cdv A outer s0 H0 E C z as s₁ d s h => ?_
  obtain ⟨v, rfl, rfl, rfl⟩ := h
  refine sr_ret (EV.is (ev_and (ev_isi T.isi T.int (ev_var 0) (k_int v)) fun _ => ev_b1 (ev_not (ev_isi T.isi T.bool (ev_var 0) (k_bool v)))) ?_)
  cases v <;> rfl
abbrev sInteger : Stmt := top 10
theorem scInteger : FnScope ["value"] ["value"] (defScope sInteger) := ⟨rfl, rfl, rfl, by decide +kernel, rfl, by decide +kernel, by decide +kernel⟩
def intg : PyData → Bool
  | .int i => decide (-(10 ^ 60) < i) && decide (i < 10 ^ 60)
  | _ => false
def rInteger : Rel := fun as s d s' => ∃ v, as = [.val v] ∧ d = .bool (intg v) ∧ s' = s
theorem ok_integer (F : Fun K "is_integer" "is_integer" sInteger f fd) (T : Top mg) (G : Dn P w K mg base 1 "is_whole" rWhole) : FnOk P w K mg base CX0 2 f fd ["value"] (spD rInteger) := by
  refine okD F scInteger (by rintro _ _ _ _ ⟨v, rfl, _⟩; rfl) fun cdv A outer s0 H0 E C z as s₁ d s h => ?_
  obtain ⟨v, rfl, rfl, rfl⟩ := h
  obtain ⟨tl, hl⟩ := T.long
  refine sr_ret ?_
  match v with
  | .int i => exact ev_andT (ev_call G C.hr (ea_cons (ev_var 0) ea_nil) ⟨_, rfl, rfl, rfl⟩) (ev_b1 (et_chainLt (ev_neg (ev_glob rfl hl ⟨tl, rfl⟩)) (ev_var 0) (ev_glob rfl hl ⟨tl, rfl⟩)))
  | .none => exact ev_andF (ev_call G C.hr (ea_cons (ev_var 0) ea_nil) ⟨_, rfl, rfl, rfl⟩)
  | .bool _ => exact ev_andF (ev_call G C.hr (ea_cons (ev_var 0) ea_nil) ⟨_, rfl, rfl, rfl⟩)
  | .str _ => exact ev_andF (ev_call G C.hr (ea_cons (ev_var 0) ea_nil) ⟨_, rfl, rfl, rfl⟩)
  | .list _ => exact ev_andF (ev_call G C.hr (ea_cons (ev_var 0) ea_nil) ⟨_, rfl, rfl, rfl⟩)
  | .tuple _ => exact ev_andF (ev_call G C.hr (ea_cons (ev_var 0) ea_nil) ⟨_, rfl, rfl, rfl⟩)
  | .dict _ => exact ev_andF (ev_call G C.hr (ea_cons (ev_var 0) ea_nil) ⟨_, rfl, rfl, rfl⟩)
abbrev sFrac : Stmt := top 11
theorem scFrac : FnScope ["value", "top", "bottom"] ["value"] (defScope sFrac) := ⟨rfl, rfl, rfl, by decide +kernel, rfl, by decide +kernel, by decide +kernel⟩
def fr2 (t b : PyData) : Bool := match t, b with
  | .int t, .int b => decide (1 ≤ b) && decide (((Nat.gcd t.natAbs b.natAbs : Nat) : Int) = 1)
  | _, _ => false
def frac : PyData → Bool
  | .tuple [t, b] => fr2 t b
  | _ => false
def rFrac : Rel := fun as s d s' => ∃ v, as = [.val v] ∧ d = .bool (frac v) ∧ s' = s
theorem isW_int {v : PyData} (h : isW v = true) : ∃ i, v = .int i := by
  cases v <;> first | exact ⟨_, rfl⟩ | cases h
theorem isW_not {v : PyData} (h : isW v = false) : ∀ i, v ≠ .int i := fun i e => by
  subst e
  cases h
theorem fr2_l {t b : PyData} (h : isW t = false) : fr2 t b = false := by
  cases t <;> first | rfl | cases h
theorem fr2_r {t b : PyData} (h : isW b = false) : fr2 t b = false := by
  cases t <;> cases b <;> first | rfl | cases h
theorem ok_frac (F : Fun K "is_fraction" "is_fraction" sFrac f fd) (T : Top mg) (G : Dn P w K mg base 1 "is_whole" rWhole) : FnOk P w K mg base CX0 2 f fd ["value"] (spD rFrac) := by
  refine okD F scFrac (by rintro _ _ _ _ ⟨v, rfl, _⟩; rfl) fun cdv A outer s0 H0 E C z as s₁ d s h => ?_
  obtain ⟨v, rfl, rfl, rfl⟩ := h
  have bad : (∀ xs, v ≠ .tuple xs) → SR (cxOf CX0 P w K mg base ["value", "top", "bottom"] "is_fraction" (defScope sFrac) f cdv A outer s0 H0 E).nox z (defBody sFrac) [.val v, .un, .un] s (.rt (.bool false) s) := fun hv =>
    sr_ifT (et_w (ew_orT (et_notT (et_val (ev_isi T.isi T.tuple (ev_var 0) (by rw [k_tuple]; cases v <;> first | rfl | exact absurd rfl (hv _))))))) (sr_ret ev_bl)
  have odd : ∀ xs, xs.length ≠ 2 → SR (cxOf CX0 P w K mg base ["value", "top", "bottom"] "is_fraction" (defScope sFrac) f cdv A outer s0 H0 E).nox z (defBody sFrac) [.val (.tuple xs), .un, .un] s (.rt (.bool false) s) := fun xs hx => by
    refine sr_ifT ?_ (sr_ret ev_bl)
    refine et_w (ew_orF (et_notF (et_val (ev_isi T.isi T.tuple (ev_var 0) (k_tuple (.tuple xs))))) (ew_or1 ?_))
    exact ET.is (et_neI C.hu (ev_bltn call_len rb_lenT T.len (ed_cons (ev_var 0) ed_nil)) ev_int) (by simp; omega)
  match v, bad with
  | .int i, bad => exact bad (fun _ h => by cases h)
  | .none, bad => exact bad (fun _ h => by cases h)
  | .bool _, bad => exact bad (fun _ h => by cases h)
  | .str _, bad => exact bad (fun _ h => by cases h)
  | .list _, bad => exact bad (fun _ h => by cases h)
  | .dict _, bad => exact bad (fun _ h => by cases h)
  | .tuple [], _ => exact odd _ (by simp)
  | .tuple [_], _ => exact odd _ (by simp)
  | .tuple (_ :: _ :: _ :: _), _ => exact odd _ (by simp)
  | .tuple [t, b], _ =>
    refine sr_ifF (et_w (ew_orF (et_notF (et_val (ev_isi T.isi T.tuple (ev_var 0) (k_tuple (.tuple [t, b]))))) (ew_or1 (ET.is (et_neI C.hu (ev_bltn call_len rb_lenT T.len (ed_cons (ev_var 0) ed_nil)) ev_int) rfl)))) ?_
    refine sr_unp2 1 2 C.calm C.nd (ev_var 0) ?_
    refine sr_ret ?_
    show EV _ _ _ _ _ (.bool (fr2 t b)) _
    cases ht : isW t with
    | false =>
      rw [fr2_l ht]
      exact ev_andF (ev_call G C.hr (ea_cons (ev_var 1) ea_nil) ⟨_, rfl, by rw [ht], rfl⟩)
    | true =>
      refine ev_andT (ev_call G C.hr (ea_cons (ev_var 1) ea_nil) ⟨_, rfl, by rw [ht], rfl⟩) ?_
      cases hb : isW b with
      | false =>
        rw [fr2_r hb]
        exact ev_andF (ev_call G C.hr (ea_cons (ev_var 2) ea_nil) ⟨_, rfl, by rw [hb], rfl⟩)
      | true =>
        refine ev_andT (ev_call G C.hr (ea_cons (ev_var 2) ea_nil) ⟨_, rfl, by rw [hb], rfl⟩) ?_
        obtain ⟨t, rfl⟩ := isW_int ht
        obtain ⟨b, rfl⟩ := isW_int hb
        exact ev_and (ev_ge (ev_var 2) ev_int) fun _ => ev_b1 (ev_eqI C.hu (ev_bfun cr_gcd rb_gcd T.gcd (ed_cons (ev_var 1) (ed_cons (ev_var 2) ed_nil))) ev_int)
end
end K3


set_option Elab.async false
set_option linter.all false
set_option maxRecDepth 100000
namespace K3
open PySem PySem.Spec PyProof.Rows L2 DL
/-! ### numbers -/
def num (v : PyData) : Bool := intg v || frac v
/-- v is the number t / b -/
inductive Nm : PyData → Int → Int → Prop
  | int {t : Int} : -(10 ^ 60) < t → t < 10 ^ 60 → Nm (.int t) t 1
  | fr {t b : Int} : 1 ≤ b → Nat.gcd t.natAbs b.natAbs = 1 → Nm (.tuple [.int t, .int b]) t b
theorem Nm.num {v : PyData} {t b : Int} (h : Nm v t b) : num v = true := by
  cases h with
  | int h1 h2 =>
    have : intg (.int t) = true := by
      simp only [intg, Bool.and_eq_true, decide_eq_true_eq]
      exact ⟨h1, h2⟩
    simp [K3.num, this]
  | fr h1 h2 =>
    have : frac (.tuple [.int t, .int b]) = true := by simp [frac, fr2, h1, h2]
    simp [K3.num, this]
theorem Nm.pos {v : PyData} {t b : Int} (h : Nm v t b) : 1 ≤ b := by
  cases h with
  | int h1 h2 => decide
  | fr h1 h2 => exact h1
theorem Nm.cop {v : PyData} {t b : Int} (h : Nm v t b) : Nat.gcd t.natAbs b.natAbs = 1 := by
  cases h with
  | int h1 h2 => simp
  | fr h1 h2 => exact h2
/-- of at most so many bits -/
def Bd (n : Nat) (t : Int) : Prop := t.natAbs < 2 ^ n
theorem Bd.mono {n m : Nat} {t : Int} (h : Bd n t) (k : n ≤ m) : Bd m t := Nat.lt_of_lt_of_le h (Nat.pow_le_pow_right (by decide) k)
theorem Bd.mul {n m : Nat} {t u : Int} (h : Bd n t) (k : Bd m u) : Bd (n + m) (t * u) := wide_lt h k
theorem Bd.add {n : Nat} {t u : Int} (h : Bd n t) (k : Bd n u) : Bd (n + 1) (t + u) := by
  unfold Bd at *
  have : (2 : Nat) ^ (n + 1) = 2 ^ n + 2 ^ n := by rw [Nat.pow_succ]; omega
  omega
theorem Bd.neg {n : Nat} {t : Int} (h : Bd n t) : Bd n (-t) := by
  unfold Bd at *
  omega
theorem Bd.sub {n : Nat} {t u : Int} (h : Bd n t) (k : Bd n u) : Bd (n + 1) (t - u) := by
  rw [Int.sub_eq_add_neg]
  exact h.add k.neg
theorem Bd.cmul {n m : Nat} {t u : Int} (h : Bd n t) (k : Bd m u) (hn : 0 < n := by decide) (hm : 0 < m := by decide) (hs : n + m ≤ 1000000 := by decide) : CMulW t u := wide_mul h k hn hm hs
theorem Bd.cdiv {n : Nat} {t u : Int} (h : Bd n u) (h0 : u ≠ 0) (hn : 0 < n := by decide) (hs : n ≤ 9000 := by decide) : CDivZ t u := ⟨h0, Nat.lt_of_lt_of_le (PySem.Flt.log2_lt_of hn h) hs⟩
/-- the quotient in lowest terms -/
def gq (t b : Int) : Int := if b < 0 then -((Nat.gcd t.natAbs b.natAbs : Nat) : Int) else ((Nat.gcd t.natAbs b.natAbs : Nat) : Int)
def frT (t b : Int) : Int := t.fdiv (gq t b)
def frB (t b : Int) : Int := b.fdiv (gq t b)
def frD (t b : Int) : PyData := .tuple [.int (frT t b), .int (frB t b)]
theorem gq_ne {t b : Int} (h : b ≠ 0) : gq t b ≠ 0 := by
  have : 0 < Nat.gcd t.natAbs b.natAbs := Nat.gcd_pos_of_pos_right _ (by omega)
  unfold gq
  split <;> omega
theorem gq_bd {n : Nat} {t b : Int} (h : b ≠ 0) (k : Bd n b) : Bd n (gq t b) := by
  have h1 : Nat.gcd t.natAbs b.natAbs ≤ b.natAbs := Nat.gcd_le_right _ (by omega)
  have h2 : (gq t b).natAbs = Nat.gcd t.natAbs b.natAbs := by
    unfold gq
    split <;> omega
  unfold Bd at *
  omega
section
variable {P : Program} {w : World} {K : PySem.W.Frag} {mg : Str → Option Value} {base : Heap} {f : Addr} {fd : FuncData}
abbrev sNumber : Stmt := top 12
theorem scNumber : FnScope ["value"] ["value"] (defScope sNumber) := ⟨rfl, rfl, rfl, by decide +kernel, rfl, by decide +kernel, by decide +kernel⟩
def rNumber : Rel := fun as s d s' => ∃ v, as = [.val v] ∧ d = .bool (num v) ∧ s' = s
theorem ok_number (F : Fun K "is_number" "is_number" sNumber f fd) (G1 : Dn P w K mg base 2 "is_integer" rInteger) (G2 : Dn P w K mg base 2 "is_fraction" rFrac) : FnOk P w K mg base CX0 3 f fd ["value"] (spD rNumber) := by
  refine okD F scNumber (by rintro _ _ _ _ ⟨v, rfl, _⟩; rfl) fun cdv A outer s0 H0 E C z as s₁ d s h => ?_
  obtain ⟨v, rfl, rfl, rfl⟩ := h
  refine sr_ret (ev_or (ev_call G1 C.hr (ea_cons (ev_var 0) ea_nil) ⟨_, rfl, rfl, rfl⟩) fun _ => ev_b1 (ev_call G2 C.hr (ea_cons (ev_var 0) ea_nil) ⟨_, rfl, rfl, rfl⟩))
abbrev sNeed : Stmt := top 13
theorem scNeed : FnScope ["value"] ["value"] (defScope sNeed) := ⟨rfl, rfl, rfl, by decide +kernel, rfl, by decide +kernel, by decide +kernel⟩
def rNeed : Rel := fun as s d s' => ∃ v, as = [.val v] ∧ num v = true ∧ d = .none ∧ s' = s
theorem ok_need (F : Fun K "need_number" "need_number" sNeed f fd) (G : Dn P w K mg base 3 "is_number" rNumber) : FnOk P w K mg base CX0 4 f fd ["value"] (spD rNeed) := by
  refine okN F scNeed (by rintro _ _ _ _ ⟨v, rfl, _⟩; rfl) fun cdv A outer s0 H0 E C z as s₁ d s h => ?_
  obtain ⟨v, rfl, hv, rfl, rfl⟩ := h
  refine ⟨rfl, _, sr_ifF (et_notF (et_val (ev_call G C.hr (ea_cons (ev_var 0) ea_nil) ⟨_, rfl, by rw [hv], rfl⟩))) sr_nil⟩
abbrev sPair : Stmt := top 14
theorem scPair : FnScope ["number"] ["number"] (defScope sPair) := ⟨rfl, rfl, rfl, by decide +kernel, rfl, by decide +kernel, by decide +kernel⟩
def rPair : Rel := fun as s d s' => ∃ v t b, as = [.val v] ∧ Nm v t b ∧ d = .tuple [.int t, .int b] ∧ s' = s
theorem ok_pair (F : Fun K "as_pair" "as_pair" sPair f fd) (T : Top mg) : FnOk P w K mg base CX0 1 f fd ["number"] (spD rPair) := by
  refine okD F scPair (by rintro _ _ _ _ ⟨v, t, b, rfl, _⟩; rfl) fun cdv A outer s0 H0 E C z as s₁ d s h => ?_
  obtain ⟨v, t, b, rfl, hv, rfl, rfl⟩ := h
  cases hv with
  | int h1 h2 =>
    refine sr_ifF (et_val (ev_isi T.isi T.tuple (ev_var 0) (k_tuple (.int t)))) ?_
    exact sr_ret (ev_tup (ed_cons (ev_var 0) (ed_cons ev_int ed_nil)))
  | fr h1 h2 =>
    refine sr_ifT (et_val (ev_isi T.isi T.tuple (ev_var 0) (k_tuple (.tuple [.int t, .int b])))) ?_
    exact sr_ret (ev_var 0)
abbrev sQuot : Stmt := top 15
theorem scQuot : FnScope ["top", "bottom", "divisor"] ["top", "bottom"] (defScope sQuot) := ⟨rfl, rfl, rfl, by decide +kernel, rfl, by decide +kernel, by decide +kernel⟩
def rQuot : Rel := fun as s d s' => ∃ t b, as = [.val (.int t), .val (.int b)] ∧ b ≠ 0 ∧ Bd 9000 b ∧ d = frD t b ∧ s' = s
theorem ok_quot (F : Fun K "fraction" "fraction" sQuot f fd) (T : Top mg) (G : Dn P w K mg base 1 "is_whole" rWhole) : FnOk P w K mg base CX0 2 f fd ["top", "bottom"] (spD rQuot) := by
  refine okD F scQuot (by rintro _ _ _ _ ⟨v, t, rfl, _⟩; rfl) fun cdv A outer s0 H0 E C z as s₁ d s h => ?_
  obtain ⟨t, b, rfl, hb, hB, rfl, rfl⟩ := h
  refine sr_ifF (et_notF (et_val (ev_call G C.hr (ea_cons (ev_var 0) ea_nil) ⟨_, rfl, rfl, rfl⟩))) ?_
  refine sr_ifF (et_w (ew_orF (et_notF (et_val (ev_call G C.hr (ea_cons (ev_var 1) ea_nil) ⟨_, rfl, rfl, rfl⟩))) (ew_or1 (ET.is (et_eqI C.hu (ev_var 1) ev_int) (by simp [hb]))))) ?_
  refine sr_asg 2 C.nd (ev_bfun cr_gcd rb_gcd T.gcd (ed_cons (ev_var 0) (ed_cons (ev_var 1) ed_nil))) ?_
  have fin : SR (cxOf CX0 P w K mg base ["top", "bottom", "divisor"] "fraction" (defScope sQuot) f cdv A outer s0 H0 E).nox z ((defBody sQuot).drop 4) [.val (.int t), .val (.int b), .val (.int (gq t b))] s (.rt (frD t b) s) := by
    refine sr_ret (ev_tup (ed_cons (ev_div ?_ (ev_var 0) (ev_var 2)) (ed_cons (ev_div ?_ (ev_var 1) (ev_var 2)) ed_nil)))
    · exact (gq_bd hb hB).cdiv (gq_ne hb)
    · exact (gq_bd hb hB).cdiv (gq_ne hb)
  by_cases h0 : b < 0
  · refine sr_ifTn (ET.is (et_lt (ev_var 1) ev_int) (decide_eq_true h0)) (sr_asg 2 C.nd (ev_neg (ev_var 2)) sr_nil) ?_
    have e : gq t b = -((Nat.gcd t.natAbs b.natAbs : Nat) : Int) := if_pos h0
    rw [e] at fin
    exact fin
  · refine sr_ifF (ET.is (et_lt (ev_var 1) ev_int) (decide_eq_false h0)) ?_
    have e : gq t b = ((Nat.gcd t.natAbs b.natAbs : Nat) : Int) := if_neg h0
    rw [e] at fin
    exact fin
end
end K3


set_option Elab.async false
set_option linter.all false
set_option maxRecDepth 100000
namespace K3
open PySem PySem.Spec PyProof.Rows L2 DL PM
/-! ### fractions as rational numbers -/
/-- the pair of a rational number -/
def cD (q : Rat) : PyData := .tuple [.int q.num, .int (q.den : Int)]
theorem frD_rat {t b : Int} (hb : b ≠ 0) : frD t b = cD ((t : Rat) / (b : Rat)) := by
  rw [← Rat.divInt_eq_div]
  have hg : (b.gcd t : Int) ∣ t := Int.gcd_dvd_right ..
  have hg2 : (b.gcd t : Int) ∣ b := Int.gcd_dvd_left ..
  have g0 : 0 < b.gcd t := Int.gcd_pos_of_ne_zero_left _ hb
  have ge : (Nat.gcd t.natAbs b.natAbs) = b.gcd t := by
    rw [Nat.gcd_comm]
    rfl
  obtain ⟨k, hk⟩ := hg
  obtain ⟨m, hm⟩ := hg2
  have gi : (b.gcd t : Int) ≠ 0 := by omega
  unfold cD frD frT frB gq
  rw [ge, Rat.num_divInt, Rat.den_divInt, if_neg hb]
  generalize hG : b.gcd t = g at *
  have fd : ∀ x : Int, ((g : Int) * x).fdiv (g : Int) = x := fun x => by rw [Int.mul_comm, Int.mul_fdiv_cancel _ gi]
  have fdn : ∀ x : Int, ((g : Int) * x).fdiv (-(g : Int)) = -x := fun x => by
    rw [show (g : Int) * x = (-x) * (-(g : Int)) by rw [Int.neg_mul_neg, Int.mul_comm], Int.mul_fdiv_cancel _ (by omega)]
  have nb : ((b.natAbs / g : Nat) : Int) = (m.natAbs : Int) := by
    rw [hm, Int.natAbs_mul, Int.natAbs_natCast, Nat.mul_div_cancel_left _ g0]
  rw [nb]
  by_cases h : b < 0
  · rw [if_pos h, Int.sign_eq_neg_one_of_neg h]
    have m0 : m < 0 := by
      by_cases h2 : m < 0
      · exact h2
      · have := Int.mul_nonneg (show (0 : Int) ≤ g by omega) (show 0 ≤ m by omega)
        omega
    have e1 : t.fdiv (-(g : Int)) = -1 * t / (g : Int) := by
      conv => lhs; rw [hk]
      conv => rhs; rw [hk]
      rw [fdn, show -1 * ((g : Int) * k) = (g : Int) * (-k) by rw [Int.neg_one_mul, Int.mul_neg], Int.mul_ediv_cancel_left _ gi]
    have e2 : b.fdiv (-(g : Int)) = (m.natAbs : Int) := by
      conv => lhs; rw [hm]
      rw [fdn]
      omega
    rw [e1, e2]
  · rw [if_neg h, Int.sign_eq_one_of_pos (by omega)]
    have m0 : 0 < m := by
      by_cases h2 : 0 < m
      · exact h2
      · have := Int.mul_nonneg (show (0 : Int) ≤ g by omega) (show 0 ≤ -m by omega)
        rw [Int.mul_neg] at this
        omega
    have e1 : t.fdiv (g : Int) = 1 * t / (g : Int) := by
      rw [Int.one_mul]
      conv => lhs; rw [hk]
      conv => rhs; rw [hk]
      rw [fd, Int.mul_ediv_cancel_left _ gi]
    have e2 : b.fdiv (g : Int) = (m.natAbs : Int) := by
      conv => lhs; rw [hm]
      rw [fd]
      omega
    rw [e1, e2]
theorem rat_eq (q : Rat) : (q.num : Rat) / ((q.den : Int) : Rat) = q := by
  rw [← Rat.divInt_eq_div, Rat.num_divInt_den]
theorem den_pos (q : Rat) : 1 ≤ (q.den : Int) := by
  have := q.den_pos
  omega
theorem den_ne (q : Rat) : ((q.den : Int) : Rat) ≠ 0 := by
  intro h
  have := Rat.intCast_eq_zero_iff.mp h
  have := den_pos q
  omega
theorem ic_ne {b : Int} (h : b ≠ 0) : ((b : Int) : Rat) ≠ 0 := fun e => h (Rat.intCast_eq_zero_iff.mp e)
theorem fr_add (p q : Rat) : frD (p.num * (q.den : Int) + q.num * (p.den : Int)) ((p.den : Int) * (q.den : Int)) = cD (p + q) := by
  have h1 := den_pos p
  have h2 := den_pos q
  rw [frD_rat (Int.mul_ne_zero (by omega) (by omega))]
  have e1 := rat_eq p
  have e2 := rat_eq q
  have n1 := den_ne p
  have n2 := den_ne q
  congr 1
  rw [Rat.intCast_add, Rat.intCast_mul, Rat.intCast_mul, Rat.intCast_mul]
  grind
theorem fr_sub (p q : Rat) : frD (p.num * (q.den : Int) + (0 - q.num) * (p.den : Int)) ((p.den : Int) * (q.den : Int)) = cD (p - q) := by
  have h1 := den_pos p
  have h2 := den_pos q
  rw [frD_rat (Int.mul_ne_zero (by omega) (by omega))]
  have e1 := rat_eq p
  have e2 := rat_eq q
  have n1 := den_ne p
  have n2 := den_ne q
  congr 1
  rw [Rat.intCast_add, Rat.intCast_mul, Rat.intCast_mul, Rat.intCast_mul, Rat.intCast_sub, Rat.intCast_zero]
  grind
theorem fr_mul (p q : Rat) : frD (p.num * q.num) ((p.den : Int) * (q.den : Int)) = cD (p * q) := by
  have h1 := den_pos p
  have h2 := den_pos q
  rw [frD_rat (Int.mul_ne_zero (by omega) (by omega))]
  have e1 := rat_eq p
  have e2 := rat_eq q
  have n1 := den_ne p
  have n2 := den_ne q
  congr 1
  rw [Rat.intCast_mul, Rat.intCast_mul]
  grind
/-! sizes -/
/-- q is a whole number over M, at most A -/
def Sz (M A : Nat) (q : Rat) : Prop := ∃ k : Int, q * ((M : Int) : Rat) = (k : Rat) ∧ k.natAbs ≤ A * M
section
variable {M N A B : Nat} {p q : Rat}
theorem Sz.add (h : Sz M A p) (k : Sz M B q) : Sz M (A + B) (p + q) := by
  obtain ⟨i, h1, h2⟩ := h
  obtain ⟨j, k1, k2⟩ := k
  refine ⟨i + j, by rw [Rat.intCast_add]; grind, ?_⟩
  have : (A + B) * M = A * M + B * M := Nat.add_mul ..
  omega
theorem Sz.mul (h : Sz M A p) (k : Sz N B q) : Sz (M * N) (A * B) (p * q) := by
  obtain ⟨i, h1, h2⟩ := h
  obtain ⟨j, k1, k2⟩ := k
  refine ⟨i * j, by rw [Int.natCast_mul, Rat.intCast_mul, Rat.intCast_mul]; grind, ?_⟩
  rw [Int.natAbs_mul, show A * B * (M * N) = (A * M) * (B * N) by grind]
  exact Nat.mul_le_mul h2 k2
theorem Sz.neg (h : Sz M A p) : Sz M A (-p) := by
  obtain ⟨i, h1, h2⟩ := h
  exact ⟨-i, by rw [Rat.intCast_neg]; grind, by omega⟩
theorem Sz.mono (h : Sz M A p) (hA : A ≤ B) : Sz M B p := by
  obtain ⟨i, h1, h2⟩ := h
  exact ⟨i, h1, Nat.le_trans h2 (Nat.mul_le_mul_right _ hA)⟩
theorem Sz.wide (h : Sz M A p) (N : Nat) : Sz (M * N) A p := by
  obtain ⟨i, h1, h2⟩ := h
  refine ⟨i * (N : Int), by rw [Int.natCast_mul, Rat.intCast_mul, Rat.intCast_mul]; grind, ?_⟩
  rw [Int.natAbs_mul, Int.natAbs_natCast, ← Nat.mul_assoc]
  exact Nat.mul_le_mul_right _ h2
theorem Sz.int {i : Int} (h : i.natAbs ≤ A) : Sz M A (i : Rat) := ⟨i * (M : Int), by rw [Rat.intCast_mul], by rw [Int.natAbs_mul, Int.natAbs_natCast]; exact Nat.mul_le_mul_right _ h⟩
theorem Sz.zero : Sz M A 0 := ⟨0, by grind, by simp⟩
theorem Sz.eq (h : Sz M A p) (hM : M ≠ 0) : ∃ k : Int, p = Rat.divInt k (M : Int) ∧ k.natAbs ≤ A * M := by
  obtain ⟨k, h1, h2⟩ := h
  refine ⟨k, ?_, h2⟩
  rw [Rat.divInt_eq_div]
  have := ic_ne (show (M : Int) ≠ 0 by omega)
  grind
theorem Sz.den (h : Sz M A p) (hM : M ≠ 0) : p.den ∣ M := by
  obtain ⟨k, rfl, h2⟩ := h.eq hM
  rw [Rat.den_divInt, if_neg (by omega), Int.natAbs_natCast]
  have : (M : Int).gcd k ∣ M := by
    have := Int.gcd_dvd_left (a := (M : Int)) (b := k)
    exact Int.natCast_dvd_natCast.mp this
  exact Nat.div_dvd_of_dvd this
theorem Sz.denLe (h : Sz M A p) (hM : M ≠ 0) : p.den ≤ M := Nat.le_of_dvd (by omega) (h.den hM)
theorem Sz.num (h : Sz M A p) (hM : M ≠ 0) : p.num.natAbs ≤ A * M := by
  obtain ⟨k, rfl, h2⟩ := h.eq hM
  rw [Rat.num_divInt, Int.sign_eq_one_of_pos (by omega), Int.one_mul]
  have g0 : 0 < (M : Int).gcd k := Int.gcd_pos_of_ne_zero_left _ (by omega)
  have gd : ((M : Int).gcd k : Int) ∣ k := Int.gcd_dvd_right ..
  rw [Int.natAbs_ediv_of_dvd gd]
  exact Nat.le_trans (Nat.div_le_self ..) h2
/-- an integer that is c times q -/
theorem Sz.whole {v c : Int} (h : Sz M A q) (hM : M ≠ 0) (e : (v : Rat) = (c : Rat) * q) : v.natAbs ≤ c.natAbs * A := by
  obtain ⟨k, h1, h2⟩ := h
  have : v * (M : Int) = c * k := by
    apply Rat.intCast_inj.mp
    rw [Rat.intCast_mul, Rat.intCast_mul, e]
    grind
  have h3 : v.natAbs * M = c.natAbs * k.natAbs := by
    have := congrArg Int.natAbs this
    rwa [Int.natAbs_mul, Int.natAbs_mul, Int.natAbs_natCast] at this
  have h4 : v.natAbs * M ≤ c.natAbs * A * M := by
    rw [h3, Nat.mul_assoc]
    exact Nat.mul_le_mul_left _ h2
  exact Nat.le_of_mul_le_mul_right h4 (by omega)
end
/-- all numbers of a polynomial -/
def PSz (M A : Nat) (p : List Rat) : Prop := ∀ q ∈ p, Sz M A q
section
variable {M N A B : Nat} {p q : List Rat} {a x : Rat}
theorem PSz.nil : PSz M A [] := fun q h => by cases h
theorem PSz.cons (h : Sz M A a) (k : PSz M A p) : PSz M A (a :: p) := fun q hq => by
  rcases List.mem_cons.mp hq with rfl | hq
  · exact h
  · exact k q hq
theorem PSz.head (h : PSz M A (a :: p)) : Sz M A a := h a (List.mem_cons_self ..)
theorem PSz.tail (h : PSz M A (a :: p)) : PSz M A p := fun q hq => h q (List.mem_cons_of_mem _ hq)
theorem PSz.mono (h : PSz M A p) (hA : A ≤ B) : PSz M B p := fun q hq => (h q hq).mono hA
theorem PSz.wide (h : PSz M A p) (N : Nat) : PSz (M * N) A p := fun q hq => (h q hq).wide N
theorem PSz.add : ∀ {p q : List Rat}, PSz M A p → PSz M B q → PSz M (A + B) (PM.add p q)
  | [], q, _, k => by rw [PM.add]; exact k.mono (by omega)
  | a :: p, [], h, _ => by rw [PM.add]; exact h.mono (by omega); simp
  | a :: p, b :: q, h, k => by rw [PM.add]; exact .cons (h.head.add k.head) (PSz.add h.tail k.tail)
theorem PSz.smul (h : Sz M A a) (k : PSz N B p) : PSz (M * N) (A * B) (PM.smul a p) := fun y hy => by
  obtain ⟨w, hw, rfl⟩ := List.mem_map.mp hy
  exact h.mul (k w hw)
theorem PSz.mul : ∀ {p : List Rat}, PSz M A p → PSz N B q → PSz (M * N) (p.length * (A * B)) (PM.mul p q)
  | [], _, _ => by rw [PM.mul]; exact .nil
  | a :: p, h, k => by
    rw [PM.mul, List.length_cons, show (p.length + 1) * (A * B) = A * B + p.length * (A * B) by grind]
    exact (PSz.smul h.head k).add (.cons .zero (PSz.mul h.tail k))
theorem PSz.strip (h : PSz M A p) : PSz M A (PM.strip p) := by
  induction p with
  | nil => exact h
  | cons a p ih =>
    have := ih h.tail
    rw [PM.strip]
    cases hs : PM.strip p with
    | nil =>
      by_cases ha : a = 0
      · simp only [ha, if_true]
        exact .nil
      · simp only [ha, if_false]
        exact .cons h.head .nil
    | cons b q =>
      rw [hs] at this
      exact .cons h.head this
theorem strip_len {p : List Rat} : (PM.strip p).length ≤ p.length := by
  induction p with
  | nil => exact Nat.le_refl _
  | cons a p ih =>
    rw [PM.strip]
    cases hs : PM.strip p with
    | nil =>
      by_cases ha : a = 0 <;> simp [ha]
    | cons b q =>
      rw [hs] at ih
      simp at ih ⊢
      exact ih
theorem nc_int : ∀ n : Nat, (PM.nc n : Rat) = ((n : Int) : Rat)
  | 0 => rfl
  | n + 1 => by rw [PM.nc, nc_int n, Int.natCast_add, Rat.intCast_add]; rfl
theorem PSz.derF : ∀ {p : List Rat} (n : Nat), PSz M A p → PSz M ((n + p.length) * A) (PM.derF n p)
  | [], n, _ => .nil
  | a :: p, n, h => by
    rw [PM.derF]
    refine .cons ?_ ((PSz.derF (n + 1) h.tail).mono (Nat.mul_le_mul_right _ (by simp; omega)))
    rw [nc_int]
    have := (Sz.int (M := 1) (A := n) (i := (n : Int)) (by omega)).mul h.head
    rw [Nat.one_mul] at this
    exact this.mono (Nat.mul_le_mul_right _ (by simp))
theorem PSz.der {p : List Rat} (h : PSz M A p) : PSz M (p.length * A) (PM.der p) := by
  cases p with
  | nil => exact .nil
  | cons a p =>
    rw [PM.der]
    have := PSz.derF 1 h.tail
    rwa [Nat.add_comm] at this
theorem PSz.ev (hx : Sz N B x) : ∀ {p : List Rat}, PSz M A p → Sz (M * N ^ p.length) (A * (B + 1) ^ p.length) (PM.ev x p)
  | [], _ => .zero
  | a :: p, h => by
    have ih := PSz.ev hx h.tail
    rw [PM.ev, List.length_cons]
    have h1 := h.head.wide (N ^ (p.length + 1))
    have h2 := hx.mul ih
    rw [show N * (M * N ^ p.length) = M * N ^ (p.length + 1) by rw [Nat.pow_succ]; grind] at h2
    refine (h1.add h2).mono ?_
    have : A * 1 ≤ A * (B + 1) ^ p.length := Nat.mul_le_mul_left _ (Nat.pow_pos (by omega))
    rw [Nat.pow_succ, show A * ((B + 1) ^ p.length * (B + 1)) = A * (B + 1) ^ p.length + B * (A * (B + 1) ^ p.length) by grind]
    omega
end
end K3


set_option Elab.async false
set_option linter.all false
set_option maxRecDepth 100000
set_option exponentiation.threshold 3000
namespace K3
open PySem PySem.Spec PyProof.Rows L2 DL PM
section
variable {X : Cx} {z : Z} {es : List Sl} {s s1 s2 : S}
theorem rb_max (hc : X.calm = true) {i j : Int} : RB z s (fun xs H Q => ∃ i j, xs = [.int i, .int j] ∧ Q (.int (if j > i then j else i)) H) [.int i, .int j] (.int (max i j)) := fun vs H at_ h Q q => by
  cases h with
  | cons h r =>
    cases h
    cases r with
    | cons h r =>
      cases h
      cases r
      refine ⟨i, j, rfl, ?_⟩
      have e : (if j > i then j else i) = max i j := by
        by_cases h : j > i
        · rw [if_pos h]; omega
        · rw [if_neg h]; omega
      rw [e]
      exact q _ H (.refl H) at_ (.int _)
theorem rb_min (hc : X.calm = true) {i j : Int} : RB z s (fun xs H Q => ∃ i j, xs = [.int i, .int j] ∧ Q (.int (if j < i then j else i)) H) [.int i, .int j] (.int (min i j)) := fun vs H at_ h Q q => by
  cases h with
  | cons h r =>
    cases h
    cases r with
    | cons h r =>
      cases h
      cases r
      refine ⟨i, j, rfl, ?_⟩
      have e : (if j < i then j else i) = min i j := by
        by_cases h : j < i
        · rw [if_pos h]; omega
        · rw [if_neg h]; omega
      rw [e]
      exact q _ H (.refl H) at_ (.int _)
end
theorem bd_pow {w : Int} {n : Nat} (h : Bd n w) (a : Nat) : Bd (n * a + 1) (w ^ a) := by
  unfold Bd at *
  rw [Int.natAbs_pow]
  have h1 : w.natAbs ^ a ≤ (2 ^ n) ^ a := Nat.pow_le_pow_left (Nat.le_of_lt h) a
  rw [← Nat.pow_mul] at h1
  have h2 : (2 : Nat) ^ (n * a) < 2 ^ (n * a + 1) := Nat.pow_lt_pow_right (by decide) (by omega)
  omega
theorem bd_pow40 {w : Int} (h : Bd 30 w) {a : Nat} (ha : a ≤ 40) : Bd 1201 (w ^ a) := (bd_pow h a).mono (by omega)

structure Top8 (mg : Str → Option Value) : Prop where
  max : mg "max" = none
  zip : mg "zip" = none
  enum : mg "enumerate" = none
  list : mg "list" = none
  lcm : mg "lcm" = some (.builtin "math.lcm")
section
variable {X : Cx} {z : Z} {es : List Sl} {s s1 s2 : S} {iter elt a b e : Expr} {ds : List PyData} {o : Out} {rest : List Stmt} {pos p p1 p2 p3 : Pos}
/-- y = [e for x in a tuple] -/
theorem sr_lcFT {j k : Nat} {x y : Str} {scope : Scope} {py spos : Pos} (hc : X.calm = true) (hN : X.N.Nodup) (f : PyData → PyData) (hit : EV X z iter es s (.tuple ds) s) (hl : ds.length ≤ 100000) (hB : BlkOk X.N X.env.scope scope [(x, j)]) (hg : PgIn X scope (.Name x p) (gName j))
    (He : ∀ d ∈ ds, ∀ z' : Z, Blk X scope fun Y => EV Y z' elt (es.set j (.val d)) s (f d) s) (kk : SR X z rest (es.set k (.val (.list (ds.map f)))) s o) (hi : X.N[k]? = some y := by rfl) (hy : List.lookup y X.env.scope.names = some NameKind.local := by rfl)
    (hsw : swapsWith (.ListComp elt [{ target := .Name x p, iter := iter, ifs := [], is_async := 0 }] scope pos) (some (.Name y py)) spos.line X.env = pure true := by exact sw_true rfl rfl rfl (by decide +kernel)) (hs : ∀ x, foldedSetIterable iter X.env x = pure x := by intro _; rfl) :
    SR X z (.Assign [.Name y py] (.ListComp elt [{ target := .Name x p, iter := iter, ifs := [], is_async := 0 }] scope pos) spos :: rest) es s o := fun σ H en at_ D q =>
  ⟨_, pss_cons (ps_setLc (i := k) (own := [(x, j)]) hc hN hi hy hsw (pi_tup wE_ok) hB hg (fun _ _ _ _ _ => pts_nil) tEl_ok hs) wB_ok, by
    refine hit σ H en at_ _ fun v H1 e1 a1 v1 => ?_
    cases v1 with
    | @tup a xs _ fa ha r =>
      have hx : xs.length = ds.length := r.length
      have g : ∀ i, i < xs.length → ds[i]? = some (ds.getD i .none) := fun i hi => by
        rw [List.getD_eq_getElem?_getD, List.getElem?_eq_getElem (by omega)]
        rfl
      refine ⟨a, rfl, ⟨xs, .inl (.inl ha)⟩, fun D' hD => ?_⟩
      refine lc_gen (walk_tup (K := X.K) (a := a) (xs := xs)) (fun _ => s) (fun _ => s) (en.mono e1) a1 hD (fun i => ds.getD i .none) (fun H' e => .inl (.inl (e a _ fa ha))) (fun i x H' H2 hi hy => ⟨hy.1, ?_⟩) (by omega) (fun _ => true) (fun i => (ds.take i).map f) rfl (fun z' i hi σ H en at_ Q q => q H (.refl H) at_)
        (fun z' i hi _ => ⟨f (ds.getD i .none), take_succ (g i hi), fun σ H en at_ Q q s0 H0 C cl fp => He _ (List.mem_of_getElem? (g i hi)) z' s0 H0 C cl fp σ H en at_ Q q⟩) (fun i _ h => by cases h) (fun H' e a2 d2 => ?_)
      · obtain ⟨d, hd, hv⟩ := r.getV i x hy.2
        have := g i hi
        rw [hd] at this
        rw [← Option.some.inj this]
        exact hv
      · rw [hx, List.take_length] at d2
        exact kk _ H' ((en.mono (e1.trans e)).set k (.val d2)) a2 D (q.mono (e1.trans e))⟩
end
/-- ints as data -/
def iD (W : List Int) : List PyData := W.map .int
theorem iD_get {W : List Int} {i : Nat} {d : PyData} (h : (iD W)[i]? = some d) : ∃ w, W[i]? = some w ∧ d = .int w := by
  unfold iD at h
  rw [List.getElem?_map] at h
  cases hw : W[i]? with
  | none => rw [hw] at h; cases h
  | some w => rw [hw] at h; exact ⟨w, rfl, (Option.some.inj h).symm⟩
theorem iD_mem {W : List Int} {d : PyData} (h : d ∈ iD W) : ∃ w ∈ W, d = .int w := by
  obtain ⟨w, hw, rfl⟩ := List.mem_map.mp h
  exact ⟨w, hw, rfl⟩
theorem iD_len {W : List Int} : (iD W).length = W.length := List.length_map ..
theorem cut_to {ds : List PyData} {m : Nat} (h : m ≤ ds.length) : DL.cutD ds none (some (m : Int)) = ds.take m := by
  unfold DL.cutD
  rw [HT.sIx_none, HT.sIx_nat, List.drop_zero, Nat.sub_zero, Nat.min_eq_left h]
theorem cut_from {ds : List PyData} {m : Nat} : DL.cutD ds (some (m : Int)) none = ds.drop m := by
  unfold DL.cutD
  rw [HT.sIx_none, HT.sIx_nat]
  by_cases h : m ≤ ds.length
  · rw [Nat.min_eq_left h, List.take_of_length_le (by rw [List.length_drop]; exact Nat.le_refl _)]
  · rw [Nat.min_eq_right (by omega), Nat.sub_self, List.take_zero, List.drop_eq_nil_of_le (by omega)]
/-- the numbers of a row, as data -/
def NmQ (d : PyData) (q : Rat) : Prop := Nm d q.num (q.den : Int)
inductive NmL : List PyData → List Rat → Prop
  | nil : NmL [] []
  | cons {d : PyData} {q : Rat} {ds : List PyData} {p : List Rat} : NmQ d q → NmL ds p → NmL (d :: ds) (q :: p)
theorem NmL.length {ds : List PyData} {p : List Rat} (h : NmL ds p) : ds.length = p.length := by
  induction h with
  | nil => rfl
  | cons _ _ ih => rw [List.length_cons, List.length_cons, ih]
theorem NmL.mem {ds : List PyData} {p : List Rat} (h : NmL ds p) {d : PyData} (hd : d ∈ ds) : ∃ q ∈ p, NmQ d q := by
  induction h with
  | nil => cases hd
  | @cons e q _ _ h1 h2 ih =>
    rcases List.mem_cons.mp hd with rfl | hd
    · exact ⟨q, List.mem_cons_self .., h1⟩
    · obtain ⟨r, hr, h⟩ := ih hd
      exact ⟨r, List.mem_cons_of_mem _ hr, h⟩
def pairOf : PyData → PyData
  | .int t => .tuple [.int t, .int 1]
  | d => d
theorem NmQ.pair {d : PyData} {q : Rat} (h : NmQ d q) : pairOf d = cD q := by
  unfold NmQ at h
  unfold cD
  generalize q.num = t at *
  generalize (q.den : Int) = b at *
  cases h <;> rfl
theorem NmL.pairs {ds : List PyData} {p : List Rat} (h : NmL ds p) : ds.map pairOf = p.map cD := by
  induction h with
  | nil => rfl
  | cons h1 _ ih => rw [List.map_cons, List.map_cons, h1.pair, ih]
/-- the common bottom -/
def cmF : Nat → List Rat → Nat
  | c, [] => c
  | c, q :: p => cmF (Nat.lcm c q.den) p
def cm (p : List Rat) : Nat := cmF 1 p
/-- the tops over it -/
def wr (p : List Rat) : List Int := p.map fun q => q.num * ((cm p / q.den : Nat) : Int)
theorem cmF_dvd {M : Nat} : ∀ {p : List Rat} {c : Nat}, c ∣ M → (∀ q ∈ p, q.den ∣ M) → cmF c p ∣ M
  | [], _, h, _ => h
  | q :: p, c, h, k => by rw [cmF]; exact cmF_dvd (Nat.lcm_dvd h (k q (List.mem_cons_self ..))) fun q hq => k q (List.mem_cons_of_mem _ hq)
theorem dvd_cmF : ∀ {p : List Rat} {c d : Nat}, d ∣ c → d ∣ cmF c p
  | [], _, _, h => h
  | q :: p, c, d, h => by rw [cmF]; exact dvd_cmF (Nat.dvd_trans h (Nat.dvd_lcm_left ..))
theorem den_cmF : ∀ {p : List Rat} {c : Nat} {q : Rat}, q ∈ p → q.den ∣ cmF c p
  | r :: p, c, q, h => by
    rw [cmF]
    rcases List.mem_cons.mp h with rfl | h
    · exact dvd_cmF (Nat.dvd_lcm_right ..)
    · exact den_cmF h
theorem cmF_take_succ : ∀ {p : List Rat} {c : Nat} {i : Nat} {q : Rat}, p[i]? = some q → cmF c (p.take (i + 1)) = Nat.lcm (cmF c (p.take i)) q.den
  | [], _, _, _, h => by simp at h
  | r :: p, c, 0, q, h => by
    cases Option.some.inj h
    rfl
  | r :: p, c, i + 1, q, h => by
    rw [List.take_succ_cons, List.take_succ_cons, cmF, cmF]
    exact cmF_take_succ h
/-- what a row may be -/
structure RowOk (p : List Rat) (M A : Nat) : Prop where
  m : M ≠ 0
  m2 : M < 2 ^ 40
  a : A * M < 2 ^ 2900
  sz : PSz M A p
  len : p.length ≤ 60
theorem RowOk.cmd {p : List Rat} {M A : Nat} (h : RowOk p M A) : cm p ∣ M := cmF_dvd (Nat.one_dvd _) fun q hq => (h.sz q hq).den h.m
theorem RowOk.cm0 {p : List Rat} {M A : Nat} (h : RowOk p M A) : cm p ≠ 0 := fun e => by
  have := h.cmd
  rw [e] at this
  exact h.m (Nat.eq_zero_of_zero_dvd this)
theorem RowOk.cmB {p : List Rat} {M A : Nat} (h : RowOk p M A) : Bd 40 (cm p : Int) := by
  have := Nat.le_of_dvd (Nat.pos_of_ne_zero h.m) h.cmd
  have := h.m2
  unfold Bd
  omega
theorem RowOk.num {p : List Rat} {M A : Nat} (h : RowOk p M A) {q : Rat} (hq : q ∈ p) : Bd 2900 q.num := Nat.lt_of_le_of_lt ((h.sz q hq).num h.m) h.a
section
variable {P : Program} {w : World} {K : PySem.W.Frag} {mg : Str → Option Value} {base : Heap} {f : Addr} {fd : FuncData}

abbrev sWRow : Stmt := top 20
theorem scWRow : FnScope ["row", "pairs", "common", "_", "bottom", "number", "top"] ["row"] (defScope sWRow) := ⟨rfl, rfl, rfl, by decide +kernel, rfl, by decide +kernel, by decide +kernel⟩
def rWRow : Rel := fun as s d s' => ∃ ds p M A, as = [.val (.tuple ds)] ∧ NmL ds p ∧ RowOk p M A ∧ d = .tuple [.list (iD (wr p)), .int (cm p : Int)] ∧ s' = s
theorem ok_wrow (F : Fun K "whole_row" "whole_row" sWRow f fd) (T : Top mg) (T8 : Top8 mg) (G : Dn P w K mg base 1 "as_pair" rPair) : FnOk P w K mg base CX0 2 f fd ["row"] (spD rWRow) := by
  refine okD F scWRow (by rintro _ _ _ _ ⟨ds, p, M, A, rfl, _⟩; rfl) fun cdv A0 outer s0 H0 E C z as s₁ d s h => ?_
  obtain ⟨ds, p, M, A, rfl, hp, ok, rfl, rfl⟩ := h
  have hl := hp.length
  have h60 := ok.len
  have ps : ds.map pairOf = (p.map fun q => ((PyData.int q.num, PyData.int (q.den : Int)) : PyData × PyData)).map fun q => .tuple [q.1, q.2] := by
    rw [hp.pairs, List.map_map]
    rfl
  refine sr_lcFT (j := 5) (k := 1) C.calm C.nd pairOf (ev_var 0) (by omega) (blkOk_by (N := ["row", "pairs", "common", "_", "bottom", "number", "top"]) (sc := defScope sWRow) (own := [("number", 5)]) (by decide +kernel)) (fun _ _ _ _ _ => pg_name C.nd rfl (Or.inl rfl)) (fun d hd z' s0 H0 C' cl fp => ?_) ?_
  · obtain ⟨q, hq, hn⟩ := hp.mem hd
    exact ev_call G C.hr (ea_cons (ev_var 5) ea_nil) ⟨_, _, _, rfl, hn, by rw [hn.pair]; rfl, rfl⟩
  · rw [ps]
    refine sr_asg 2 C.nd ev_int ?_
    refine sr_forP 3 4 C.hp C.calm C.nd _ (ev_var 1) (fun i => [.val (.tuple ds), .val (.list ((p.map fun q => ((PyData.int q.num, PyData.int (q.den : Int)) : PyData × PyData)).map fun q => .tuple [q.1, q.2])), .val (.int (cmF 1 (p.take i) : Int)), .un, .un, .un, .un]) (fun _ => s)
      (by exact Le.refl _) rfl (fun i q hq => ?_) ?_ (pg_tup C.calm (pgs_cons (pg_name C.nd rfl (.inl rfl)) (pgs_cons (pg_name C.nd rfl (.inl rfl)) pgs_nil)))
    · rw [List.getElem?_map] at hq
      cases hr : p[i]? with
      | none => rw [hr] at hq; cases hq
      | some r =>
        rw [hr] at hq
        cases Option.some.inj hq
        have hm := List.mem_of_getElem? hr
        have b1 : cmF 1 (p.take i) ∣ M := cmF_dvd (Nat.one_dvd _) fun q hq => (ok.sz q (List.mem_of_mem_take hq)).den ok.m
        have b2 := Nat.le_of_dvd (Nat.pos_of_ne_zero ok.m) b1
        have b3 := (ok.sz r hm).denLe ok.m
        have b4 := ok.m2
        refine sr_asg 2 C.nd (EV.is (ev_bfun cr_lcm (rb_lcm (i := (cmF 1 (p.take i) : Int)) (j := (r.den : Int)) (by omega) (by omega)) T8.lcm (ed_cons (ev_var 2) (ed_cons (ev_var 4) ed_nil))) ?_) (sr_le sr_nil (.same (.same (.same (.un (.un (.un (.un .nil))))))))
        show PyData.int ((Nat.lcm (cmF 1 (p.take i)) r.den : Nat) : Int) = _
        rw [cmF_take_succ hr]
    · rw [List.length_map, List.take_length]
      refine sr_ret (ev_tup (ed_cons (EV.is (ev_lcP (j := 6) (k := 4) C.calm C.nd (by decide) _ (fun q => match q with | (.int t, .int b) => .int (t * ((cm p / b.natAbs : Nat) : Int)) | _ => .none) (ev_var 1) (by rw [List.length_map]; omega) (blkOk_by (N := ["row", "pairs", "common", "_", "bottom", "number", "top"]) (sc := defScope sWRow) (own := [("top", 6), ("bottom", 4)]) (by decide +kernel))
        (fun _ _ _ _ _ => pg_tup C.calm (pgs_cons (pg_name C.nd rfl (Or.inl rfl)) (pgs_cons (pg_name C.nd rfl (Or.inl rfl)) pgs_nil))) (fun q hq z' s0 H0 C' cl fp => ?_)) ?_) (ed_cons (ev_var 2) ed_nil)))
      · obtain ⟨r, hr, rfl⟩ := List.mem_map.mp hq
        have b3 := (ok.sz r hr).denLe ok.m
        have b4 := ok.m2
        have bD : Bd 40 (r.den : Int) := by
          unfold Bd
          omega
        have d0 := den_pos r
        have e1 : ((cm p : Int)).fdiv (r.den : Int) = ((cm p / r.den : Nat) : Int) := by
          rw [Int.fdiv_eq_ediv_of_nonneg _ (by omega)]
          rfl
        have bq : Bd 40 ((cm p / r.den : Nat) : Int) := by
          have h4 := ok.cmB
          have h3 : cm p / r.den ≤ cm p := Nat.div_le_self ..
          unfold Bd at *
          rw [Int.natAbs_natCast] at h4 ⊢
          exact Nat.lt_of_le_of_lt h3 h4
        exact ev_mul ((ok.num hr).cmul bq) (ev_var 6) (EV.is (ev_div (bD.cdiv (by omega)) (ev_var 2) (ev_var 4)) (by show PyData.int ((cm p : Int).fdiv (r.den : Int)) = .int ((cm p / (r.den : Int).natAbs : Nat) : Int); rw [e1, Int.natAbs_natCast]))
      · unfold iD wr
        rw [List.map_map, List.map_map]
        rfl
end
end K3


set_option Elab.async false
set_option linter.all false
set_option maxRecDepth 100000
set_option exponentiation.threshold 9000
namespace K3
open PySem PySem.Spec PyProof.Rows L2 DL PM
section
variable {X : Cx} {z : Z} {es : List Sl} {s s1 s2 s3 : S} {a b c : Expr} {pos : Pos} {d : PyData}
theorem et_chainI {i j l : Int} (ha : EV X z a es s (.int i) s1) (hb : EV X z b es s1 (.int j) s2) (hc : EV X z c es s2 (.int l) s2) (hm : lastMarks [.LtE, .LtE] [b, c] = false := by with_unfolding_all rfl) : ET X z (.Compare a [.LtE, .LtE] [b, c] pos) es s (decide (i ≤ j) && decide (j ≤ l)) s2 :=
  fun σ H en at_ Q q => ⟨_, pt_chain op_le op_le wE_ok wE_ok wE_ok hm, ha σ H en at_ _ fun x H1 e1 a1 x1 => hb σ H1 (en.mono e1) a1 _ fun y H2 e2 a2 y2 => by
    cases x1
    cases y2
    refine ⟨i, j, rfl, rfl, decide (i ≤ j), rfl, ?_⟩
    cases hk : decide (i ≤ j) with
    | true =>
      refine iteT (hc σ H2 (en.mono (e1.trans e2)) a2 _ fun w H3 e3 a3 w3 => ?_)
      cases w3
      exact ⟨j, l, rfl, rfl, _, rfl, by rw [hk] at q; exact q H3 ((e1.trans e2).trans e3) a3⟩
    | false => exact iteF ⟨false, rfl, by rw [hk] at q; exact q H2 (e1.trans e2) a2⟩⟩
end
section
variable {P : Program} {w : World} {K : PySem.W.Frag} {mg : Str → Option Value} {base : Heap} {f : Addr} {fd : FuncData}
/-- the data of a table's rows -/
inductive TbL : List PyData → List (List Rat) → Prop
  | nil : TbL [] []
  | cons {ds : List PyData} {p : List Rat} {es : List PyData} {t : List (List Rat)} : NmL ds p → TbL es t → TbL (.tuple ds :: es) (p :: t)
theorem TbL.length {es : List PyData} {t : List (List Rat)} (h : TbL es t) : es.length = t.length := by
  induction h with
  | nil => rfl
  | cons _ _ ih => rw [List.length_cons, List.length_cons, ih]
theorem TbL.mem {es : List PyData} {t : List (List Rat)} (h : TbL es t) {d : PyData} (hd : d ∈ es) : ∃ ds, ∃ p ∈ t, d = .tuple ds ∧ NmL ds p := by
  induction h with
  | nil => cases hd
  | @cons ds p _ _ h1 h2 ih =>
    rcases List.mem_cons.mp hd with rfl | hd
    · exact ⟨ds, p, List.mem_cons_self .., rfl, h1⟩
    · obtain ⟨ds, q, hq, h⟩ := ih hd
      exact ⟨ds, q, List.mem_cons_of_mem _ hq, h⟩
/-- the told table -/
def tD (t : List (List Rat)) : PyData := .tuple (t.map fun p => .tuple (p.map cD))
def rowPairs : PyData → PyData
  | .tuple ds => .tuple (ds.map pairOf)
  | d => d
theorem TbL.pairs {es : List PyData} {t : List (List Rat)} (h : TbL es t) : es.map rowPairs = t.map fun p => .tuple (p.map cD) := by
  induction h with
  | nil => rfl
  | cons h1 _ ih => rw [List.map_cons, List.map_cons, ih]; show PyData.tuple _ :: _ = _; rw [h1.pairs]
abbrev sFrs : Stmt := top 28
theorem scFrs : FnScope ["table", "row", "entry"] ["table"] (defScope sFrs) := ⟨rfl, rfl, rfl, by decide +kernel, rfl, by decide +kernel, by decide +kernel⟩
def rFrs : Rel := fun as s d s' => ∃ es t, as = [.val (.tuple es)] ∧ TbL es t ∧ t.length ≤ 100 ∧ (∀ p ∈ t, p.length ≤ 100) ∧ d = tD t ∧ s' = s
theorem ok_frs (F : Fun K "_fractions" "_fractions" sFrs f fd) (T : Top mg) (G : Dn P w K mg base 1 "as_pair" rPair) : FnOk P w K mg base CX0 2 f fd ["table"] (spD rFrs) := by
  refine okD F scFrs (by rintro _ _ _ _ ⟨es, t, rfl, _⟩; rfl) fun cdv A0 outer s0 H0 E C z as s₁ d s h => ?_
  obtain ⟨es, t, rfl, ht, hl, hw, rfl, rfl⟩ := h
  have hlen := ht.length
  have e : tD t = .tuple (es.map rowPairs) := by
    rw [ht.pairs]
    rfl
  rw [e]
  refine sr_ret (ev_bty call_tuple_of rb_tuple T.tuple (ed_cons (ev_lcFT (j := 1) C.calm C.nd rowPairs (ev_var 0) (by omega) (blkOk_by (N := ["table", "row", "entry"]) (sc := defScope sFrs) (own := [("row", 1)]) (by decide +kernel)) (fun _ _ _ _ _ => pg_name C.nd rfl (Or.inl rfl)) (fun d hd z' s0 H0 C' cl fp => ?_)) ed_nil))
  obtain ⟨ds, p, hp, rfl, hn⟩ := ht.mem hd
  have lp := hw p hp
  have hl2 := hn.length
  refine ev_bty call_tuple_of rb_tuple T.tuple (ed_cons (ev_lcFT (j := 2) (by exact C.calm) (by exact C.nd) pairOf (ev_var 1) (by omega) (blkOk_by (N := ["table", "row", "entry"]) (own := [("entry", 2)]) (by rfl)) (fun _ _ _ _ _ => pg_name (by exact C.nd) rfl (Or.inl rfl)) (fun d hd z'' s0' H0' C'' cl' fp' => ?_)) ed_nil)
  obtain ⟨q, hq, hq2⟩ := hn.mem hd
  exact ev_call G C.hr (ea_cons (ev_var 2) ea_nil) ⟨_, _, _, rfl, hq2, by rw [hq2.pair]; rfl, rfl⟩
/-- what is_row and is_table say -/
def isR : PyData → Bool
  | .tuple ds => (decide (1 ≤ (ds.length : Int)) && decide ((ds.length : Int) ≤ 40)) && ds.all num
  | _ => false
theorem isR_tup (ds : List PyData) : isR (.tuple ds) = ((decide (1 ≤ (ds.length : Int)) && decide ((ds.length : Int) ≤ 40)) && ds.all num) := rfl
structure Top3 (mg : Str → Option Value) : Prop where
  side : ∃ t, mg "MAX_SIDE" = some (.int 40 t)
abbrev sIsR : Stmt := top 23
theorem scIsR : FnScope ["value", "entry"] ["value"] (defScope sIsR) := ⟨rfl, rfl, rfl, by decide +kernel, rfl, by decide +kernel, by decide +kernel⟩
def rIsR : Rel := fun as s d s' => ∃ v, as = [.val v] ∧ d = .bool (isR v) ∧ s' = s
theorem ok_isr (F : Fun K "is_row" "is_row" sIsR f fd) (T : Top mg) (T3 : Top3 mg) (G1 : Dn P w K mg base 3 "is_number" rNumber) : FnOk P w K mg base CX0 4 f fd ["value"] (spD rIsR) := by
  refine okD F scIsR (by rintro _ _ _ _ ⟨v, rfl, _⟩; rfl) fun cdv A0 outer s0 H0 E C z as s₁ d s h => ?_
  obtain ⟨v, rfl, rfl, rfl⟩ := h
  obtain ⟨tg, hs⟩ := T3.side
  have bad : (∀ xs, v ≠ .tuple xs) → SR (cxOf CX0 P w K mg base ["value", "entry"] "is_row" (defScope sIsR) f cdv A0 outer s0 H0 E).nox z (defBody sIsR) [.val v, .un] s (.rt (.bool false) s) := fun hv =>
    sr_ifT (et_w (ew_orT (et_notT (et_val (ev_isi T.isi T.tuple (ev_var 0) (by rw [k_tuple]; cases v <;> first | rfl | exact absurd rfl (hv _))))))) (sr_ret ev_bl)
  match v, bad with
  | .int i, bad => exact bad (fun _ h => by cases h)
  | .none, bad => exact bad (fun _ h => by cases h)
  | .bool _, bad => exact bad (fun _ h => by cases h)
  | .str _, bad => exact bad (fun _ h => by cases h)
  | .list _, bad => exact bad (fun _ h => by cases h)
  | .dict _, bad => exact bad (fun _ h => by cases h)
  | .tuple ds, _ =>
    rw [isR_tup]
    have t0 : ∀ {k : Bool}, (!(decide (1 ≤ (ds.length : Int)) && decide ((ds.length : Int) ≤ 40))) = k → ET (cxOf CX0 P w K mg base ["value", "entry"] "is_row" (defScope sIsR) f cdv A0 outer s0 H0 E).nox z (match (defBody sIsR)[0]? with | some (Stmt.If e _ _ _) => e | _ => .Constant .none 0 ⟨0, 0, 0, 0⟩) [.val (.tuple ds), .un] s k s := fun hk =>
      et_w (ew_orF (et_notF (et_val (ev_isi T.isi T.tuple (ev_var 0) (k_tuple (.tuple ds))))) (ew_or1 (ET.is (et_not (et_chainI ev_int (ev_bltn call_len rb_lenT T.len (ed_cons (ev_var 0) ed_nil)) (ev_glob rfl hs ⟨tg, rfl⟩))) hk)))
    cases hb : (decide (1 ≤ (ds.length : Int)) && decide ((ds.length : Int) ≤ 40)) with
    | false =>
      rw [Bool.false_and]
      exact sr_ifT (t0 (by rw [hb]; rfl)) (sr_ret ev_bl)
    | true =>
      rw [Bool.true_and]
      have hl : ds.length ≤ 40 := by
        rw [Bool.and_eq_true, decide_eq_true_eq, decide_eq_true_eq] at hb
        omega
      refine sr_ifF (t0 (by rw [hb]; rfl)) ?_
      have e1 : (PyData.list (ds.map fun d => .bool (num d))) = .list ((ds.map num).map .bool) := by
        rw [List.map_map]
        rfl
      have e2 : (ds.map num).all id = ds.all num := by
        rw [List.all_map]
        rfl
      refine sr_ret (EV.is (ev_bltn (cr_all C.calm) (rb_all (bs := ds.map num)) T.all (ed_cons (EV.is (ev_lcFT (j := 1) C.calm C.nd (fun d => .bool (num d)) (ev_var 0) (by omega) (blkOk_by (N := ["value", "entry"]) (sc := defScope sIsR) (own := [("entry", 1)]) (by decide +kernel)) (fun _ _ _ _ _ => pg_name C.nd rfl (Or.inl rfl)) (fun d hd z' s0 H0 C' cl fp => ?_)) e1) ed_nil)) (by rw [e2]))
      exact ev_call G1 C.hr (ea_cons (ev_var 1) ea_nil) ⟨_, rfl, rfl, rfl⟩
end
end K3


set_option Elab.async false
set_option linter.all false
set_option maxRecDepth 100000
set_option exponentiation.threshold 9000
namespace K3
open PySem PySem.Spec PyProof.Rows L2 DL PM
/-- a row's length -/
def lnR : PyData → Int
  | .tuple ds => (ds.length : Int)
  | _ => 0
def isT : PyData → Bool
  | .tuple ds => (decide (1 ≤ (ds.length : Int)) && decide ((ds.length : Int) ≤ 40)) && (ds.all isR && ds.all fun d => decide (lnR d = lnR (ds.getD 0 .none)))
  | _ => false
theorem isT_tup (ds : List PyData) : isT (.tuple ds) = ((decide (1 ≤ (ds.length : Int)) && decide ((ds.length : Int) ≤ 40)) && (ds.all isR && ds.all fun d => decide (lnR d = lnR (ds.getD 0 .none)))) := rfl
theorem isR_is {d : PyData} (h : isR d = true) : ∃ xs, d = .tuple xs := by
  cases d <;> first | exact ⟨_, rfl⟩ | cases h
/-- the data of a table of so many columns -/
structure TabD (es : List PyData) (t : List (List Rat)) (m : Nat) : Prop where
  l : TbL es t
  n0 : 1 ≤ t.length
  n : t.length ≤ 40
  m0 : 1 ≤ m
  m1 : m ≤ 40
  w : ∀ p ∈ t, p.length = m
theorem NmL.isR {ds : List PyData} {p : List Rat} (h : NmL ds p) (h0 : 1 ≤ p.length) (h1 : p.length ≤ 40) : K3.isR (.tuple ds) = true := by
  have hl := h.length
  rw [isR_tup, decide_eq_true (by omega), decide_eq_true (by omega)]
  rw [Bool.true_and, Bool.true_and]
  exact List.all_eq_true.mpr fun d hd => by
    obtain ⟨q, _, hn⟩ := h.mem hd
    exact Nm.num hn
theorem TabD.isT {es : List PyData} {t : List (List Rat)} {m : Nat} (h : TabD es t m) : K3.isT (.tuple es) = true := by
  have hl := h.l.length
  have n0 := h.n0
  have n1 := h.n
  have a1 : es.all K3.isR = true := List.all_eq_true.mpr fun d hd => by
    obtain ⟨ds, p, hp, rfl, hn⟩ := h.l.mem hd
    have := h.w p hp
    exact hn.isR (by rw [this]; exact h.m0) (by rw [this]; exact h.m1)
  have ln : ∀ d ∈ es, lnR d = (m : Int) := fun d hd => by
    obtain ⟨ds, p, hp, rfl, hn⟩ := h.l.mem hd
    show ((ds.length : Nat) : Int) = _
    rw [hn.length, h.w p hp]
  have l0 : lnR (es.getD 0 .none) = (m : Int) := by
    cases es with
    | nil => simp at hl; omega
    | cons d es => exact ln d (List.mem_cons_self ..)
  rw [isT_tup, decide_eq_true (by omega), decide_eq_true (by omega), a1]
  rw [Bool.true_and, Bool.true_and, Bool.true_and]
  exact List.all_eq_true.mpr fun d hd => decide_eq_true (by rw [ln d hd, l0])
section
variable {P : Program} {w : World} {K : PySem.W.Frag} {mg : Str → Option Value} {base : Heap} {f : Addr} {fd : FuncData}
abbrev sIsT : Stmt := top 24
theorem scIsT : FnScope ["value", "row"] ["value"] (defScope sIsT) := ⟨rfl, rfl, rfl, by decide +kernel, rfl, by decide +kernel, by decide +kernel⟩
def rIsT : Rel := fun as s d s' => ∃ v, as = [.val v] ∧ d = .bool (isT v) ∧ s' = s
theorem ok_ist (F : Fun K "is_table" "is_table" sIsT f fd) (T : Top mg) (T3 : Top3 mg) (G1 : Dn P w K mg base 4 "is_row" rIsR) : FnOk P w K mg base CX0 5 f fd ["value"] (spD rIsT) := by
  refine okD F scIsT (by rintro _ _ _ _ ⟨v, rfl, _⟩; rfl) fun cdv A0 outer s0 H0 E C z as s₁ d s h => ?_
  obtain ⟨v, rfl, rfl, rfl⟩ := h
  obtain ⟨tg, hs⟩ := T3.side
  have bad : (∀ xs, v ≠ .tuple xs) → SR (cxOf CX0 P w K mg base ["value", "row"] "is_table" (defScope sIsT) f cdv A0 outer s0 H0 E).nox z (defBody sIsT) [.val v, .un] s (.rt (.bool false) s) := fun hv =>
    sr_ifT (et_w (ew_orT (et_notT (et_val (ev_isi T.isi T.tuple (ev_var 0) (by rw [k_tuple]; cases v <;> first | rfl | exact absurd rfl (hv _))))))) (sr_ret ev_bl)
  match v, bad with
  | .int i, bad => exact bad (fun _ h => by cases h)
  | .none, bad => exact bad (fun _ h => by cases h)
  | .bool _, bad => exact bad (fun _ h => by cases h)
  | .str _, bad => exact bad (fun _ h => by cases h)
  | .list _, bad => exact bad (fun _ h => by cases h)
  | .dict _, bad => exact bad (fun _ h => by cases h)
  | .tuple ds, _ =>
    rw [isT_tup]
    have t0 : ∀ {k : Bool}, (!(decide (1 ≤ (ds.length : Int)) && decide ((ds.length : Int) ≤ 40))) = k → ET (cxOf CX0 P w K mg base ["value", "row"] "is_table" (defScope sIsT) f cdv A0 outer s0 H0 E).nox z (match (defBody sIsT)[0]? with | some (Stmt.If e _ _ _) => e | _ => .Constant .none 0 ⟨0, 0, 0, 0⟩) [.val (.tuple ds), .un] s k s := fun hk =>
      et_w (ew_orF (et_notF (et_val (ev_isi T.isi T.tuple (ev_var 0) (k_tuple (.tuple ds))))) (ew_or1 (ET.is (et_not (et_chainI ev_int (ev_bltn call_len rb_lenT T.len (ed_cons (ev_var 0) ed_nil)) (ev_glob rfl hs ⟨tg, rfl⟩))) hk)))
    have all_of : ∀ (g : PyData → Bool), (PyData.list (ds.map fun d => .bool (g d))) = .list ((ds.map g).map .bool) ∧ (ds.map g).all id = ds.all g := fun g => ⟨by rw [List.map_map]; rfl, by rw [List.all_map]; rfl⟩
    cases hb : (decide (1 ≤ (ds.length : Int)) && decide ((ds.length : Int) ≤ 40)) with
    | false =>
      rw [Bool.false_and]
      exact sr_ifT (t0 (by rw [hb]; rfl)) (sr_ret ev_bl)
    | true =>
      rw [Bool.true_and]
      rw [Bool.and_eq_true, decide_eq_true_eq, decide_eq_true_eq] at hb
      refine sr_ifF (t0 (by rw [decide_eq_true hb.1, decide_eq_true hb.2]; rfl)) ?_
      have rows : EV (cxOf CX0 P w K mg base ["value", "row"] "is_table" (defScope sIsT) f cdv A0 outer s0 H0 E).nox z (match (defBody sIsT)[1]? with | some (Stmt.If (Expr.UnaryOp _ e _) _ _ _) => e | _ => .Constant .none 0 ⟨0, 0, 0, 0⟩) [.val (.tuple ds), .un] s (.bool (ds.all isR)) s := by
        refine EV.is (ev_bltn (cr_all C.calm) (rb_all (bs := ds.map isR)) T.all (ed_cons (EV.is (ev_lcFT (j := 1) C.calm C.nd (fun d => .bool (isR d)) (ev_var 0) (by omega) (blkOk_by (N := ["value", "row"]) (sc := defScope sIsT) (own := [("row", 1)]) (by decide +kernel)) (fun _ _ _ _ _ => pg_name C.nd rfl (Or.inl rfl)) (fun d hd z' s0 H0 C' cl fp => ?_)) (all_of isR).1) ed_nil)) (by rw [(all_of isR).2])
        exact ev_call G1 C.hr (ea_cons (ev_var 1) ea_nil) ⟨_, rfl, rfl, rfl⟩
      cases ha : ds.all isR with
      | false =>
        rw [Bool.false_and]
        rw [ha] at rows
        exact sr_ifT (et_notT (et_val rows)) (sr_ret ev_bl)
      | true =>
        rw [Bool.true_and]
        rw [ha] at rows
        refine sr_ifF (et_notF (et_val rows)) ?_
        obtain ⟨d0, hd0⟩ : ∃ d, ds[0]? = some d := ⟨_, List.getElem?_eq_getElem (by omega)⟩
        have e0 : ds.getD 0 .none = d0 := by
          rw [List.getD_eq_getElem?_getD, hd0]
          rfl
        rw [e0]
        obtain ⟨x0, rfl⟩ := isR_is (List.all_eq_true.mp ha d0 (List.mem_of_getElem? hd0))
        refine sr_ret (EV.is (ev_bltn (cr_all C.calm) (rb_all (bs := ds.map fun d => decide (lnR d = lnR (.tuple x0)))) T.all (ed_cons (EV.is (ev_lcFT (j := 1) C.calm C.nd (fun d => .bool (decide (lnR d = lnR (.tuple x0)))) (ev_var 0) (by omega) (blkOk_by (N := ["value", "row"]) (sc := defScope sIsT) (own := [("row", 1)]) (by decide +kernel)) (fun _ _ _ _ _ => pg_name C.nd rfl (Or.inl rfl)) (fun d hd z' s0 H0 C' cl fp => ?_)) (all_of _).1) ed_nil)) (by rw [(all_of _).2]))
        obtain ⟨xs, rfl⟩ := isR_is (List.all_eq_true.mp ha d hd)
        exact ev_eqI C.hu (ev_bltn call_len rb_lenT T.len (ed_cons (ev_var 1) ed_nil)) (ev_bltn call_len rb_lenT T.len (ed_cons (ev_ixT (i := 0) (ev_var 0) ev_int (atI_nat (j := 0) hd0)) ed_nil))
abbrev sNT : Stmt := top 25
theorem scNT : FnScope ["value"] ["value"] (defScope sNT) := ⟨rfl, rfl, rfl, by decide +kernel, rfl, by decide +kernel, by decide +kernel⟩
def rNT : Rel := fun as s d s' => ∃ es t m, as = [.val (.tuple es)] ∧ TabD es t m ∧ d = .none ∧ s' = s
theorem ok_nt (F : Fun K "_need_table" "_need_table" sNT f fd) (G : Dn P w K mg base 5 "is_table" rIsT) : FnOk P w K mg base CX0 6 f fd ["value"] (spD rNT) := by
  refine okN F scNT (by rintro _ _ _ _ ⟨es, t, m, rfl, _⟩; rfl) fun cdv A outer s0 H0 E C z as s₁ d s h => ?_
  obtain ⟨es, t, m, rfl, hp, rfl, rfl⟩ := h
  exact ⟨rfl, _, sr_ifF (et_notF (et_val (ev_call G C.hr (ea_cons (ev_var 0) ea_nil) ⟨_, rfl, by rw [hp.isT], rfl⟩))) sr_nil⟩
end
end K3


set_option Elab.async false
set_option linter.all false
set_option maxRecDepth 100000
set_option exponentiation.threshold 9000
namespace K3
open PySem PySem.Spec PyProof.Rows L2 DL PM
/-- of at most 3000 bits -/
def Qb (q : Rat) : Prop := Bd 3000 q.num ∧ Bd 3000 (q.den : Int)
theorem Sz.qb {M A : Nat} {q : Rat} (h : Sz M A q) (hM : M ≠ 0) (k : A * M < 2 ^ 3000) (k2 : M < 2 ^ 3000) : Qb q := ⟨Nat.lt_of_le_of_lt (h.num hM) k, by
  have := h.denLe hM
  unfold Bd
  rw [Int.natAbs_natCast]
  exact Nat.lt_of_le_of_lt this k2⟩
theorem den_mul_ne (p q : Rat) : (p.den : Int) * (q.den : Int) ≠ 0 := by
  have h1 := den_pos p
  have h2 := den_pos q
  exact Int.mul_ne_zero (by omega) (by omega)
theorem nmq_cD (q : Rat) : NmQ (cD q) q := .fr (den_pos q) (by
  have := q.reduced
  unfold Nat.Coprime at this
  rwa [Int.natAbs_natCast])
theorem nml_cD : ∀ p : List Rat, NmL (p.map cD) p
  | [] => .nil
  | q :: p => .cons (nmq_cD q) (nml_cD p)
theorem tbl_cD : ∀ t : List (List Rat), TbL (t.map fun p => .tuple (p.map cD)) t
  | [] => .nil
  | p :: t => .cons (nml_cD p) (tbl_cD t)
theorem TbL.get {es : List PyData} {t : List (List Rat)} (h : TbL es t) {i : Nat} {d : PyData} (hd : es[i]? = some d) : ∃ ds p, t[i]? = some p ∧ d = .tuple ds ∧ NmL ds p := by
  induction h generalizing i with
  | nil => simp at hd
  | @cons ds p _ _ h1 h2 ih =>
    cases i with
    | zero =>
      cases hd
      exact ⟨ds, p, rfl, rfl, h1⟩
    | succ i => exact ih hd
theorem NmL.get {ds : List PyData} {p : List Rat} (h : NmL ds p) {i : Nat} {d : PyData} (hd : ds[i]? = some d) : ∃ q, p[i]? = some q ∧ NmQ d q := by
  induction h generalizing i with
  | nil => simp at hd
  | @cons d' q _ _ h1 h2 ih =>
    cases i with
    | zero =>
      cases hd
      exact ⟨q, rfl, h1⟩
    | succ i => exact ih hd
/-- the number that a datum is -/
def qOf : PyData → Rat
  | .int t => (t : Rat)
  | .tuple [.int t, .int b] => (t : Rat) / (b : Rat)
  | _ => 0
theorem NmQ.of {d : PyData} {q : Rat} (h : NmQ d q) : qOf d = q := by
  have hr := rat_eq q
  unfold NmQ at h
  generalize hn : q.num = t at h hr
  generalize hb : (q.den : Int) = b at h hr
  cases h with
  | int _ _ =>
    show (t : Rat) = q
    rw [← hr]
    grind
  | fr _ _ => exact hr
theorem cD_ne0 {q : Rat} : qOf (cD q) = q := (nmq_cD q).of
theorem cD_inj {p q : Rat} (h : cD p = cD q) : p = q := by
  rw [← cD_ne0 (q := p), h, cD_ne0]
section
variable {P : Program} {w : World} {K : PySem.W.Frag} {mg : Str → Option Value} {base : Heap} {f : Addr} {fd : FuncData}
abbrev sBtw : Stmt := top 9
theorem scBtw : FnScope ["value", "low", "high"] ["value", "low", "high"] (defScope sBtw) := ⟨rfl, rfl, rfl, by decide +kernel, rfl, by decide +kernel, by decide +kernel⟩
def rBtw : Rel := fun as s d s' => ∃ v l h : Int, as = [.val (.int v), .val (.int l), .val (.int h)] ∧ d = .bool (decide (l ≤ v) && decide (v ≤ h)) ∧ s' = s
theorem ok_btw (F : Fun K "is_between" "is_between" sBtw f fd) (G : Dn P w K mg base 1 "is_whole" rWhole) : FnOk P w K mg base CX0 2 f fd ["value", "low", "high"] (spD rBtw) := by
  refine okD F scBtw (by rintro _ _ _ _ ⟨v, l, h, rfl, _⟩; rfl) fun cdv A outer s0 H0 E C z as s₁ d s h => ?_
  obtain ⟨v, l, h, rfl, rfl, rfl⟩ := h
  exact sr_ret (ev_andT (ev_call G C.hr (ea_cons (ev_var 0) ea_nil) ⟨_, rfl, rfl, rfl⟩) (ev_b1 (et_chain (s3 := s) (ev_var 1) (ev_var 0) (ev_var 2))))
abbrev sParts : Stmt := top 16
theorem scParts : FnScope ["one", "other"] ["one", "other"] (defScope sParts) := ⟨rfl, rfl, rfl, by decide +kernel, rfl, by decide +kernel, by decide +kernel⟩
def rParts : Rel := fun as s d s' => ∃ v u p q, as = [.val v, .val u] ∧ NmQ v p ∧ NmQ u q ∧ d = .tuple [.int p.num, .int (p.den : Int), .int q.num, .int (q.den : Int)] ∧ s' = s
theorem ok_parts (F : Fun K "_parts" "_parts" sParts f fd) (G1 : Dn P w K mg base 4 "need_number" rNeed) (G2 : Dn P w K mg base 1 "as_pair" rPair) : FnOk P w K mg base CX0 5 f fd ["one", "other"] (spD rParts) := by
  refine okD F scParts (by rintro _ _ _ _ ⟨v, u, p, q, rfl, _⟩; rfl) fun cdv A outer s0 H0 E C z as s₁ d s h => ?_
  obtain ⟨v, u, p, q, rfl, hv, hu, rfl, rfl⟩ := h
  refine sr_expr (ev_call G1 C.hr (ea_cons (ev_var 0) ea_nil) ⟨_, rfl, hv.num, rfl, rfl⟩) (sr_expr (ev_call G1 C.hr (ea_cons (ev_var 1) ea_nil) ⟨_, rfl, hu.num, rfl, rfl⟩) ?_)
  exact sr_ret (ev_catT (ds := [.int p.num, .int (p.den : Int)]) (fs := [.int q.num, .int (q.den : Int)]) (by simp) (by simp) (by simp) (ev_call G2 (C.hr.mono (by decide)) (ea_cons (ev_var 0) ea_nil) ⟨_, _, _, rfl, hv, rfl, rfl⟩) (ev_call G2 (C.hr.mono (by decide)) (ea_cons (ev_var 1) ea_nil) ⟨_, _, _, rfl, hu, rfl, rfl⟩))
abbrev sAdd : Stmt := top 17
theorem scAdd : FnScope ["one", "other", "top", "bottom", "over", "under"] ["one", "other"] (defScope sAdd) := ⟨rfl, rfl, rfl, by decide +kernel, rfl, by decide +kernel, by decide +kernel⟩
def rAdd : Rel := fun as s d s' => ∃ v u p q, as = [.val v, .val u] ∧ NmQ v p ∧ NmQ u q ∧ Qb p ∧ Qb q ∧ d = cD (p + q) ∧ s' = s
theorem ok_add (F : Fun K "added" "added" sAdd f fd) (G1 : Dn P w K mg base 5 "_parts" rParts) (G2 : Dn P w K mg base 2 "fraction" rQuot) : FnOk P w K mg base CX0 6 f fd ["one", "other"] (spD rAdd) := by
  refine okD F scAdd (by rintro _ _ _ _ ⟨v, u, p, q, rfl, _⟩; rfl) fun cdv A outer s0 H0 E C z as s₁ d s h => ?_
  obtain ⟨v, u, p, q, rfl, hv, hu, hp, hq, rfl, rfl⟩ := h
  refine sr_unp4 2 3 4 5 C.calm C.nd (ev_call G1 C.hr (ea_cons (ev_var 0) (ea_cons (ev_var 1) ea_nil)) ⟨_, _, _, _, rfl, hv, hu, rfl, rfl⟩) ?_
  exact sr_ret (ev_call G2 (C.hr.mono (by decide)) (ea_cons (ev_add (ev_mul (hp.1.cmul hq.2) (ev_var 2) (ev_var 5)) (ev_mul (hq.1.cmul hp.2) (ev_var 4) (ev_var 3))) (ea_cons (ev_mul (hp.2.cmul hq.2) (ev_var 3) (ev_var 5)) ea_nil)) ⟨_, _, rfl, den_mul_ne p q, (hp.2.mul hq.2).mono (by decide), (fr_add p q).symm, rfl⟩)
abbrev sMulF : Stmt := top 18
theorem scMulF : FnScope ["one", "other", "top", "bottom", "over", "under"] ["one", "other"] (defScope sMulF) := ⟨rfl, rfl, rfl, by decide +kernel, rfl, by decide +kernel, by decide +kernel⟩
def rMulF : Rel := fun as s d s' => ∃ v u p q, as = [.val v, .val u] ∧ NmQ v p ∧ NmQ u q ∧ Qb p ∧ Qb q ∧ d = cD (p * q) ∧ s' = s
theorem ok_mulf (F : Fun K "multiplied" "multiplied" sMulF f fd) (G1 : Dn P w K mg base 5 "_parts" rParts) (G2 : Dn P w K mg base 2 "fraction" rQuot) : FnOk P w K mg base CX0 6 f fd ["one", "other"] (spD rMulF) := by
  refine okD F scMulF (by rintro _ _ _ _ ⟨v, u, p, q, rfl, _⟩; rfl) fun cdv A outer s0 H0 E C z as s₁ d s h => ?_
  obtain ⟨v, u, p, q, rfl, hv, hu, hp, hq, rfl, rfl⟩ := h
  refine sr_unp4 2 3 4 5 C.calm C.nd (ev_call G1 C.hr (ea_cons (ev_var 0) (ea_cons (ev_var 1) ea_nil)) ⟨_, _, _, _, rfl, hv, hu, rfl, rfl⟩) ?_
  exact sr_ret (ev_call G2 (C.hr.mono (by decide)) (ea_cons (ev_mul (hp.1.cmul hq.1) (ev_var 2) (ev_var 4)) (ea_cons (ev_mul (hp.2.cmul hq.2) (ev_var 3) (ev_var 5)) ea_nil)) ⟨_, _, rfl, den_mul_ne p q, (hp.2.mul hq.2).mono (by decide), (fr_mul p q).symm, rfl⟩)
abbrev sNR : Stmt := top 26
theorem scNR : FnScope ["value"] ["value"] (defScope sNR) := ⟨rfl, rfl, rfl, by decide +kernel, rfl, by decide +kernel, by decide +kernel⟩
def rNR : Rel := fun as s d s' => ∃ ds p, as = [.val (.tuple ds)] ∧ NmL ds p ∧ 1 ≤ p.length ∧ p.length ≤ 40 ∧ d = .none ∧ s' = s
theorem ok_nr (F : Fun K "_need_row" "_need_row" sNR f fd) (G : Dn P w K mg base 4 "is_row" rIsR) : FnOk P w K mg base CX0 5 f fd ["value"] (spD rNR) := by
  refine okN F scNR (by rintro _ _ _ _ ⟨ds, p, rfl, _⟩; rfl) fun cdv A outer s0 H0 E C z as s₁ d s h => ?_
  obtain ⟨ds, p, rfl, hp, h0, h1, rfl, rfl⟩ := h
  exact ⟨rfl, _, sr_ifF (et_notF (et_val (ev_call G C.hr (ea_cons (ev_var 0) ea_nil) ⟨_, rfl, by rw [hp.isR h0 h1], rfl⟩))) sr_nil⟩
theorem TabD.first {es : List PyData} {t : List (List Rat)} {m : Nat} (h : TabD es t m) : ∃ ds, es[0]? = some (.tuple ds) ∧ ds.length = m := by
  have hl := h.l.length
  have h0 := h.n0
  have hd : es[0]? = some es[0] := List.getElem?_eq_getElem (by omega)
  obtain ⟨ds, p, hp, he, hn⟩ := h.l.get hd
  exact ⟨ds, by rw [hd, he], by rw [hn.length, h.w p (List.mem_of_getElem? hp)]⟩
abbrev sNS : Stmt := top 27
theorem scNS : FnScope ["table"] ["table"] (defScope sNS) := ⟨rfl, rfl, rfl, by decide +kernel, rfl, by decide +kernel, by decide +kernel⟩
def rNS : Rel := fun as s d s' => ∃ es t, as = [.val (.tuple es)] ∧ TabD es t t.length ∧ d = .none ∧ s' = s
theorem ok_ns (F : Fun K "_need_square" "_need_square" sNS f fd) (T : Top mg) : FnOk P w K mg base CX0 1 f fd ["table"] (spD rNS) := by
  refine okN F scNS (by rintro _ _ _ _ ⟨es, t, rfl, _⟩; rfl) fun cdv A outer s0 H0 E C z as s₁ d s h => ?_
  obtain ⟨es, t, rfl, ht, rfl, rfl⟩ := h
  obtain ⟨ds, hd, hl⟩ := ht.first
  have := ht.l.length
  exact ⟨rfl, _, sr_ifF (ET.is (et_neI C.hu (ev_bltn call_len rb_lenT T.len (ed_cons (ev_var 0) ed_nil)) (ev_bltn call_len rb_lenT T.len (ed_cons (ev_ixT (ev_var 0) ev_int (atI_nat (j := 0) hd)) ed_nil))) (by rw [this, hl]; simp)) sr_nil⟩
abbrev sIdle : Stmt := top 30
theorem scIdle : FnScope ["size", "row", "column"] ["size"] (defScope sIdle) := ⟨rfl, rfl, rfl, by decide +kernel, rfl, by decide +kernel, by decide +kernel⟩
def rIdle : Rel := fun as s d s' => ∃ n : Nat, as = [.val (.int (n : Int))] ∧ n ≤ 100 ∧ d = tD (TM.idle n) ∧ s' = s
theorem ok_idle (F : Fun K "_idle" "_idle" sIdle f fd) (T : Top mg) : FnOk P w K mg base CX0 1 f fd ["size"] (spD rIdle) := by
  refine okD F scIdle (by rintro _ _ _ _ ⟨n, rfl, _⟩; rfl) fun cdv A0 outer s0 H0 E C z as s₁ d s h => ?_
  obtain ⟨n, rfl, hn, rfl, rfl⟩ := h
  have e : tD (TM.idle n) = .tuple ((List.range n).map fun i => .tuple ((List.range n).map fun j => cD (if i = j then 1 else 0))) := by
    unfold tD TM.idle
    rw [List.map_map]
    congr 1
    refine List.map_congr_left fun i _ => ?_
    show PyData.tuple _ = _
    rw [List.map_map]
    rfl
  rw [e]
  refine sr_ret (ev_bty call_tuple_of rb_tuple T.tuple (ed_cons (ev_lcFR (j := 1) C.calm C.nd T.range (fun i => .tuple ((List.range n).map fun j => cD (if i = j then 1 else 0))) (fun _ => s) (ed_cons (ev_var 0) ed_nil) rfl (by omega) (blkOk_by (N := ["size", "row", "column"]) (sc := defScope sIdle) (own := [("row", 1)]) (by decide +kernel)) (fun _ _ _ _ _ => pg_name C.nd rfl (Or.inr rfl)) (fun i hi z' s0 H0 C' cl fp => ?_)) ed_nil))
  refine ev_bty call_tuple_of rb_tuple T.tuple (ed_cons (ev_lcFR (j := 2) (by exact C.calm) (by exact C.nd) T.range (fun j => cD (if i = j then 1 else 0)) (fun _ => s) (ed_cons (ev_var 0) ed_nil) rfl (by omega) (blkOk_by (N := ["size", "row", "column"]) (own := [("column", 2)]) (by rfl)) (fun _ _ _ _ _ => pg_name (by exact C.nd) rfl (Or.inl rfl)) (fun j hj z'' s0' H0' C'' cl' fp' => ?_)) ed_nil)
  by_cases hij : i = j
  · rw [if_pos hij]
    exact ev_tup (ed_cons (ev_ifT (ET.is (et_eqI C.hu (ev_var 1) (ev_var 2)) (decide_eq_true (by omega))) ev_int) (ed_cons ev_int ed_nil))
  · rw [if_neg hij]
    exact ev_tup (ed_cons (ev_ifF (ET.is (et_eqI C.hu (ev_var 1) (ev_var 2)) (decide_eq_false (by omega))) ev_int) (ed_cons ev_int ed_nil))
abbrev sIdT : Stmt := top 31
theorem scIdT : FnScope ["size"] ["size"] (defScope sIdT) := ⟨rfl, rfl, rfl, by decide +kernel, rfl, by decide +kernel, by decide +kernel⟩
def rIdT : Rel := fun as s d s' => ∃ n : Nat, as = [.val (.int (n : Int))] ∧ 1 ≤ n ∧ n ≤ 40 ∧ d = tD (TM.idle n) ∧ s' = s
theorem ok_idt (F : Fun K "idle_table" "idle_table" sIdT f fd) (T3 : Top3 mg) (G1 : Dn P w K mg base 2 "is_between" rBtw) (G2 : Dn P w K mg base 1 "_idle" rIdle) : FnOk P w K mg base CX0 3 f fd ["size"] (spD rIdT) := by
  refine okD F scIdT (by rintro _ _ _ _ ⟨n, rfl, _⟩; rfl) fun cdv A0 outer s0 H0 E C z as s₁ d s h => ?_
  obtain ⟨n, rfl, h1, h2, rfl, rfl⟩ := h
  obtain ⟨tg, hs⟩ := T3.side
  refine sr_ifF (et_notF (et_val (ev_call G1 C.hr (ea_cons (ev_var 0) (ea_cons ev_int (ea_cons (ev_glob rfl hs ⟨tg, rfl⟩) ea_nil))) ⟨_, _, _, rfl, by rw [decide_eq_true (show (1 : Int) ≤ n by omega), decide_eq_true (show (n : Int) ≤ 40 by omega)]; rfl, rfl⟩))) ?_
  exact sr_ret (ev_call G2 (C.hr.mono (by decide)) (ea_cons (ev_var 0) ea_nil) ⟨n, rfl, by omega, rfl, rfl⟩)
end
end K3


set_option Elab.async false
set_option linter.all false
set_option maxRecDepth 100000
set_option exponentiation.threshold 9000
namespace K3
open PySem PySem.Spec PyProof.Rows L2 DL PM
/-! ### data of little depth -/
def Pq (k : Nat) (d : PyData) : Prop := nod d = true ∧ d.canLay0 = true ∧ d.depth ≤ k
theorem pq_int {i : Int} {k : Nat} : Pq k (.int i) := ⟨rfl, rfl, by unfold PyData.depth; omega⟩
theorem pq_all {k : Nat} : ∀ {ds : List PyData}, (∀ d ∈ ds, Pq k d) → nodAll ds = true ∧ PyData.canLayAll0 ds = true ∧ PyData.depthAll ds ≤ k
  | [], _ => ⟨rfl, rfl, by unfold PyData.depthAll; omega⟩
  | d :: ds, h => by
    obtain ⟨a1, a2, a3⟩ := pq_all fun e he => h e (List.mem_cons_of_mem _ he)
    obtain ⟨b1, b2, b3⟩ := h d (List.mem_cons_self ..)
    refine ⟨?_, ?_, ?_⟩
    · simp only [nodAll, a1, b1, Bool.and_self]
    · simp only [PyData.canLayAll0, a2, b2, Bool.and_self]
    · simp only [PyData.depthAll]
      omega
theorem pq_tup {k : Nat} {ds : List PyData} (h : ∀ d ∈ ds, Pq k d) : Pq (k + 1) (.tuple ds) := by
  obtain ⟨a1, a2, a3⟩ := pq_all h
  exact ⟨by simp only [nod, a1], by simp only [PyData.canLay0, a2], by simp only [PyData.depth]; omega⟩
theorem pq_lst {k : Nat} {ds : List PyData} (h : ∀ d ∈ ds, Pq k d) : Pq (k + 1) (.list ds) := by
  obtain ⟨a1, a2, a3⟩ := pq_all h
  exact ⟨by simp only [nod, a1], by simp only [PyData.canLay0, a2], by simp only [PyData.depth]; omega⟩
theorem Pq.pl {k : Nat} {d : PyData} (h : Pq k d) (hk : k ≤ 64 := by decide) : Pl d := ⟨h.1, by
  unfold SeqAt.shaped
  rw [h.2.1, Bool.true_and, decide_eq_true_eq]
  exact Nat.le_trans h.2.2 hk⟩
theorem Pq.refl {k : Nat} {d : PyData} (h : Pq k d) : PyData.eqv d d = true := by
  first
    | exact SeqAt.eqv_refl d h.2.1
    | exact PySem.eqv_refl d h.2.1
    | exact PyData.eqv_refl d h.2.1
theorem Pq.mono {k l : Nat} {d : PyData} (h : Pq k d) (e : k ≤ l) : Pq l d := ⟨h.1, h.2.1, Nat.le_trans h.2.2 e⟩
theorem pq_cD {q : Rat} : Pq 1 (cD q) := pq_tup fun d hd => by
  rcases List.mem_cons.mp hd with rfl | hd
  · exact pq_int
  · rcases List.mem_cons.mp hd with rfl | hd
    · exact pq_int
    · cases hd
theorem pq_pD {p : List Rat} : Pq 2 (.tuple (p.map cD)) := pq_tup fun d hd => by
  obtain ⟨q, _, rfl⟩ := List.mem_map.mp hd
  exact pq_cD
theorem pq_tD {t : List (List Rat)} : Pq 3 (tD t) := pq_tup fun d hd => by
  obtain ⟨q, _, rfl⟩ := List.mem_map.mp hd
  exact pq_pD
theorem eqv_cD (p q : Rat) : PyData.eqv (cD p) (cD q) = decide (p = q) := by
  by_cases h : p = q
  · subst h
    rw [decide_eq_true rfl]
    exact pq_cD.refl
  · rw [decide_eq_false h]
    cases he : PyData.eqv (cD p) (cD q) with
    | false => rfl
    | true =>
      exfalso
      unfold cD at he
      simp [PyData.eqv, PyData.eqvAll] at he
      exact h (Rat.ext he.1 (by omega))
theorem eqvAll_map {α : Type} [DecidableEq α] {f : α → PyData} (hf : ∀ x y, PyData.eqv (f x) (f y) = decide (x = y)) : ∀ a b : List α, PyData.eqvAll (a.map f) (b.map f) = decide (a = b)
  | [], [] => by simp [PyData.eqvAll]
  | [], _ :: _ => by simp [PyData.eqvAll]
  | _ :: _, [] => by simp [PyData.eqvAll]
  | x :: a, y :: b => by
    rw [List.map_cons, List.map_cons]
    simp only [PyData.eqvAll, hf, eqvAll_map hf a b]
    by_cases h : x = y
    · subst h
      by_cases k : a = b
      · subst k; simp
      · simp [k]
    · simp [h]
theorem eqv_pD (p q : List Rat) : PyData.eqv (.tuple (p.map cD)) (.tuple (q.map cD)) = decide (p = q) := by
  have := eqvAll_map eqv_cD p q
  simp only [PyData.eqv]
  exact this
theorem eqv_tD (t u : List (List Rat)) : PyData.eqv (tD t) (tD u) = decide (t = u) := by
  have := eqvAll_map (f := fun p => PyData.tuple (p.map cD)) eqv_pD t u
  unfold tD
  simp only [PyData.eqv]
  exact this
theorem tD_pairs {es : List PyData} {t : List (List Rat)} (h : TbL es t) : tD t = .tuple (es.map rowPairs) := by
  rw [h.pairs]
  rfl
section
variable {P : Program} {w : World} {K : PySem.W.Frag} {mg : Str → Option Value} {base : Heap} {f : Addr} {fd : FuncData}
abbrev sIsI : Stmt := top 29
theorem scIsI : FnScope ["value"] ["value"] (defScope sIsI) := ⟨rfl, rfl, rfl, by decide +kernel, rfl, by decide +kernel, by decide +kernel⟩
def rIsI : Rel := fun as s d s' => (∃ v, as = [.val v] ∧ isT v = false ∧ d = .bool false ∧ s' = s) ∨ ∃ es t m, as = [.val (.tuple es)] ∧ TabD es t m ∧ d = .bool (decide (t = TM.idle t.length)) ∧ s' = s
theorem ok_isi (F : Fun K "is_idle" "is_idle" sIsI f fd) (T : Top mg) (G1 : Dn P w K mg base 5 "is_table" rIsT) (G2 : Dn P w K mg base 2 "_fractions" rFrs) (G3 : Dn P w K mg base 1 "_idle" rIdle) : FnOk P w K mg base CX0 6 f fd ["value"] (spD rIsI) := by
  refine okD F scIsI (by rintro _ _ _ _ (⟨v, rfl, _⟩ | ⟨es, t, m, rfl, _⟩) <;> rfl) fun cdv A0 outer s0 H0 E C z as s₁ d s h => ?_
  rcases h with ⟨v, rfl, hv, rfl, rfl⟩ | ⟨es, t, m, rfl, ht, rfl, rfl⟩
  · exact sr_ret (ev_andF (ev_call G1 C.hr (ea_cons (ev_var 0) ea_nil) ⟨_, rfl, by rw [hv], rfl⟩))
  · have hl := ht.l.length
    have h40 := ht.n
    have m40 := ht.m1
    refine sr_ret (ev_andT (ev_call G1 C.hr (ea_cons (ev_var 0) ea_nil) ⟨_, rfl, by rw [ht.isT], rfl⟩) (ev_b1 (EV.is (ev_eq C.hu (pq_tD (t := t)).pl (pq_tD (t := TM.idle t.length)).pl (ev_call G2 (C.hr.mono (by decide)) (ea_cons (ev_var 0) ea_nil) ⟨es, t, rfl, ht.l, by omega, fun p hp => by rw [ht.w p hp]; omega, rfl, rfl⟩)
      (ev_call G3 (C.hr.mono (by decide)) (ea_cons (EV.is (ev_bltn call_len rb_lenT T.len (ed_cons (ev_var 0) ed_nil)) (by rw [hl])) ea_nil) ⟨t.length, rfl, by omega, rfl, rfl⟩)) (by rw [eqv_tD]))))
abbrev sTrn : Stmt := top 32
theorem scTrn : FnScope ["table", "rows", "column"] ["table"] (defScope sTrn) := ⟨rfl, rfl, rfl, by decide +kernel, rfl, by decide +kernel, by decide +kernel⟩
def rTrn : Rel := fun as s d s' => ∃ es t m, as = [.val (.tuple es)] ∧ TabD es t m ∧ t.length ≤ 4 ∧ d = tD (TM.turn t m) ∧ s' = s
theorem colD_t {t : List (List Rat)} {m i : Nat} (hi : i < m) (hw : ∀ p ∈ t, p.length = m) : colD (t.map fun p => p.map cD) i = .tuple ((TM.col t i).map cD) := by
  unfold colD TM.col
  rw [List.map_map, List.map_map]
  congr 1
  refine List.map_congr_left fun p hp => ?_
  show (p.map cD).getD i .none = cD (TM.at1 p i)
  rw [List.getD_eq_getElem?_getD, List.getElem?_map, TM.at1_get (by rw [hw p hp]; exact hi)]
  rfl
theorem ok_trn (F : Fun K "table_turned" "table_turned" sTrn f fd) (T : Top mg) (T8 : Top8 mg) (G1 : Dn P w K mg base 6 "_need_table" rNT) (G2 : Dn P w K mg base 2 "_fractions" rFrs) : FnOk P w K mg base CX0 7 f fd ["table"] (spD rTrn) := by
  refine okD F scTrn (by rintro _ _ _ _ ⟨es, t, m, rfl, _⟩; rfl) fun cdv A0 outer s0 H0 E C z as s₁ d s h => ?_
  obtain ⟨es, t, m, rfl, ht, h4, rfl, rfl⟩ := h
  have m40 := ht.m1
  have n0 := ht.n0
  have e1 : tD t = .tuple ((t.map fun p => p.map cD).map PyData.tuple) := by
    rw [List.map_map]
    rfl
  have e2 : tD (TM.turn t m) = .tuple ((List.range m).map fun i => colD (t.map fun p => p.map cD) i) := by
    unfold tD TM.turn
    rw [List.map_map]
    congr 1
    exact List.map_congr_left fun i hi => (colD_t (List.mem_range.mp hi) ht.w).symm
  refine sr_expr (ev_call G1 C.hr (ea_cons (ev_var 0) ea_nil) ⟨es, t, m, rfl, ht, rfl, rfl⟩) ?_
  refine sr_asg 1 C.nd (ev_call G2 (C.hr.mono (by decide)) (ea_cons (ev_var 0) ea_nil) ⟨es, t, rfl, ht.l, by omega, fun p hp => by rw [ht.w p hp]; omega, rfl, rfl⟩) ?_
  rw [e2, e1]
  refine sr_ret (ev_bty call_tuple_of rb_tuple T.tuple (ed_cons (ev_lcN (j := 2) C.calm C.nd T8.zip id (rows := t.map fun p => p.map cD) (m := m) (ev_var 1) (by
    intro e
    have := congrArg List.length e
    rw [List.length_map, List.length_nil] at this
    omega) (by rw [List.length_map]; exact h4) (fun r hr => by
    obtain ⟨p, hp, rfl⟩ := List.mem_map.mp hr
    rw [List.length_map, ht.w p hp]) (by omega) (blkOk_by (N := ["table", "rows", "column"]) (sc := defScope sTrn) (own := [("column", 2)]) (by decide +kernel)) (fun _ _ _ _ _ => pg_name C.nd rfl (Or.inl rfl)) (fun i hi z' s0 H0 C' cl fp => ?_)) ed_nil))
  exact ev_bty call_tuple_of rb_tupleT T.tuple (ed_cons (ev_var 2) ed_nil)
def rowAdd : PyData → PyData → PyData
  | .tuple a, .tuple b => .tuple (List.zipWith (fun x y => cD (qOf x + qOf y)) a b)
  | _, _ => .none
theorem zw_nml {ds fs : List PyData} {p q : List Rat} (hp : NmL ds p) (hq : NmL fs q) : List.zipWith (fun x y => cD (qOf x + qOf y)) ds fs = (List.zipWith (· + ·) p q).map cD := by
  induction hp generalizing fs q with
  | nil => rfl
  | @cons d x ds p h1 h2 ih =>
    cases hq with
    | nil => rfl
    | @cons e y fs q k1 k2 =>
      rw [List.zipWith_cons_cons, List.zipWith_cons_cons, List.map_cons, ih k2, h1.of, k1.of]
theorem zw_tbl {ds fs : List PyData} {t u : List (List Rat)} (ht : TbL ds t) (hu : TbL fs u) : List.zipWith rowAdd ds fs = (TM.add t u).map fun p => .tuple (p.map cD) := by
  induction ht generalizing fs u with
  | nil => rfl
  | @cons a p ds t h1 h2 ih =>
    cases hu with
    | nil => rfl
    | @cons b q fs u k1 k2 =>
      show rowAdd (.tuple a) (.tuple b) :: List.zipWith rowAdd ds fs = _
      rw [ih k2]
      show PyData.tuple (List.zipWith _ a b) :: _ = _
      rw [zw_nml h1 k1]
      rfl
abbrev sSum : Stmt := top 33
theorem scSum : FnScope ["one", "other", "row", "further", "low", "high"] ["one", "other"] (defScope sSum) := ⟨rfl, rfl, rfl, by decide +kernel, rfl, by decide +kernel, by decide +kernel⟩
def rSumT : Rel := fun as s d s' => ∃ es t fs u m, as = [.val (.tuple es), .val (.tuple fs)] ∧ TabD es t m ∧ TabD fs u m ∧ t.length = u.length ∧ (∀ p ∈ t, ∀ q ∈ p, Qb q) ∧ (∀ p ∈ u, ∀ q ∈ p, Qb q) ∧ d = tD (TM.add t u) ∧ s' = s
theorem ok_sum (F : Fun K "table_sum" "table_sum" sSum f fd) (T : Top mg) (T8 : Top8 mg) (G1 : Dn P w K mg base 6 "_need_table" rNT) (G2 : Dn P w K mg base 6 "added" rAdd) : FnOk P w K mg base CX0 7 f fd ["one", "other"] (spD rSumT) := by
  refine okD F scSum (by rintro _ _ _ _ ⟨es, t, fs, u, m, rfl, _⟩; rfl) fun cdv A0 outer s0 H0 E C z as s₁ d s h => ?_
  obtain ⟨es, t, fs, u, m, rfl, ht, hu, hl, bt, bu, rfl, rfl⟩ := h
  have l1 := ht.l.length
  have l2 := hu.l.length
  have n40 := ht.n
  have m40 := ht.m1
  obtain ⟨d1, hd1, hl1⟩ := ht.first
  obtain ⟨d2, hd2, hl2⟩ := hu.first
  refine sr_expr (ev_call G1 C.hr (ea_cons (ev_var 0) ea_nil) ⟨es, t, m, rfl, ht, rfl, rfl⟩) ?_
  refine sr_expr (ev_call G1 C.hr (ea_cons (ev_var 1) ea_nil) ⟨fs, u, m, rfl, hu, rfl, rfl⟩) ?_
  refine sr_ifF (et_w (ew_orF (ET.is (et_neI C.hu (ev_bltn call_len rb_lenT T.len (ed_cons (ev_var 0) ed_nil)) (ev_bltn call_len rb_lenT T.len (ed_cons (ev_var 1) ed_nil))) (by rw [l1, l2, hl]; simp))
    (ew_or1 (ET.is (et_neI C.hu (ev_bltn call_len rb_lenT T.len (ed_cons (ev_ixT (ev_var 0) ev_int (atI_nat (j := 0) hd1)) ed_nil)) (ev_bltn call_len rb_lenT T.len (ed_cons (ev_ixT (ev_var 1) ev_int (atI_nat (j := 0) hd2)) ed_nil))) (by rw [hl1, hl2]; simp))))) ?_
  have e : tD (TM.add t u) = .tuple (List.zipWith rowAdd es fs) := by
    rw [zw_tbl ht.l hu.l]
    rfl
  rw [e]
  refine sr_ret (ev_bty call_tuple_of rb_tuple T.tuple (ed_cons (ev_lcZT (j := 2) (k := 3) C.calm C.nd T8.zip (by decide) rowAdd (ed_cons (ev_var 0) (ed_cons (ev_var 1) ed_nil)) (by omega) (by omega) (blkOk_by (N := ["one", "other", "row", "further", "low", "high"]) (sc := defScope sSum) (own := [("row", 2), ("further", 3)]) (by decide +kernel))
    (fun _ _ _ _ _ => pg_tup C.calm (pgs_cons (pg_name C.nd rfl (Or.inl rfl)) (pgs_cons (pg_name C.nd rfl (Or.inl rfl)) pgs_nil))) (fun i d1 d2 h1 h2 z' s0 H0 C' cl fp => ?_)) ed_nil))
  obtain ⟨a, p, hp, rfl, na⟩ := ht.l.get h1
  obtain ⟨b, q, hq, rfl, nb⟩ := hu.l.get h2
  have wp := ht.w p (List.mem_of_getElem? hp)
  have wq := hu.w q (List.mem_of_getElem? hq)
  have la := na.length
  have lb := nb.length
  refine ev_bty call_tuple_of rb_tuple T.tuple (ed_cons (ev_lcZT (j := 4) (k := 5) (by exact C.calm) (by exact C.nd) T8.zip (by decide) (fun x y => cD (qOf x + qOf y)) (ed_cons (ev_var 2) (ed_cons (ev_var 3) ed_nil)) (by omega) (by omega) (blkOk_by (N := ["one", "other", "row", "further", "low", "high"]) (own := [("low", 4), ("high", 5)]) (by rfl))
    (fun _ _ _ _ _ => pg_tup (by exact C.calm) (pgs_cons (pg_name (by exact C.nd) rfl (Or.inl rfl)) (pgs_cons (pg_name (by exact C.nd) rfl (Or.inl rfl)) pgs_nil))) (fun k e1 e2 k1 k2 z'' s0' H0' C'' cl' fp' => ?_)) ed_nil)
  obtain ⟨x, hx, nx⟩ := na.get k1
  obtain ⟨y, hy, ny⟩ := nb.get k2
  exact ev_call G2 (C.hr.mono (by decide)) (ea_cons (ev_var 4) (ea_cons (ev_var 5) ea_nil)) ⟨_, _, x, y, rfl, nx, ny, bt p (List.mem_of_getElem? hp) x (List.mem_of_getElem? hx), bu q (List.mem_of_getElem? hq) y (List.mem_of_getElem? hy), by rw [nx.of, ny.of], rfl⟩
end
end K3


set_option Elab.async false
set_option linter.all false
set_option maxRecDepth 100000
set_option exponentiation.threshold 9000
namespace K3
open PySem PySem.Spec PyProof.Rows L2 DL PM
/-- all numbers of a table are of this size -/
structure TSz (t : List (List Rat)) (M A : Nat) : Prop where
  m : M ≠ 0
  m2 : M < 2 ^ 40
  a : A * M < 2 ^ 2900
  sz : ∀ p ∈ t, PSz M A p
theorem TSz.row {t : List (List Rat)} {M A : Nat} (h : TSz t M A) {p : List Rat} (hp : p ∈ t) (hl : p.length ≤ 60) : RowOk p M A := ⟨h.m, h.m2, h.a, h.sz p hp, hl⟩
theorem TSz.col {t : List (List Rat)} {M A m j : Nat} (h : TSz t M A) (hw : ∀ p ∈ t, p.length = m) (hj : j < m) (hl : t.length ≤ 60) : RowOk (TM.col t j) M A := by
  refine ⟨h.m, h.m2, h.a, fun q hq => ?_, by rw [TM.col_len]; exact hl⟩
  obtain ⟨p, hp, rfl⟩ := List.mem_map.mp hq
  exact h.sz p hp _ (List.mem_of_getElem? (TM.at1_get (by rw [hw p hp]; exact hj)))
theorem TSz.qb {t : List (List Rat)} {M A : Nat} (h : TSz t M A) : ∀ p ∈ t, ∀ q ∈ p, Qb q := fun p hp q hq => (h.sz p hp q hq).qb h.m (Nat.lt_trans h.a (Nat.pow_lt_pow_right (by decide) (by decide))) (Nat.lt_trans h.m2 (Nat.pow_lt_pow_right (by decide) (by decide)))
theorem TSz.one {p : List Rat} {M A : Nat} (h : RowOk p M A) : TSz [p] M A := ⟨h.m, h.m2, h.a, fun q hq => by rw [List.mem_singleton.mp hq]; exact h.sz⟩
theorem sumL_cons (x : Rat) (l : List Rat) : TM.sumL (x :: l) = x + TM.sumL l := by
  unfold TM.sumL
  rw [List.foldl_cons, TM.foldl_smF, TM.foldl_smF]
  grind
theorem dot_cast {C D : Rat} {g h : Rat → Int} : ∀ {p q : List Rat}, (∀ x ∈ p, ((g x : Int) : Rat) = x * C) → (∀ x ∈ q, ((h x : Int) : Rat) = x * D) → (((List.zipWith (· * ·) (p.map g) (q.map h)).sum : Int) : Rat) = TM.dot p q * (C * D)
  | [], q, _, _ => by
    show ((0 : Int) : Rat) = TM.sumL [] * _
    show (0 : Rat) = 0 * _
    grind
  | x :: p, [], _, _ => by
    show ((0 : Int) : Rat) = TM.sumL [] * _
    show (0 : Rat) = 0 * _
    grind
  | x :: p, y :: q, hp, hq => by
    have ih := dot_cast (p := p) (q := q) (fun z hz => hp z (List.mem_cons_of_mem _ hz)) (fun z hz => hq z (List.mem_cons_of_mem _ hz))
    unfold TM.dot at ih ⊢
    rw [List.map_cons, List.map_cons, List.zipWith_cons_cons, List.sum_cons, Rat.intCast_add, Rat.intCast_mul, ih, List.zipWith_cons_cons, sumL_cons, hp x (List.mem_cons_self ..), hq y (List.mem_cons_self ..)]
    grind
theorem wr_cast {p : List Rat} : ∀ x ∈ p, (((x.num * ((cm p / x.den : Nat) : Int) : Int)) : Rat) = x * ((cm p : Int) : Rat) := fun x hx => by
  have hd : x.den ∣ cm p := den_cmF hx
  obtain ⟨k, hk⟩ := hd
  have d0 := x.den_pos
  have e1 : cm p / x.den = k := by rw [hk, Nat.mul_div_cancel_left _ d0]
  rw [e1, hk, Rat.intCast_mul, Int.natCast_mul, Rat.intCast_mul]
  have := rat_eq x
  have := den_ne x
  grind
theorem frD_dot {p q : List Rat} (h1 : cm p ≠ 0) (h2 : cm q ≠ 0) : frD (List.zipWith (· * ·) (wr p) (wr q)).sum ((cm p : Int) * (cm q : Int)) = cD (TM.dot p q) := by
  have n1 : ((cm p : Nat) : Int) ≠ 0 := by omega
  have n2 : ((cm q : Nat) : Int) ≠ 0 := by omega
  rw [frD_rat (Int.mul_ne_zero n1 n2)]
  unfold wr
  rw [dot_cast wr_cast wr_cast, Rat.intCast_mul]
  congr 1
  have := ic_ne n1
  have := ic_ne n2
  grind
theorem RowOk.wrB {p : List Rat} {M A : Nat} (h : RowOk p M A) : ∀ v ∈ wr p, Bd 3000 v := fun v hv => by
  obtain ⟨x, hx, rfl⟩ := List.mem_map.mp hv
  have h1 := (h.sz x hx).whole h.m (v := x.num * ((cm p / x.den : Nat) : Int)) (c := (cm p : Int)) (by rw [wr_cast x hx]; grind)
  have h2 := Nat.le_of_dvd (Nat.pos_of_ne_zero h.m) h.cmd
  have h3 : (cm p) * A ≤ M * A := Nat.mul_le_mul_right _ h2
  rw [Int.natAbs_natCast] at h1
  have h4 := h.a
  rw [Nat.mul_comm A M] at h4
  exact Nat.lt_of_le_of_lt (Nat.le_trans h1 h3) (Nat.lt_trans h4 (Nat.pow_lt_pow_right (by decide) (by decide)))
theorem wr_len {p : List Rat} : (wr p).length = p.length := List.length_map ..
/-- a row's datum behind whole_row -/
def wrD : PyData → PyData
  | .tuple ds => .tuple [.list (iD (wr (ds.map qOf))), .int (cm (ds.map qOf) : Int)]
  | _ => .none
theorem NmL.qs {ds : List PyData} {p : List Rat} (h : NmL ds p) : ds.map qOf = p := by
  induction h with
  | nil => rfl
  | cons h1 _ ih => rw [List.map_cons, h1.of, ih]
theorem wrD_nml {ds : List PyData} {p : List Rat} (h : NmL ds p) : wrD (.tuple ds) = .tuple [.list (iD (wr p)), .int (cm p : Int)] := by
  show PyData.tuple _ = _
  rw [h.qs]
def mulD : PyData → PyData → PyData
  | .int a, .int b => .int (a * b)
  | _, _ => .none
theorem mulD_iD : ∀ W V : List Int, List.zipWith mulD (iD W) (iD V) = iD (List.zipWith (· * ·) W V)
  | [], _ => rfl
  | _ :: _, [] => rfl
  | w :: W, v :: V => by
    have := mulD_iD W V
    unfold iD at *
    rw [List.map_cons, List.map_cons, List.zipWith_cons_cons, List.zipWith_cons_cons, List.map_cons, this]
    rfl
def rowsOf : PyData → List PyData
  | .tuple ds => ds
  | _ => []
theorem TbL.rows {fs : List PyData} {u : List (List Rat)} (h : TbL fs u) : fs = (fs.map rowsOf).map PyData.tuple := by
  induction h with
  | nil => rfl
  | @cons ds p es t _ _ ih =>
    rw [List.map_cons, List.map_cons, ← ih]
    rfl
theorem TbL.col {fs : List PyData} {u : List (List Rat)} (h : TbL fs u) {m j : Nat} (hw : ∀ p ∈ u, p.length = m) (hj : j < m) : ∃ ds, colD (fs.map rowsOf) j = .tuple ds ∧ NmL ds (TM.col u j) := by
  refine ⟨(fs.map rowsOf).map fun r => r.getD j .none, rfl, ?_⟩
  induction h with
  | nil => exact .nil
  | @cons ds p es t h1 h2 ih =>
    rw [List.map_cons, List.map_cons]
    refine .cons ?_ (ih fun q hq => hw q (List.mem_cons_of_mem _ hq))
    have lp := hw p (List.mem_cons_self ..)
    have ld := h1.length
    have hd : ds[j]? = some (ds.getD j .none) := by
      rw [List.getD_eq_getElem?_getD, List.getElem?_eq_getElem (by omega)]
      rfl
    obtain ⟨q, hq, hn⟩ := h1.get hd
    show NmQ (ds.getD j .none) (TM.at1 p j)
    rw [TM.at1_of hq]
    exact hn
theorem TbL.rowLen {fs : List PyData} {u : List (List Rat)} (h : TbL fs u) {m : Nat} (hw : ∀ p ∈ u, p.length = m) : ∀ r ∈ fs.map rowsOf, r.length = m := fun r hr => by
  obtain ⟨d, hd, rfl⟩ := List.mem_map.mp hr
  obtain ⟨ds, p, hp, rfl, hn⟩ := h.mem hd
  show ds.length = m
  rw [hn.length, hw p hp]
def sclD (x : Rat) : PyData → PyData
  | .tuple ds => .tuple (ds.map fun d => cD (qOf d * x))
  | _ => .none
theorem scl_tbl {es : List PyData} {t : List (List Rat)} {x : Rat} (h : TbL es t) : es.map (sclD x) = (TM.scale x t).map fun p => .tuple (p.map cD) := by
  induction h with
  | nil => rfl
  | @cons ds p es t h1 h2 ih =>
    rw [List.map_cons, ih]
    show PyData.tuple (ds.map _) :: _ = PyData.tuple _ :: _
    congr 2
    clear ih h2
    induction h1 with
    | nil => rfl
    | cons k1 _ ih =>
      rw [List.map_cons, ih, k1.of, Rat.mul_comm]
      rfl
section
variable {P : Program} {w : World} {K : PySem.W.Frag} {mg : Str → Option Value} {base : Heap} {f : Addr} {fd : FuncData}
abbrev sScl : Stmt := top 34
theorem scScl : FnScope ["table", "number", "row", "entry"] ["table", "number"] (defScope sScl) := ⟨rfl, rfl, rfl, by decide +kernel, rfl, by decide +kernel, by decide +kernel⟩
def rScl : Rel := fun as s d s' => ∃ es t m v x, as = [.val (.tuple es), .val v] ∧ TabD es t m ∧ NmQ v x ∧ Qb x ∧ (∀ p ∈ t, ∀ q ∈ p, Qb q) ∧ d = tD (TM.scale x t) ∧ s' = s
theorem ok_scl (F : Fun K "table_scaled" "table_scaled" sScl f fd) (T : Top mg) (G1 : Dn P w K mg base 6 "_need_table" rNT) (G2 : Dn P w K mg base 4 "need_number" rNeed) (G3 : Dn P w K mg base 6 "multiplied" rMulF) : FnOk P w K mg base CX0 7 f fd ["table", "number"] (spD rScl) := by
  refine okD F scScl (by rintro _ _ _ _ ⟨es, t, m, v, x, rfl, _⟩; rfl) fun cdv A0 outer s0 H0 E C z as s₁ d s h => ?_
  obtain ⟨es, t, m, v, x, rfl, ht, hv, bx, bt, rfl, rfl⟩ := h
  have hl := ht.l.length
  have n40 := ht.n
  have m40 := ht.m1
  have e : tD (TM.scale x t) = .tuple (es.map (sclD x)) := by
    rw [scl_tbl ht.l]
    rfl
  refine sr_expr (ev_call G1 C.hr (ea_cons (ev_var 0) ea_nil) ⟨es, t, m, rfl, ht, rfl, rfl⟩) (sr_expr (ev_call G2 (C.hr.mono (by decide)) (ea_cons (ev_var 1) ea_nil) ⟨_, rfl, hv.num, rfl, rfl⟩) ?_)
  rw [e]
  refine sr_ret (ev_bty call_tuple_of rb_tuple T.tuple (ed_cons (ev_lcFT (j := 2) C.calm C.nd (sclD x) (ev_var 0) (by omega) (blkOk_by (N := ["table", "number", "row", "entry"]) (sc := defScope sScl) (own := [("row", 2)]) (by decide +kernel)) (fun _ _ _ _ _ => pg_name C.nd rfl (Or.inl rfl)) (fun d hd z' s0 H0 C' cl fp => ?_)) ed_nil))
  obtain ⟨ds, p, hp, rfl, hn⟩ := ht.l.mem hd
  have lp := ht.w p hp
  have hl2 := hn.length
  refine ev_bty call_tuple_of rb_tuple T.tuple (ed_cons (ev_lcFT (j := 3) (by exact C.calm) (by exact C.nd) (fun d => cD (qOf d * x)) (ev_var 2) (by omega) (blkOk_by (N := ["table", "number", "row", "entry"]) (own := [("entry", 3)]) (by rfl)) (fun _ _ _ _ _ => pg_name (by exact C.nd) rfl (Or.inl rfl)) (fun d hd z'' s0' H0' C'' cl' fp' => ?_)) ed_nil)
  obtain ⟨q, hq, hq2⟩ := hn.mem hd
  exact ev_call G3 (C.hr.mono (by decide)) (ea_cons (ev_var 3) (ea_cons (ev_var 1) ea_nil)) ⟨_, _, q, x, rfl, hq2, hv, bt p hp q hq, bx, by rw [hq2.of], rfl⟩
abbrev sEnt : Stmt := top 35
theorem scEnt : FnScope ["row", "column", "tops", "bottom", "overs", "under", "top", "over"] ["row", "column"] (defScope sEnt) := ⟨rfl, rfl, rfl, by decide +kernel, rfl, by decide +kernel, by decide +kernel⟩
def rEnt : Rel := fun as s d s' => ∃ p q M A N B, as = [.val (.tuple [.list (iD (wr p)), .int (cm p : Int)]), .val (.tuple [.list (iD (wr q)), .int (cm q : Int)])] ∧ RowOk p M A ∧ RowOk q N B ∧ p.length = q.length ∧ d = cD (TM.dot p q) ∧ s' = s
theorem ok_ent (F : Fun K "_entry_of_product" "_entry_of_product" sEnt f fd) (T8 : Top8 mg) (hsum : mg "sum" = none) (G : Dn P w K mg base 2 "fraction" rQuot) : FnOk P w K mg base CX0 3 f fd ["row", "column"] (spD rEnt) := by
  refine okD F scEnt (by rintro _ _ _ _ ⟨p, q, M, A, N, B, rfl, _⟩; rfl) fun cdv A0 outer s0 H0 E C z as s₁ d s h => ?_
  obtain ⟨p, q, M, A, N, B, rfl, hp, hq, hl, rfl, rfl⟩ := h
  have lp := hp.len
  have n1 : ((cm p : Nat) : Int) ≠ 0 := by have := hp.cm0; omega
  have n2 : ((cm q : Nat) : Int) ≠ 0 := by have := hq.cm0; omega
  refine sr_unp2 2 3 C.calm C.nd (ev_var 0) (sr_unp2 4 5 C.calm C.nd (ev_var 1) ?_)
  refine sr_ret (ev_call G C.hr (ea_cons (ev_bltn (cr_sum C.calm) (rb_sum (ns := List.zipWith (· * ·) (wr p) (wr q))) hsum (ed_cons (EV.is (ev_lcZ (j := 6) (k := 7) C.calm C.nd T8.zip (by decide) mulD (ed_cons (ev_var 2) (ed_cons (ev_var 4) ed_nil)) (by rw [iD_len, iD_len, wr_len, wr_len, hl]) (by rw [iD_len, wr_len]; omega) (blkOk_by (N := ["row", "column", "tops", "bottom", "overs", "under", "top", "over"]) (sc := defScope sEnt) (own := [("top", 6), ("over", 7)]) (by decide +kernel))
    (fun _ _ _ _ _ => pg_tup C.calm (pgs_cons (pg_name C.nd rfl (Or.inl rfl)) (pgs_cons (pg_name C.nd rfl (Or.inl rfl)) pgs_nil))) (fun i d1 d2 h1 h2 z' s0 H0 C' cl fp => ?_)) (by rw [mulD_iD]; rfl)) ed_nil)) (ea_cons (ev_mul (hp.cmB.cmul hq.cmB) (ev_var 3) (ev_var 5)) ea_nil)) ⟨_, _, rfl, Int.mul_ne_zero n1 n2, (hp.cmB.mul hq.cmB).mono (by decide), (frD_dot hp.cm0 hq.cm0).symm, rfl⟩)
  obtain ⟨a, ha, rfl⟩ := iD_get h1
  obtain ⟨b, hb, rfl⟩ := iD_get h2
  exact ev_mul ((hp.wrB a (List.mem_of_getElem? ha)).cmul (hq.wrB b (List.mem_of_getElem? hb))) (ev_var 6) (ev_var 7)
end
end K3


set_option Elab.async false
set_option linter.all false
set_option maxRecDepth 100000
set_option exponentiation.threshold 9000
namespace K3
open PySem PySem.Spec PyProof.Rows L2 DL PM
/-- the pair's numbers, out of two rows' data behind whole_row -/
def entD : PyData → PyData → PyData
  | .tuple [.list ws, .int c], .tuple [.list vs, .int e] => frD (List.zipWith (fun a b => match a, b with | .int i, .int j => i * j | _, _ => 0) ws vs).sum (c * e)
  | _, _ => .none
theorem zw_iD : ∀ W V : List Int, List.zipWith (fun a b => match a, b with | PyData.int i, PyData.int j => i * j | _, _ => 0) (iD W) (iD V) = List.zipWith (· * ·) W V
  | [], _ => rfl
  | _ :: _, [] => rfl
  | w :: W, v :: V => by
    have := zw_iD W V
    unfold iD at *
    rw [List.map_cons, List.map_cons, List.zipWith_cons_cons, List.zipWith_cons_cons, this]
theorem entD_wr {p q : List Rat} (h1 : cm p ≠ 0) (h2 : cm q ≠ 0) : entD (.tuple [.list (iD (wr p)), .int (cm p : Int)]) (.tuple [.list (iD (wr q)), .int (cm q : Int)]) = cD (TM.dot p q) := by
  show frD _ _ = _
  rw [zw_iD, frD_dot h1 h2]
def trace (t : List (List Rat)) : Rat := TM.sumL ((List.range t.length).map fun i => TM.en t i i)
section
variable {P : Program} {w : World} {K : PySem.W.Frag} {mg : Str → Option Value} {base : Heap} {f : Addr} {fd : FuncData}
abbrev sPro : Stmt := top 36
theorem scPro : FnScope ["one", "other", "rows", "columns", "row", "column"] ["one", "other"] (defScope sPro) := ⟨rfl, rfl, rfl, by decide +kernel, rfl, by decide +kernel, by decide +kernel⟩
def rPro : Rel := fun as s d s' => ∃ es t k fs u m M A N B, as = [.val (.tuple es), .val (.tuple fs)] ∧ TbL es t ∧ TbL fs u ∧ t.length ≤ 40 ∧ (∀ p ∈ t, p.length = k) ∧ u.length = k ∧ 1 ≤ k ∧ k ≤ 4 ∧ (∀ p ∈ u, p.length = m) ∧ m ≤ 40 ∧ TSz t M A ∧ TSz u N B ∧ d = tD (TM.mul t u m) ∧ s' = s
theorem ok_pro (F : Fun K "_product" "_product" sPro f fd) (T : Top mg) (T8 : Top8 mg) (G1 : Dn P w K mg base 2 "whole_row" rWRow) (G2 : Dn P w K mg base 3 "_entry_of_product" rEnt) : FnOk P w K mg base CX0 4 f fd ["one", "other"] (spD rPro) := by
  refine okD F scPro (by rintro _ _ _ _ ⟨es, t, k, fs, u, m, M, A, N, B, rfl, _⟩; rfl) fun cdv A0 outer s0 H0 E C z as s₁ d s h => ?_
  obtain ⟨es, t, k, fs, u, m, M, A, N, B, rfl, ht, hu, n40, wt, lu, k0, k4, wu, m40, st, su, rfl, rfl⟩ := h
  have l1 := ht.length
  have l2 := hu.length
  have rl : (fs.map rowsOf).length = k := by rw [List.length_map, l2, lu]
  have fsE := hu.rows
  generalize hR : fs.map rowsOf = R at *
  subst fsE
  have colOf : ∀ j, j < m → ∃ ds, colD R j = .tuple ds ∧ NmL ds (TM.col u j) := fun j hj => by
    have := hu.col wu hj
    rwa [hR] at this
  have rowLen : ∀ r ∈ R, r.length = m := by
    have := hu.rowLen wu
    rwa [hR] at this
  have colOk : ∀ j, j < m → RowOk (TM.col u j) N B := fun j hj => su.col wu hj (by omega)
  refine sr_lcFT (j := 4) (k := 2) C.calm C.nd wrD (ev_var 0) (by omega) (blkOk_by (N := ["one", "other", "rows", "columns", "row", "column"]) (sc := defScope sPro) (own := [("row", 4)]) (by decide +kernel)) (fun _ _ _ _ _ => pg_name C.nd rfl (Or.inl rfl)) (fun d hd z' s0 H0 C' cl fp => ?_) ?_
  · obtain ⟨ds, p, hp, rfl, hn⟩ := ht.mem hd
    rw [wrD_nml hn]
    exact ev_call G1 (C.hr.mono (by decide)) (ea_cons (ev_var 4) ea_nil) ⟨_, p, M, A, rfl, hn, st.row hp (by rw [wt p hp]; omega), rfl, rfl⟩
  · refine sr_asg 3 C.nd (ev_lcN (j := 5) C.calm C.nd T8.zip wrD (rows := R) (m := m) (ev_var 1) (by
      intro e
      rw [e] at rl
      simp at rl
      omega) (by omega) rowLen (by omega) (blkOk_by (N := ["one", "other", "rows", "columns", "row", "column"]) (sc := defScope sPro) (own := [("column", 5)]) (by decide +kernel)) (fun _ _ _ _ _ => pg_name C.nd rfl (Or.inl rfl)) (fun j hj z' s0 H0 C' cl fp => ?_)) ?_
    · obtain ⟨ds, hc, hn⟩ := colOf j hj
      rw [hc, wrD_nml hn]
      exact ev_call G1 (C.hr.mono (by decide)) (ea_cons (ev_var 5) ea_nil) ⟨_, _, N, B, rfl, hn, colOk j hj, rfl, rfl⟩
    · have key : tD (TM.mul t u m) = .tuple ((es.map wrD).map fun d => .tuple (((List.range m).map fun i => wrD (colD R i)).map (entD d))) := by
        unfold tD TM.mul
        rw [List.map_map]
        congr 1
        clear l1 n40
        have wt' := wt
        have st' := st.sz
        clear wt
        induction ht with
        | nil => rfl
        | @cons ds p es t h1 h2 ih =>
          have st2 : TSz t M A := ⟨st.m, st.m2, st.a, fun q hq => st.sz q (List.mem_cons_of_mem _ hq)⟩
          rw [List.map_cons, List.map_cons, List.map_cons, ih st2 (fun q hq => wt' q (List.mem_cons_of_mem _ hq)) st2.sz]
          congr 1
          show PyData.tuple _ = PyData.tuple _
          rw [List.map_map, List.map_map]
          congr 1
          refine List.map_congr_left fun j hj => ?_
          have hj := List.mem_range.mp hj
          obtain ⟨cs, hc, hn⟩ := colOf j hj
          show cD (TM.dot p (TM.col u j)) = entD (wrD (.tuple ds)) (wrD (colD R j))
          rw [hc, wrD_nml h1, wrD_nml hn, entD_wr (st.row (List.mem_cons_self ..) (by rw [wt' p (List.mem_cons_self ..)]; omega)).cm0 (colOk j hj).cm0]
      rw [key]
      refine sr_ret (ev_bty call_tuple_of rb_tuple T.tuple (ed_cons (ev_lcF (j := 4) C.calm C.nd (fun d => .tuple (((List.range m).map fun i => wrD (colD R i)).map (entD d))) (ev_var 2) (by rw [List.length_map]; omega) (blkOk_by (N := ["one", "other", "rows", "columns", "row", "column"]) (sc := defScope sPro) (own := [("row", 4)]) (by decide +kernel)) (fun _ _ _ _ _ => pg_name C.nd rfl (Or.inr rfl)) (fun d hd z' s0 H0 C' cl fp => ?_)) ed_nil))
      refine ev_bty call_tuple_of rb_tuple T.tuple (ed_cons (ev_lcF (j := 5) (by exact C.calm) (by exact C.nd) (entD d) (ev_var 3) (by rw [List.length_map, List.length_range]; omega) (blkOk_by (N := ["one", "other", "rows", "columns", "row", "column"]) (own := [("column", 5)]) (by rfl)) (fun _ _ _ _ _ => pg_name (by exact C.nd) rfl (Or.inl rfl)) (fun e he z'' s0' H0' C'' cl' fp' => ?_)) ed_nil)
      obtain ⟨d0, hd0, rfl⟩ := List.mem_map.mp hd
      obtain ⟨j, hj, rfl⟩ := List.mem_map.mp he
      have hj := List.mem_range.mp hj
      obtain ⟨ds, p, hp, rfl, hn⟩ := ht.mem hd0
      obtain ⟨cs, hc, hn2⟩ := colOf j hj
      have ro := st.row hp (by rw [wt p hp]; omega)
      rw [hc, wrD_nml hn, wrD_nml hn2, entD_wr ro.cm0 (colOk j hj).cm0]
      exact ev_call G2 (C.hr.mono (by decide)) (ea_cons (ev_var 4) (ea_cons (ev_var 5) ea_nil)) ⟨p, TM.col u j, M, A, N, B, rfl, ro, colOk j hj, by rw [wt p hp, TM.col_len, lu], rfl, rfl⟩
abbrev sTPr : Stmt := top 37
theorem scTPr : FnScope ["one", "other"] ["one", "other"] (defScope sTPr) := ⟨rfl, rfl, rfl, by decide +kernel, rfl, by decide +kernel, by decide +kernel⟩
def rTPr : Rel := fun as s d s' => ∃ es t fs u m M A N B, as = [.val (.tuple es), .val (.tuple fs)] ∧ TabD es t u.length ∧ TabD fs u m ∧ u.length ≤ 4 ∧ TSz t M A ∧ TSz u N B ∧ d = tD (TM.mul t u m) ∧ s' = s
theorem ok_tpr (F : Fun K "table_product" "table_product" sTPr f fd) (T : Top mg) (G1 : Dn P w K mg base 6 "_need_table" rNT) (G2 : Dn P w K mg base 4 "_product" rPro) : FnOk P w K mg base CX0 7 f fd ["one", "other"] (spD rTPr) := by
  refine okD F scTPr (by rintro _ _ _ _ ⟨es, t, fs, u, m, M, A, N, B, rfl, _⟩; rfl) fun cdv A0 outer s0 H0 E C z as s₁ d s h => ?_
  obtain ⟨es, t, fs, u, m, M, A, N, B, rfl, ht, hu, k4, st, su, rfl, rfl⟩ := h
  have l2 := hu.l.length
  obtain ⟨d1, hd1, hl1⟩ := ht.first
  refine sr_expr (ev_call G1 C.hr (ea_cons (ev_var 0) ea_nil) ⟨es, t, _, rfl, ht, rfl, rfl⟩) ?_
  refine sr_expr (ev_call G1 C.hr (ea_cons (ev_var 1) ea_nil) ⟨fs, u, m, rfl, hu, rfl, rfl⟩) ?_
  refine sr_ifF (ET.is (et_neI C.hu (ev_bltn call_len rb_lenT T.len (ed_cons (ev_ixT (ev_var 0) ev_int (atI_nat (j := 0) hd1)) ed_nil)) (ev_bltn call_len rb_lenT T.len (ed_cons (ev_var 1) ed_nil))) (by rw [hl1, l2]; simp)) ?_
  exact sr_ret (ev_call G2 (C.hr.mono (by decide)) (ea_cons (ev_var 0) (ea_cons (ev_var 1) ea_nil)) ⟨es, t, u.length, fs, u, m, M, A, N, B, rfl, ht.l, hu.l, ht.n, ht.w, rfl, hu.n0, k4, hu.w, hu.m1, st, su, rfl, rfl⟩)
abbrev sRTi : Stmt := top 38
theorem scRTi : FnScope ["row", "table"] ["row", "table"] (defScope sRTi) := ⟨rfl, rfl, rfl, by decide +kernel, rfl, by decide +kernel, by decide +kernel⟩
def rRTi : Rel := fun as s d s' => ∃ ds p fs u m M A N B, as = [.val (.tuple ds), .val (.tuple fs)] ∧ NmL ds p ∧ p.length = u.length ∧ TabD fs u m ∧ u.length ≤ 4 ∧ RowOk p M A ∧ TSz u N B ∧ d = .tuple (((List.range m).map fun j => TM.dot p (TM.col u j)).map cD) ∧ s' = s
theorem ok_rti (F : Fun K "row_times" "row_times" sRTi f fd) (T : Top mg) (G1 : Dn P w K mg base 5 "_need_row" rNR) (G2 : Dn P w K mg base 6 "_need_table" rNT) (G3 : Dn P w K mg base 4 "_product" rPro) : FnOk P w K mg base CX0 7 f fd ["row", "table"] (spD rRTi) := by
  refine okD F scRTi (by rintro _ _ _ _ ⟨ds, p, fs, u, m, M, A, N, B, rfl, _⟩; rfl) fun cdv A0 outer s0 H0 E C z as s₁ d s h => ?_
  obtain ⟨ds, p, fs, u, m, M, A, N, B, rfl, hp, hl, hu, k4, sp, su, rfl, rfl⟩ := h
  have l1 := hp.length
  have l2 := hu.l.length
  have u0 := hu.n0
  refine sr_expr (ev_call G1 (C.hr.mono (by decide)) (ea_cons (ev_var 0) ea_nil) ⟨ds, p, rfl, hp, by omega, by omega, rfl, rfl⟩) ?_
  refine sr_expr (ev_call G2 C.hr (ea_cons (ev_var 1) ea_nil) ⟨fs, u, m, rfl, hu, rfl, rfl⟩) ?_
  refine sr_ifF (ET.is (et_neI C.hu (ev_bltn call_len rb_lenT T.len (ed_cons (ev_var 0) ed_nil)) (ev_bltn call_len rb_lenT T.len (ed_cons (ev_var 1) ed_nil))) (by rw [l1, l2, hl]; simp)) ?_
  refine sr_ret (ev_ixT (ev_call G3 (C.hr.mono (by decide)) (ea_cons (ev_tup (ed_cons (ev_var 0) ed_nil)) (ea_cons (ev_var 1) ea_nil)) ⟨[.tuple ds], [p], u.length, fs, u, m, M, A, N, B, rfl, .cons hp .nil, hu.l, by simp, fun q hq => by rw [List.mem_singleton.mp hq, hl], rfl, u0, k4, hu.w, hu.m1, TSz.one sp, su, rfl, rfl⟩) ev_int (atI_nat (j := 0) rfl))
abbrev sTrc : Stmt := top 39
theorem scTrc : FnScope ["table", "trace", "index", "row"] ["table"] (defScope sTrc) := ⟨rfl, rfl, rfl, by decide +kernel, rfl, by decide +kernel, by decide +kernel⟩
def rTrc : Rel := fun as s d s' => ∃ es t M A, as = [.val (.tuple es)] ∧ TabD es t t.length ∧ TSz t M A ∧ t.length ≤ 10 ∧ d = cD (trace t) ∧ s' = s
theorem sumL_snoc (l : List Rat) (x : Rat) : TM.sumL (l ++ [x]) = TM.sumL l + x := by
  unfold TM.sumL
  rw [List.foldl_append]
  rfl
theorem ok_trc (F : Fun K "table_trace" "table_trace" sTrc f fd) (T8 : Top8 mg) (G1 : Dn P w K mg base 6 "_need_table" rNT) (G2 : Dn P w K mg base 1 "_need_square" rNS) (G3 : Dn P w K mg base 6 "added" rAdd) : FnOk P w K mg base CX0 7 f fd ["table"] (spD rTrc) := by
  refine okO F scTrc (by rintro _ _ _ _ ⟨es, t, M, A, rfl, _⟩; rfl) (by rintro _ _ _ _ ⟨es, t, M, A, rfl, _⟩ ds h; simp at h) fun cdv A0 outer s0 H0 E C as s₁ d s h => ?_
  obtain ⟨es, t, M, A, rfl, ht, st, t10, rfl, rfl⟩ := h
  have l1 := ht.l.length
  let part : Nat → Rat := fun i => TM.sumL ((List.range i).map fun k => TM.en t k k)
  have pz : ∀ i, i ≤ t.length → Sz M (i * A) (part i) := by
    intro i
    induction i with
    | zero => intro _; exact .zero
    | succ i ih =>
      intro hi
      show Sz M _ (TM.sumL _)
      rw [List.range_succ, List.map_append, show (i + 1) * A = i * A + A by grind]
      rw [show (List.map (fun k => TM.en t k k) [i]) = [TM.en t i i] from rfl, sumL_snoc]
      exact (ih (by omega)).add (st.sz _ (TM.rw_mem (by omega)) _ (List.mem_of_getElem? (TM.at1_get (by rw [ht.w _ (TM.rw_mem (by omega))]; omega))))
  refine so_expr (fun z => ev_call G1 C.hr (ea_cons (ev_var 0) ea_nil) ⟨es, t, _, rfl, ht, rfl, rfl⟩) ?_
  refine so_expr (fun z => ev_call G2 (C.hr.mono (by decide)) (ea_cons (ev_var 0) ea_nil) ⟨es, t, rfl, ht, rfl, rfl⟩) ?_
  refine so_asg (d := cD (part 0)) 1 C.nd (fun z => ev_tup (ed_cons ev_int (ed_cons ev_int ed_nil))) ?_
  refine so_forET 2 3 C.hp C.calm T8.enum (fun z => ed_cons (ev_var 0) ed_nil) (fun i => [.val (.tuple es), .val (cD (part i)), .un, .un]) (fun _ => s) (Le.refl _) rfl (fun i d hd => ?_) ?_ (pg_tup C.calm (pgs_cons (pg_name C.nd rfl (.inl rfl)) (pgs_cons (pg_name C.nd rfl (.inl rfl)) pgs_nil)))
  · obtain ⟨ds, p, hp, rfl, hn⟩ := ht.l.get hd
    have hi : i < t.length := (List.getElem?_eq_some_iff.mp hp).1
    have wp := ht.w p (List.mem_of_getElem? hp)
    have ld := hn.length
    have hdi : ds[i]? = some (ds.getD i .none) := by
      rw [List.getD_eq_getElem?_getD, List.getElem?_eq_getElem (by omega)]
      rfl
    obtain ⟨q, hq, nq⟩ := hn.get hdi
    have eq1 : TM.en t i i = q := by
      unfold TM.en
      rw [TM.rw_of hp, TM.at1_of hq]
    have step : part (i + 1) = part i + q := by
      show TM.sumL _ = TM.sumL _ + q
      rw [List.range_succ, List.map_append, ← eq1]
      exact sumL_snoc _ _
    have big : i * A * M < 2 ^ 3000 := by
      have h1 := st.a
      have h2 : i * A * M ≤ 10 * (A * M) := by
        rw [Nat.mul_assoc]
        exact Nat.mul_le_mul_right _ (by omega)
      have h3 : 10 * (2 ^ 2900 : Nat) < 2 ^ 3000 := by
        rw [show (3000 : Nat) = 100 + 2900 from rfl, Nat.pow_add]
        exact Nat.mul_lt_mul_of_pos_right (by decide) (Nat.pow_pos (by decide))
      have h4 : 10 * (A * M) ≤ 10 * 2 ^ 2900 := Nat.mul_le_mul_left _ (Nat.le_of_lt h1)
      exact Nat.lt_of_le_of_lt h2 (Nat.lt_of_le_of_lt h4 h3)
    refine so_asg (d := cD (part (i + 1))) 1 C.nd (fun z => ev_call G3 (C.hr.mono (by decide)) (ea_cons (ev_var 1) (ea_cons (ev_ixT (i := (i : Int)) (ev_var 3) (ev_var 2) (atI_nat (j := i) hdi)) ea_nil)) ⟨_, _, part i, q, rfl, nmq_cD _, nq, (pz i (by omega)).qb st.m big (Nat.lt_trans st.m2 (Nat.pow_lt_pow_right (by decide) (by decide))), st.qb p (List.mem_of_getElem? hp) q (List.mem_of_getElem? hq), by rw [step], rfl⟩) ?_
    exact so_le so_nil (.same (.same (.un (.un .nil))))
  · rw [l1]
    exact so_ret fun z => ev_var 1
end
end K3


set_option Elab.async false
set_option linter.all false
set_option maxRecDepth 100000
set_option exponentiation.threshold 9000
namespace K3
open PySem PySem.Spec PyProof.Rows L2 DL PM
/-! ### the dice -/
def oneV (s : S) : Int := (s.2.1 + 99990067 * (s.2.2 + 1)).fmod 2305843009213693381
def twoV (s : S) : Int := (oneV s * oneV s + 89 * (s.2.2 + 1)).fmod 2305843009213693343 * 8675309 + oneV s
def rollV (s : S) (n : Int) : Int := if 0 < s.1 then s.1.fmod n else ((twoV s).fdiv 65551).fmod n
def rollS (s : S) (n : Int) : S := if 0 < s.1 then (s.1.fdiv n, s.2.1, s.2.2) else (s.1, s.2.1, s.2.2 + 1)
theorem fmod_bd {i n : Int} (h : 0 < n) : 0 ≤ i.fmod n ∧ i.fmod n < n := by
  rw [Int.fmod_eq_emod_of_nonneg _ (by omega)]
  exact ⟨Int.emod_nonneg _ (by omega), Int.emod_lt_of_pos _ h⟩
theorem roll_bd (s : S) {n : Int} (h : 0 < n) : 0 ≤ rollV s n ∧ rollV s n < n := by
  unfold rollV
  split <;> exact fmod_bd h
theorem gcd_turn (x y : Nat) : Nat.gcd y (x % y) = Nat.gcd x y := by
  rw [Nat.gcd_comm y (x % y), ← Nat.gcd_rec, Nat.gcd_comm]
section
variable {P : Program} {w : World} {K : PySem.W.Frag} {mg : Str → Option Value} {base : Heap} {f : Addr} {fd : FuncData}
abbrev sRoll : Stmt := top 42
theorem scRoll : FnScope ["_law_dice_here", "_law_total", "_law_one", "_law_two", "_law_found"] ["_law_dice_here", "_law_total"] (defScope sRoll) := ⟨rfl, rfl, rfl, by decide +kernel, rfl, by decide +kernel, by decide +kernel⟩
def rRoll : Rel := fun as s d s' => ∃ n, as = [.dice, .val (.int n)] ∧ 0 < n ∧ Bd 9000 n ∧ d = .int (rollV s n) ∧ s' = rollS s n
theorem ok_roll (F : Fun K "_law_roll" "_law_roll" sRoll f fd) (T : Top mg) : FnOk P w K mg base CX0 1 f fd ["_law_dice_here", "_law_total"] (spD rRoll) := by
  refine okD F scRoll (by rintro _ _ _ _ ⟨n, rfl, _⟩; rfl) fun cdv A outer s0 H0 E C z as s d s' h => ?_
  obtain ⟨n, rfl, n0, hn, rfl, rfl⟩ := h
  obtain ⟨a, b, c⟩ := s
  by_cases h0 : 0 < a
  · have e1 : rollV (a, b, c) n = a.fmod n := if_pos h0
    have e2 : rollS (a, b, c) n = (a.fdiv n, b, c) := if_pos h0
    rw [e1, e2]
    refine sr_ifT (ET.is (et_gt (ev_dice 0 0) ev_int) (decide_eq_true h0)) ?_
    refine sr_asg 4 C.nd (ev_mod (show n ≠ 0 by omega) (ev_bty call_int1 rb_int T.int (ed_cons (ev_dice 0 0) ed_nil)) (ev_var 1)) ?_
    refine sr_put 0 0 (ev_div (hn.cdiv (by omega)) (ev_dice 0 0) (ev_var 1)) ?_
    exact sr_ret (ev_var 4)
  · have e1 : rollV (a, b, c) n = ((twoV (a, b, c)).fdiv 65551).fmod n := if_neg h0
    have e2 : rollS (a, b, c) n = (a, b, c + 1) := if_neg h0
    rw [e1, e2]
    have m1 : -(2 ^ 64) < oneV (a, b, c) ∧ oneV (a, b, c) < 2 ^ 64 := by
      have := fmod_bd (i := b + 99990067 * (c + 1)) (n := 2305843009213693381) (by decide)
      unfold oneV
      dsimp only
      omega
    have m2 : -(2 ^ 64) < (oneV (a, b, c) * oneV (a, b, c) + 89 * (c + 1)).fmod 2305843009213693343 ∧ (oneV (a, b, c) * oneV (a, b, c) + 89 * (c + 1)).fmod 2305843009213693343 < 2 ^ 64 := by
      have := fmod_bd (i := oneV (a, b, c) * oneV (a, b, c) + 89 * (c + 1)) (n := 2305843009213693343) (by decide)
      omega
    refine sr_ifF (ET.is (et_gt (ev_dice 0 0) ev_int) (decide_eq_false h0)) ?_
    refine sr_put 0 2 (ev_add (ev_dice 0 2) ev_int) ?_
    refine sr_asg (d := .int (oneV (a, b, c))) 2 C.nd (ev_mod (by decide) (ev_bty call_int1 rb_int T.int (ed_cons (ev_add (ev_dice 0 1) (ev_mulL (by decide) ev_int (ev_dice 0 2))) ed_nil)) ev_int) ?_
    refine sr_asg (d := .int (twoV (a, b, c))) 3 C.nd (ev_add (ev_mulL m2 (ev_mod (by decide) (ev_bty call_int1 rb_int T.int (ed_cons (ev_add (ev_mulL m1 (ev_var 2) (ev_var 2)) (ev_mulL (by decide) ev_int (ev_dice 0 2))) ed_nil)) ev_int) ev_int) (ev_var 2)) ?_
    exact sr_ret (ev_mod (show n ≠ 0 by omega) (ev_bty call_int1 rb_int T.int (ed_cons (ev_div ⟨by decide, by decide⟩ (ev_var 3) ev_int) ed_nil)) (ev_var 1))
abbrev sGcd : Stmt := top 44
theorem scGcd : FnScope ["_law_one", "_law_other"] ["_law_one", "_law_other"] (defScope sGcd) := ⟨rfl, rfl, rfl, by decide +kernel, rfl, by decide +kernel, by decide +kernel⟩
def rGcd' : Rel := fun as s d s' => ∃ a b, as = [.val (.int a), .val (.int b)] ∧ d = .int (Nat.gcd a.natAbs b.natAbs : Nat) ∧ s' = s
theorem ok_gcd (F : Fun K "_law_gcd" "_law_gcd" sGcd f fd) (T : Top mg) : FnOk P w K mg base CX0 1 f fd ["_law_one", "_law_other"] (spD rGcd') := by
  refine okD F scGcd (by rintro _ _ _ _ ⟨a, b, rfl, _⟩; rfl) fun cdv A outer s0 H0 E C z as s₁ d s h => ?_
  obtain ⟨a, b, rfl, rfl, rfl⟩ := h
  refine sr_par 0 1 C.calm C.nd (ed_cons (ev_bltn call_abs rb_abs T.abs (ed_cons (ev_var 0) ed_nil)) (ed_cons (ev_bltn call_abs rb_abs T.abs (ed_cons (ev_var 1) ed_nil)) ed_nil)) ?_
  refine sr_whileW C.hp (fun m es s' => s' = s ∧ ∃ x : Nat, es = [.val (.int (x : Int)), .val (.int (m : Int))] ∧ Nat.gcd x m = Nat.gcd a.natAbs b.natAbs) (m0 := b.natAbs) ⟨rfl, a.natAbs, rfl, rfl⟩ ?_
  rintro m es s' ⟨rfl, x, rfl, hg⟩
  by_cases hm : 0 < m
  · right
    refine ⟨ET.is (et_gt (ev_var 1) ev_int) (decide_eq_true (by omega)), _, s', x % m, Nat.mod_lt _ hm, ⟨rfl, m, rfl, by rw [gcd_turn, hg]⟩, ?_⟩
    have e : ((x : Int)).fmod (m : Int) = ((x % m : Nat) : Int) := by
      rw [Int.fmod_eq_emod_of_nonneg _ (by omega)]
      rfl
    refine sr_par 0 1 C.calm C.nd (ed_cons (ev_var 1) (ed_cons (EV.is (ev_mod (show (m : Int) ≠ 0 by omega) (ev_bty call_int1 rb_int T.int (ed_cons (ev_var 0) ed_nil)) (ev_var 1)) (by rw [e])) ed_nil)) sr_nil
  · left
    have e0 : m = 0 := by omega
    subst e0
    rw [Nat.gcd_zero_right] at hg
    subst hg
    exact ⟨ET.is (et_gt (ev_var 1) ev_int) (decide_eq_false (by decide)), sr_ret (ev_var 0)⟩
abbrev sLFr : Stmt := top 45
theorem scLFr : FnScope ["_law_top", "_law_bottom", "_law_shared"] ["_law_top", "_law_bottom"] (defScope sLFr) := ⟨rfl, rfl, rfl, by decide +kernel, rfl, by decide +kernel, by decide +kernel⟩
theorem ok_lfr (F : Fun K "_law_fraction" "_law_fraction" sLFr f fd) (G : Dn P w K mg base 1 "_law_gcd" rGcd') : FnOk P w K mg base CX0 2 f fd ["_law_top", "_law_bottom"] (spD rQuot) := by
  refine okD F scLFr (by rintro _ _ _ _ ⟨v, t, rfl, _⟩; rfl) fun cdv A outer s0 H0 E C z as s₁ d s h => ?_
  obtain ⟨t, b, rfl, hb, hB, rfl, rfl⟩ := h
  refine sr_asg 2 C.nd (ev_call G C.hr (ea_cons (ev_var 0) (ea_cons (ev_var 1) ea_nil)) ⟨_, _, rfl, rfl, rfl⟩) ?_
  have fin : SR (cxOf CX0 P w K mg base ["_law_top", "_law_bottom", "_law_shared"] "_law_fraction" (defScope sLFr) f cdv A outer s0 H0 E).nox z ((defBody sLFr).drop 2) [.val (.int t), .val (.int b), .val (.int (gq t b))] s (.rt (frD t b) s) :=
    sr_ret (ev_tup (ed_cons (ev_div ((gq_bd hb hB).cdiv (gq_ne hb)) (ev_var 0) (ev_var 2)) (ed_cons (ev_div ((gq_bd hb hB).cdiv (gq_ne hb)) (ev_var 1) (ev_var 2)) ed_nil)))
  by_cases h0 : b < 0
  · have e : gq t b = -((Nat.gcd t.natAbs b.natAbs : Nat) : Int) := if_pos h0
    rw [e] at fin
    exact sr_ifTn (ET.is (et_lt (ev_var 1) ev_int) (decide_eq_true h0)) (sr_asg 2 C.nd (ev_neg (ev_var 2)) sr_nil) fin
  · have e : gq t b = ((Nat.gcd t.natAbs b.natAbs : Nat) : Int) := if_neg h0
    rw [e] at fin
    exact sr_ifF (ET.is (et_lt (ev_var 1) ev_int) (decide_eq_false h0)) fin
/-! ### the law's own sums -/
def prD (t b : Int) : PyData := .tuple [.int t, .int b]
theorem ev_fst {X : Cx} {z : Z} {e : Expr} {es : List Sl} {s s1 : S} {t b : Int} {pos p : Pos} {j} (h : EV X z e es s (prD t b) s1) : EV X z (.Subscript e (.Constant (.int 0) j p) pos) es s (.int t) s1 := ev_ixT h ev_int (atI_nat (j := 0) rfl)
theorem ev_snd {X : Cx} {z : Z} {e : Expr} {es : List Sl} {s s1 : S} {t b : Int} {pos p : Pos} {j} (h : EV X z e es s (prD t b) s1) : EV X z (.Subscript e (.Constant (.int 1) j p) pos) es s (.int b) s1 := ev_ixT h ev_int (atI_nat (j := 1) rfl)
def rPlus : Rel := fun as s d s' => ∃ t b o u, as = [.val (prD t b), .val (prD o u)] ∧ Bd 3000 t ∧ Bd 3000 b ∧ Bd 3000 o ∧ Bd 3000 u ∧ b * u ≠ 0 ∧ d = frD (t * u + o * b) (b * u) ∧ s' = s
abbrev sPlus : Stmt := top 46
theorem scPlus : FnScope ["_law_one", "_law_other"] ["_law_one", "_law_other"] (defScope sPlus) := ⟨rfl, rfl, rfl, by decide +kernel, rfl, by decide +kernel, by decide +kernel⟩
theorem ok_plus (F : Fun K "_law_plus" "_law_plus" sPlus f fd) (G : Dn P w K mg base 2 "_law_fraction" rQuot) : FnOk P w K mg base CX0 3 f fd ["_law_one", "_law_other"] (spD rPlus) := by
  refine okD F scPlus (by rintro _ _ _ _ ⟨t, b, o, u, rfl, _⟩; rfl) fun cdv A outer s0 H0 E C z as s₁ d s h => ?_
  obtain ⟨t, b, o, u, rfl, ht, hb, ho, hu, h0, rfl, rfl⟩ := h
  exact sr_ret (ev_call G C.hr (ea_cons (ev_add (ev_mul (ht.cmul hu) (ev_fst (ev_var 0)) (ev_snd (ev_var 1))) (ev_mul (ho.cmul hb) (ev_fst (ev_var 1)) (ev_snd (ev_var 0)))) (ea_cons (ev_mul (hb.cmul hu) (ev_snd (ev_var 0)) (ev_snd (ev_var 1))) ea_nil)) ⟨_, _, rfl, h0, (hb.mul hu).mono (by decide), rfl, rfl⟩)
def rTimes : Rel := fun as s d s' => ∃ t b o u, as = [.val (prD t b), .val (prD o u)] ∧ Bd 3000 t ∧ Bd 3000 b ∧ Bd 3000 o ∧ Bd 3000 u ∧ b * u ≠ 0 ∧ d = frD (t * o) (b * u) ∧ s' = s
abbrev sTimes : Stmt := top 47
theorem scTimes : FnScope ["_law_one", "_law_other"] ["_law_one", "_law_other"] (defScope sTimes) := ⟨rfl, rfl, rfl, by decide +kernel, rfl, by decide +kernel, by decide +kernel⟩
theorem ok_times (F : Fun K "_law_times" "_law_times" sTimes f fd) (G : Dn P w K mg base 2 "_law_fraction" rQuot) : FnOk P w K mg base CX0 3 f fd ["_law_one", "_law_other"] (spD rTimes) := by
  refine okD F scTimes (by rintro _ _ _ _ ⟨t, b, o, u, rfl, _⟩; rfl) fun cdv A outer s0 H0 E C z as s₁ d s h => ?_
  obtain ⟨t, b, o, u, rfl, ht, hb, ho, hu, h0, rfl, rfl⟩ := h
  exact sr_ret (ev_call G C.hr (ea_cons (ev_mul (ht.cmul ho) (ev_fst (ev_var 0)) (ev_fst (ev_var 1))) (ea_cons (ev_mul (hb.cmul hu) (ev_snd (ev_var 0)) (ev_snd (ev_var 1))) ea_nil)) ⟨_, _, rfl, h0, (hb.mul hu).mono (by decide), rfl, rfl⟩)
end
/-! ### the law's sums, on rational numbers -/
def rPlusQ : Rel := fun as s d s' => ∃ p q, as = [.val (cD p), .val (cD q)] ∧ Qb p ∧ Qb q ∧ d = cD (p + q) ∧ s' = s
def rTimesQ : Rel := fun as s d s' => ∃ p q, as = [.val (cD p), .val (cD q)] ∧ Qb p ∧ Qb q ∧ d = cD (p * q) ∧ s' = s
theorem Qb.plus {as : List Sl} {s s' : S} {d : PyData} (h : rPlusQ as s d s') : rPlus as s d s' := by
  obtain ⟨p, q, rfl, hp, hq, rfl, rfl⟩ := h
  exact ⟨_, _, _, _, rfl, hp.1, hp.2, hq.1, hq.2, den_mul_ne p q, (fr_add p q).symm, rfl⟩
theorem Qb.times {as : List Sl} {s s' : S} {d : PyData} (h : rTimesQ as s d s') : rTimes as s d s' := by
  obtain ⟨p, q, rfl, hp, hq, rfl, rfl⟩ := h
  exact ⟨_, _, _, _, rfl, hp.1, hp.2, hq.1, hq.2, den_mul_ne p q, (fr_mul p q).symm, rfl⟩
end K3


set_option Elab.async false
set_option linter.all false
set_option maxRecDepth 100000
set_option exponentiation.threshold 9000
namespace K3
open PySem PySem.Spec PyProof.Rows L2 DL PM
/-! ### lists that are made with the dice going along -/
section
variable {α β : Type}
def scS (g : S → α → S) : S → List α → S
  | s, [] => s
  | s, a :: l => scS g (g s a) l
def scD (f : S → α → β) (g : S → α → S) : S → List α → List β
  | _, [] => []
  | s, a :: l => f s a :: scD f g (g s a) l
theorem scS_take {g : S → α → S} : ∀ {l : List α} {s : S} {i : Nat} {a : α}, l[i]? = some a → scS g s (l.take (i + 1)) = g (scS g s (l.take i)) a
  | [], _, _, _, h => by simp at h
  | b :: l, s, 0, a, h => by
    cases h
    rfl
  | b :: l, s, i + 1, a, h => by
    show scS g (g s b) (l.take (i + 1)) = g (scS g (g s b) (l.take i)) a
    exact scS_take h
theorem scD_len {f : S → α → β} {g : S → α → S} : ∀ {l : List α} {s : S}, (scD f g s l).length = l.length
  | [], _ => rfl
  | _ :: l, s => by rw [scD, List.length_cons, List.length_cons, scD_len]
theorem scD_get {f : S → α → β} {g : S → α → S} : ∀ {l : List α} {s : S} {i : Nat} {a : α}, l[i]? = some a → (scD f g s l)[i]? = some (f (scS g s (l.take i)) a)
  | [], _, _, _, h => by simp at h
  | b :: l, s, 0, a, h => by
    cases h
    rfl
  | b :: l, s, i + 1, a, h => by
    show (scD f g (g s b) l)[i]? = some (f (scS g (g s b) (l.take i)) a)
    exact scD_get h
theorem scD_map {γ : Type} {f : S → α → β} {g : S → α → S} {h : β → γ} : ∀ {l : List α} {s : S}, (scD f g s l).map h = scD (fun s a => h (f s a)) g s l
  | [], _ => rfl
  | _ :: l, s => by rw [scD, scD, List.map_cons, scD_map]
theorem scD_mem {f : S → α → β} {g : S → α → S} {p : β → Prop} (h : ∀ s a, p (f s a)) : ∀ {l : List α} {s : S}, ∀ b ∈ scD f g s l, p b
  | [], _, b, hb => by cases hb
  | a :: l, s, b, hb => by
    rcases List.mem_cons.mp hb with rfl | hb
    · exact h s a
    · exact scD_mem h b hb
/-- as a comprehension tells it -/
def scF (f : S → α → PyData) (g : S → α → S) (l : List α) (s : S) (i : Nat) : PyData := match l[i]? with | some a => f (scS g s (l.take i)) a | none => .none
theorem scF_get {f : S → α → PyData} {g : S → α → S} {l : List α} {s : S} {i : Nat} {a : α} (h : l[i]? = some a) : scF f g l s i = f (scS g s (l.take i)) a := by
  unfold scF
  rw [h]
theorem scD_range {f : S → α → PyData} {g : S → α → S} {l : List α} {s : S} : (List.range l.length).map (scF f g l s) = scD f g s l := by
  apply List.ext_getElem?
  intro i
  by_cases hi : i < l.length
  · rw [List.getElem?_map, List.getElem?_range hi]
    have ha := List.getElem?_eq_getElem hi
    rw [scD_get ha]
    show some (scF f g l s i) = _
    rw [scF_get ha]
  · rw [List.getElem?_eq_none (by rw [List.length_map, List.length_range]; omega), List.getElem?_eq_none (by rw [scD_len]; omega)]
end
theorem cD_int (i : Int) : cD (i : Rat) = .tuple [.int i, .int 1] := rfl
/-- the law's own table -/
def lD (t : List (List Rat)) : PyData := .list (t.map fun p => .list (p.map cD))
theorem pq_lD {t : List (List Rat)} : Pq 3 (lD t) := pq_lst fun d hd => by
  obtain ⟨q, _, rfl⟩ := List.mem_map.mp hd
  exact pq_lst fun d hd => by
    obtain ⟨q, _, rfl⟩ := List.mem_map.mp hd
    exact pq_cD
def pickD (s : S) (ds : List PyData) : PyData := ds.getD (rollV s (ds.length : Int)).toNat .none
theorem pick_get (s : S) {ds : List PyData} (h : ds ≠ []) : ∃ i, i < ds.length ∧ rollV s (ds.length : Int) = (i : Int) ∧ ds[i]? = some (pickD s ds) := by
  have hl : 0 < ds.length := List.length_pos_iff.mpr h
  have hb := roll_bd s (n := (ds.length : Int)) (by omega)
  refine ⟨(rollV s (ds.length : Int)).toNat, by omega, by omega, ?_⟩
  unfold pickD
  rw [List.getD_eq_getElem?_getD, List.getElem?_eq_getElem (by omega)]
  rfl
/-- a drawn number -/
def nbT (s : S) (m : Int) : Int := rollV s (2 * m + 1) - m
def nbS2 (s : S) (m : Int) : S := rollS (rollS s (2 * m + 1)) 3
def nbQ (s : S) (m : Int) : Rat := if rollV (rollS s (2 * m + 1)) 3 = 0 then ((nbT s m : Int) : Rat) / ((1 + rollV (nbS2 s m) 4 : Int) : Rat) else ((nbT s m : Int) : Rat)
def nbS (s : S) (m : Int) : S := if rollV (rollS s (2 * m + 1)) 3 = 0 then rollS (nbS2 s m) 4 else nbS2 s m
theorem sz_quarter {t b : Int} {A : Nat} (ht : t.natAbs ≤ A) (h0 : 1 ≤ b) (h4 : b ≤ 4) : Sz 12 A ((t : Rat) / (b : Rat)) := by
  have hk : ∃ k : Int, k * b = 12 ∧ 0 ≤ k ∧ k ≤ 12 := by
    rcases (show b = 1 ∨ b = 2 ∨ b = 3 ∨ b = 4 by omega) with rfl | rfl | rfl | rfl
    · exact ⟨12, by decide⟩
    · exact ⟨6, by decide⟩
    · exact ⟨4, by decide⟩
    · exact ⟨3, by decide⟩
  obtain ⟨k, hk, k0, k12⟩ := hk
  refine ⟨t * k, ?_, ?_⟩
  · have hb := ic_ne (show b ≠ 0 by omega)
    have : ((12 : Nat) : Int) = k * b := by omega
    rw [this, Rat.intCast_mul, Rat.intCast_mul]
    grind
  · rw [Int.natAbs_mul]
    exact Nat.mul_le_mul ht (by omega)
theorem nb_sz (s : S) {m : Int} (h0 : 0 < m) {A : Nat} (hA : m ≤ (A : Int)) : Sz 12 A (nbQ s m) := by
  have h1 := roll_bd s (n := 2 * m + 1) (by omega)
  have ht : (nbT s m).natAbs ≤ A := by
    unfold nbT
    omega
  unfold nbQ
  split
  · have h2 := roll_bd (nbS2 s m) (n := 4) (by omega)
    exact sz_quarter ht (by omega) (by omega)
  · exact .int ht
def psD (s : S) (q : Rat) : PyData := if q.den = 1 ∧ rollV s 2 = 0 then .int q.num else cD q
def psS (s : S) (q : Rat) : S := if q.den = 1 then rollS s 2 else s
theorem ps_nm (s : S) {q : Rat} (h : -(10 ^ 60) < q.num ∧ q.num < 10 ^ 60) : NmQ (psD s q) q := by
  unfold psD
  split
  · rename_i hq
    have : (q.den : Int) = 1 := by omega
    show Nm _ q.num (q.den : Int)
    rw [this]
    exact .int h.1 h.2
  · exact nmq_cD q
section
variable {P : Program} {w : World} {K : PySem.W.Frag} {mg : Str → Option Value} {base : Heap} {f : Addr} {fd : FuncData}
abbrev sPick : Stmt := top 43
theorem scPick : FnScope ["_law_dice_here", "_law_items"] ["_law_dice_here", "_law_items"] (defScope sPick) := ⟨rfl, rfl, rfl, by decide +kernel, rfl, by decide +kernel, by decide +kernel⟩
def rPick : Rel := fun as s d s' => ∃ ds, (as = [.dice, .val (.list ds)] ∨ as = [.dice, .own ds]) ∧ ds ≠ [] ∧ ds.length ≤ 1000 ∧ d = pickD s ds ∧ s' = rollS s (ds.length : Int)
theorem bd_small {n : Nat} (h : n ≤ 10 ^ 30) : Bd 9000 (n : Int) := by
  unfold Bd
  rw [Int.natAbs_natCast]
  exact Nat.lt_of_le_of_lt h (by decide)
theorem ok_pick (F : Fun K "_law_pick" "_law_pick" sPick f fd) (T : Top mg) (G : Dn P w K mg base 1 "_law_roll" rRoll) : FnOk P w K mg base CX0 2 f fd ["_law_dice_here", "_law_items"] (spD rPick) := by
  refine okD F scPick (by rintro _ _ _ _ ⟨ds, rfl | rfl, _⟩ <;> rfl) fun cdv A0 outer s0 H0 E C z as s₁ d s h => ?_
  obtain ⟨ds, has, h0, hl, rfl, rfl⟩ := h
  have hp : 0 < ds.length := List.length_pos_iff.mpr h0
  obtain ⟨i, hi, hr, hg⟩ := pick_get s₁ h0
  have b9 : Bd 9000 (ds.length : Int) := bd_small (by omega)
  rcases has with rfl | rfl
  · exact sr_ret (ev_ixL (i := (i : Int)) (ev_var 1) (EV.is (ev_call G C.hr (ea_dice 0 (ea_cons (ev_bltn call_len rb_len T.len (ed_cons (ev_var 1) ed_nil)) ea_nil)) ⟨_, rfl, by omega, b9, rfl, rfl⟩) (by rw [hr])) (atI_nat hg))
  · exact sr_ret (ev_ixO (ds := ds) 1 (EV.is (ev_call G C.hr (ea_dice 0 (ea_cons (ev_lenO (ds := ds) 1 T.len) ea_nil)) ⟨_, rfl, by omega, b9, rfl, rfl⟩) (by rw [hr])) (atI_nat hg))
abbrev sLS : Stmt := top 48
theorem scLS : FnScope ["_law_fractions", "_law_found", "_law_one"] ["_law_fractions"] (defScope sLS) := ⟨rfl, rfl, rfl, by decide +kernel, rfl, by decide +kernel, by decide +kernel⟩
def rLS : Rel := fun as s d s' => ∃ (p : List Rat) (M A : Nat), as = [.val (.list (p.map cD))] ∧ PSz M A p ∧ M ≠ 0 ∧ M < 2 ^ 3000 ∧ p.length ≤ 1000 ∧ p.length * A * M < 2 ^ 3000 ∧ A * M < 2 ^ 3000 ∧ d = cD (TM.sumL p) ∧ s' = s
theorem sumL_sz {M A : Nat} {p : List Rat} (h : PSz M A p) : ∀ i, i ≤ p.length → Sz M (i * A) (TM.sumL (p.take i)) := by
  intro i
  induction i with
  | zero => intro _; exact .zero
  | succ i ih =>
    intro hi
    rw [List.take_add_one, List.getElem?_eq_getElem (by omega), show (i + 1) * A = i * A + A by grind]
    show Sz M _ (TM.sumL (p.take i ++ [p[i]]))
    rw [sumL_snoc]
    exact (ih (by omega)).add (h _ (List.getElem_mem _))
theorem ok_ls (F : Fun K "_law_sum" "_law_sum" sLS f fd) (G : Dn P w K mg base 3 "_law_plus" rPlus) : FnOk P w K mg base CX0 4 f fd ["_law_fractions"] (spD rLS) := by
  refine okD F scLS (by rintro _ _ _ _ ⟨p, M, A, rfl, _⟩; rfl) fun cdv A0 outer s0 H0 E C z as s₁ d s h => ?_
  obtain ⟨p, M, A, rfl, hp, m0, m1, l1, b1, b2, rfl, rfl⟩ := h
  refine sr_asg (d := cD (TM.sumL (p.take 0))) 1 C.nd (ev_tup (ed_cons ev_int (ed_cons ev_int ed_nil))) ?_
  refine sr_forL 2 C.hp C.calm C.nd (ev_var 0) (fun i => [.val (.list (p.map cD)), .val (cD (TM.sumL (p.take i))), .un]) (fun _ => s) (Le.refl _) rfl (fun i d hd => ?_) ?_
  · rw [List.getElem?_map] at hd
    cases hq : p[i]? with
    | none => rw [hq] at hd; cases hd
    | some q =>
      rw [hq] at hd
      cases hd
      have hi : i < p.length := (List.getElem?_eq_some_iff.mp hq).1
      have step : TM.sumL (p.take (i + 1)) = TM.sumL (p.take i) + q := by
        rw [List.take_add_one, hq]
        exact sumL_snoc _ _
      have b3 : i * A * M < 2 ^ 3000 := Nat.lt_of_le_of_lt (Nat.mul_le_mul_right _ (Nat.mul_le_mul_right _ (by omega))) b1
      refine sr_asg (d := cD (TM.sumL (p.take (i + 1)))) 1 C.nd (ev_call G C.hr (ea_cons (ev_var 1) (ea_cons (ev_var 2) ea_nil)) (Qb.plus ⟨_, q, rfl, (sumL_sz hp i (by omega)).qb m0 b3 m1, (hp q (List.mem_of_getElem? hq)).qb m0 b2 m1, by rw [step], rfl⟩)) ?_
      exact sr_le sr_nil (.same (.same (.un .nil)))
  · rw [List.length_map, List.take_length]
    exact sr_ret (ev_var 1)
abbrev sNb : Stmt := top 49
theorem scNb : FnScope ["_law_dice_here", "_law_most", "_law_top"] ["_law_dice_here", "_law_most"] (defScope sNb) := ⟨rfl, rfl, rfl, by decide +kernel, rfl, by decide +kernel, by decide +kernel⟩
def rNb : Rel := fun as s d s' => ∃ m : Int, as = [.dice, .val (.int m)] ∧ 0 < m ∧ m ≤ 10 ^ 20 ∧ d = cD (nbQ s m) ∧ s' = nbS s m
theorem ok_nb (F : Fun K "_law_tb_number" "_law_tb_number" sNb f fd) (G1 : Dn P w K mg base 1 "_law_roll" rRoll) (G2 : Dn P w K mg base 2 "_law_fraction" rQuot) : FnOk P w K mg base CX0 3 f fd ["_law_dice_here", "_law_most"] (spD rNb) := by
  refine okD F scNb (by rintro _ _ _ _ ⟨m, rfl, _⟩; rfl) fun cdv A0 outer s0 H0 E C z as s d s' h => ?_
  obtain ⟨m, rfl, h0, h1, rfl, rfl⟩ := h
  have b1 : Bd 9000 (2 * m + 1) := by
    unfold Bd
    exact Nat.lt_of_le_of_lt (show (2 * m + 1).natAbs ≤ 10 ^ 30 by omega) (by decide)
  have r4 := roll_bd (nbS2 s m) (n := 4) (by decide)
  refine sr_asg (d := .int (nbT s m)) (s1 := rollS s (2 * m + 1)) 2 C.nd (ev_sub (ev_call G1 (C.hr.mono (by decide)) (ea_dice 0 (ea_cons (ev_add (ev_mulL (by decide) ev_int (ev_var 1)) ev_int) ea_nil)) ⟨_, rfl, by omega, b1, rfl, rfl⟩) (ev_var 1)) ?_
  have t3 : ET (cxOf CX0 P w K mg base ["_law_dice_here", "_law_most", "_law_top"] "_law_tb_number" (defScope sNb) f cdv A0 outer s0 H0 E).nox z (match (defBody sNb)[1]? with | some (Stmt.Return (some (Expr.IfExp e _ _ _)) _) => e | _ => .Constant .none 0 ⟨0, 0, 0, 0⟩) [.dice, .val (.int m), .val (.int (nbT s m))] (rollS s (2 * m + 1)) (decide (rollV (rollS s (2 * m + 1)) 3 = 0)) (nbS2 s m) :=
    et_eqI C.hu (ev_call G1 (C.hr.mono (by decide)) (ea_dice 0 (ea_cons ev_int ea_nil)) ⟨3, rfl, by decide, bd_small (n := 3) (by decide), rfl, rfl⟩) ev_int
  by_cases hc : rollV (rollS s (2 * m + 1)) 3 = 0
  · have e1 : nbS s m = rollS (nbS2 s m) 4 := if_pos hc
    have e2 : nbQ s m = ((nbT s m : Int) : Rat) / ((1 + rollV (nbS2 s m) 4 : Int) : Rat) := if_pos hc
    rw [e1, e2, ← frD_rat (by omega)]
    exact sr_ret (ev_ifT (ET.is t3 (decide_eq_true hc)) (ev_call G2 C.hr (ea_cons (ev_var 2) (ea_cons (ev_add ev_int (ev_call G1 (C.hr.mono (by decide)) (ea_dice 0 (ea_cons ev_int ea_nil)) ⟨4, rfl, by decide, bd_small (n := 4) (by decide), rfl, rfl⟩)) ea_nil)) ⟨_, _, rfl, by omega, by
      unfold Bd
      exact Nat.lt_of_le_of_lt (show (1 + rollV (nbS2 s m) 4).natAbs ≤ 10 by omega) (by decide), rfl, rfl⟩))
  · have e1 : nbS s m = nbS2 s m := if_neg hc
    have e2 : nbQ s m = ((nbT s m : Int) : Rat) := if_neg hc
    rw [e1, e2, cD_int]
    exact sr_ret (ev_ifF (ET.is t3 (decide_eq_false hc)) (ev_tup (ed_cons (ev_var 2) (ed_cons ev_int ed_nil))))
abbrev sPs : Stmt := top 50
theorem scPs : FnScope ["_law_dice_here", "_law_number"] ["_law_dice_here", "_law_number"] (defScope sPs) := ⟨rfl, rfl, rfl, by decide +kernel, rfl, by decide +kernel, by decide +kernel⟩
def rPs : Rel := fun as s d s' => ∃ q : Rat, as = [.dice, .val (cD q)] ∧ d = psD s q ∧ s' = psS s q
theorem ok_ps (F : Fun K "_law_tb_passed" "_law_tb_passed" sPs f fd) (G1 : Dn P w K mg base 1 "_law_roll" rRoll) : FnOk P w K mg base CX0 2 f fd ["_law_dice_here", "_law_number"] (spD rPs) := by
  refine okD F scPs (by rintro _ _ _ _ ⟨m, rfl, _⟩; rfl) fun cdv A0 outer s0 H0 E C z as s d s' h => ?_
  obtain ⟨q, rfl, rfl, rfl⟩ := h
  by_cases h1 : q.den = 1
  · have e1 : psS s q = rollS s 2 := if_pos h1
    have t1 : ∀ {k : Bool}, decide (rollV s 2 = 0) = k → ET (cxOf CX0 P w K mg base ["_law_dice_here", "_law_number"] "_law_tb_passed" (defScope sPs) f cdv A0 outer s0 H0 E).nox z (match (defBody sPs)[0]? with | some (Stmt.Return (some (Expr.IfExp e _ _ _)) _) => e | _ => .Constant .none 0 ⟨0, 0, 0, 0⟩) [.dice, .val (cD q)] s k (rollS s 2) := fun {k} hk =>
      et_w (ew_andT (ET.is (et_eqI C.hu (ev_snd (t := q.num) (b := (q.den : Int)) (ev_var 1)) ev_int) (decide_eq_true (by omega))) (ew_and1 (ET.is (et_eqI C.hu (ev_call G1 C.hr (ea_dice 0 (ea_cons ev_int ea_nil)) ⟨2, rfl, by decide, bd_small (n := 2) (by decide), rfl, rfl⟩) ev_int) hk)))
    by_cases h2 : rollV s 2 = 0
    · have e2 : psD s q = .int q.num := if_pos ⟨h1, h2⟩
      rw [e1, e2]
      exact sr_ret (ev_ifT (t1 (decide_eq_true h2)) (ev_fst (t := q.num) (b := (q.den : Int)) (ev_var 1)))
    · have e2 : psD s q = cD q := if_neg fun h => h2 h.2
      rw [e1, e2]
      exact sr_ret (ev_ifF (t1 (decide_eq_false h2)) (ev_var 1))
  · have e1 : psS s q = s := if_neg h1
    have e2 : psD s q = cD q := if_neg fun h => h1 h.1
    rw [e1, e2]
    exact sr_ret (ev_ifF (et_w (ew_andF (ET.is (et_eqI C.hu (ev_snd (t := q.num) (b := (q.den : Int)) (ev_var 1)) ev_int) (decide_eq_false (by omega))))) (ev_var 1))
end
end K3


set_option Elab.async false
set_option linter.all false
set_option maxRecDepth 100000
set_option exponentiation.threshold 9000
namespace K3
open PySem PySem.Spec PyProof.Rows L2 DL PM
def tupOf : PyData → PyData
  | .list ds => .tuple ds
  | d => d
theorem tupOf_l (t : List (List Rat)) : (t.map fun p => PyData.list (p.map cD)).map tupOf = t.map fun p => .tuple (p.map cD) := by
  rw [List.map_map]
  rfl
theorem lD_get {t : List (List Rat)} {i : Nat} {d : PyData} (h : (t.map fun p => PyData.list (p.map cD))[i]? = some d) : ∃ p, t[i]? = some p ∧ d = .list (p.map cD) := by
  rw [List.getElem?_map] at h
  cases hp : t[i]? with
  | none => rw [hp] at h; cases h
  | some p => rw [hp] at h; exact ⟨p, rfl, (Option.some.inj h).symm⟩
theorem lD_mem {t : List (List Rat)} {d : PyData} (h : d ∈ t.map fun p => PyData.list (p.map cD)) : ∃ p ∈ t, d = .list (p.map cD) := by
  obtain ⟨p, hp, rfl⟩ := List.mem_map.mp h
  exact ⟨p, hp, rfl⟩
theorem rD_get {p : List Rat} {i : Nat} {d : PyData} (h : (p.map cD)[i]? = some d) : ∃ q, p[i]? = some q ∧ d = cD q := by
  rw [List.getElem?_map] at h
  cases hp : p[i]? with
  | none => rw [hp] at h; cases h
  | some p => rw [hp] at h; exact ⟨p, rfl, (Option.some.inj h).symm⟩
/-- a row handed, a table handed -/
def hrS (s : S) (p : List Rat) : S := scS psS s p
def hrD (s : S) (p : List Rat) : PyData := .tuple (scD psD psS s p)
def hdS (s : S) (t : List (List Rat)) : S := scS hrS s t
def hdL (s : S) (t : List (List Rat)) : List PyData := scD hrD hrS s t
theorem hr_nml : ∀ {p : List Rat} {s : S}, (∀ q ∈ p, -(10 ^ 60) < q.num ∧ q.num < 10 ^ 60) → NmL (scD psD psS s p) p
  | [], _, _ => .nil
  | q :: p, s, h => .cons (ps_nm s (h q (List.mem_cons_self ..))) (hr_nml fun x hx => h x (List.mem_cons_of_mem _ hx))
theorem hd_tbl : ∀ {t : List (List Rat)} {s : S}, (∀ p ∈ t, ∀ q ∈ p, -(10 ^ 60) < q.num ∧ q.num < 10 ^ 60) → TbL (hdL s t) t
  | [], _, _ => .nil
  | p :: t, s, h => .cons (hr_nml (h p (List.mem_cons_self ..))) (hd_tbl fun x hx => h x (List.mem_cons_of_mem _ hx))
def fst2 (f : Rat → Rat → Rat) : PyData → PyData → PyData := fun d e => cD (f (qOf d) (qOf e))
theorem zw_q (f : Rat → Rat → Rat) : ∀ p q : List Rat, List.zipWith (fst2 f) (p.map cD) (q.map cD) = (List.zipWith f p q).map cD
  | [], _ => rfl
  | _ :: _, [] => rfl
  | x :: p, y :: q => by
    rw [List.map_cons, List.map_cons, List.zipWith_cons_cons, List.zipWith_cons_cons, List.map_cons, zw_q f p q]
    show cD (f (qOf (cD x)) (qOf (cD y))) :: _ = _
    rw [cD_ne0, cD_ne0]
def lst2 (g : PyData → PyData → PyData) : PyData → PyData → PyData
  | .list a, .list b => .list (List.zipWith g a b)
  | _, _ => .none
theorem zw_l (f : Rat → Rat → Rat) : ∀ t u : List (List Rat), List.zipWith (lst2 (fst2 f)) (t.map fun p => .list (p.map cD)) (u.map fun p => .list (p.map cD)) = (List.zipWith (List.zipWith f) t u).map fun p => .list (p.map cD)
  | [], _ => rfl
  | _ :: _, [] => rfl
  | p :: t, q :: u => by
    rw [List.map_cons, List.map_cons, List.zipWith_cons_cons, List.zipWith_cons_cons, List.map_cons, zw_l f t u]
    show PyData.list (List.zipWith (fst2 f) _ _) :: _ = _
    rw [zw_q]
section
variable {P : Program} {w : World} {K : PySem.W.Frag} {mg : Str → Option Value} {base : Heap} {f : Addr} {fd : FuncData}
abbrev sTold : Stmt := top 52
theorem scTold : FnScope ["_law_rows", "_law_row"] ["_law_rows"] (defScope sTold) := ⟨rfl, rfl, rfl, by decide +kernel, rfl, by decide +kernel, by decide +kernel⟩
def rTold : Rel := fun as s d s' => ∃ t, as = [.val (lD t)] ∧ t.length ≤ 1000 ∧ d = tD t ∧ s' = s
theorem ok_told (F : Fun K "_law_tb_told" "_law_tb_told" sTold f fd) (T : Top mg) : FnOk P w K mg base CX0 1 f fd ["_law_rows"] (spD rTold) := by
  refine okD F scTold (by rintro _ _ _ _ ⟨t, rfl, _⟩; rfl) fun cdv A0 outer s0 H0 E C z as s₁ d s h => ?_
  obtain ⟨t, rfl, hl, rfl, rfl⟩ := h
  have e : tD t = .tuple ((t.map fun p => PyData.list (p.map cD)).map tupOf) := by
    rw [tupOf_l]
    rfl
  rw [e]
  refine sr_ret (ev_bty call_tuple_of rb_tuple T.tuple (ed_cons (ev_lcF (j := 1) C.calm C.nd tupOf (ev_var 0) (by rw [List.length_map]; omega) (blkOk_by (N := ["_law_rows", "_law_row"]) (sc := defScope sTold) (own := [("_law_row", 1)]) (by decide +kernel)) (fun _ _ _ _ _ => pg_name C.nd rfl (Or.inl rfl)) (fun d hd z' s0 H0 C' cl fp => ?_)) ed_nil))
  obtain ⟨p, hp, rfl⟩ := lD_mem hd
  exact ev_bty call_tuple_of rb_tuple T.tuple (ed_cons (ev_var 1) ed_nil)
abbrev sHd : Stmt := top 53
theorem scHd : FnScope ["_law_dice_here", "_law_rows", "_law_row", "_law_one"] ["_law_dice_here", "_law_rows"] (defScope sHd) := ⟨rfl, rfl, rfl, by decide +kernel, rfl, by decide +kernel, by decide +kernel⟩
def rHd : Rel := fun as s d s' => ∃ t, as = [.dice, .val (lD t)] ∧ t.length ≤ 1000 ∧ (∀ p ∈ t, p.length ≤ 1000) ∧ d = .tuple (hdL s t) ∧ s' = hdS s t
theorem ok_hd (F : Fun K "_law_tb_handed" "_law_tb_handed" sHd f fd) (T : Top mg) (G : Dn P w K mg base 2 "_law_tb_passed" rPs) : FnOk P w K mg base CX0 3 f fd ["_law_dice_here", "_law_rows"] (spD rHd) := by
  refine okD F scHd (by rintro _ _ _ _ ⟨t, rfl, _⟩; rfl) fun cdv A0 outer s0 H0 E C z as s d s' h => ?_
  obtain ⟨t, rfl, hl, hw, rfl, rfl⟩ := h
  have ln : (t.map fun p => PyData.list (p.map cD)).length = t.length := List.length_map ..
  have key : (PyData.tuple ((List.range (t.map fun p => PyData.list (p.map cD)).length).map (scF hrD hrS t s))) = .tuple (hdL s t) := by
    rw [ln]
    unfold hdL
    rw [scD_range]
  rw [← key]
  have k2 : hdS s t = scS hrS s (t.take (t.map fun p => PyData.list (p.map cD)).length) := by
    rw [ln, List.take_length]
    rfl
  rw [k2]
  refine sr_ret (ev_bty call_tuple_of rb_tuple T.tuple (ed_cons (ev_lcFS (j := 2) C.calm C.nd (scF hrD hrS t s) (fun i => scS hrS s (t.take i)) (ev_var 1) rfl (by rw [ln]; omega) (blkOk_by (N := ["_law_dice_here", "_law_rows", "_law_row", "_law_one"]) (sc := defScope sHd) (own := [("_law_row", 2)]) (by decide +kernel)) (fun _ _ _ _ _ => pg_name C.nd rfl (Or.inl rfl)) (fun i d hd z' s0 H0 C' cl fp => ?_)) ed_nil))
  obtain ⟨p, hp, rfl⟩ := lD_get hd
  have lp := hw p (List.mem_of_getElem? hp)
  rw [scF_get hp, scS_take hp]
  generalize scS hrS s (t.take i) = u
  have lq : (p.map cD).length = p.length := List.length_map ..
  have key2 : hrD u p = (PyData.tuple ((List.range (p.map cD).length).map (scF psD psS p u))) := by
    rw [lq]
    unfold hrD
    rw [scD_range]
  have k3 : hrS u p = scS psS u (p.take (p.map cD).length) := by
    rw [lq, List.take_length]
    rfl
  rw [key2, k3]
  refine ev_bty call_tuple_of rb_tuple T.tuple (ed_cons (ev_lcFS (j := 3) (by exact C.calm) (by exact C.nd) (scF psD psS p u) (fun i => scS psS u (p.take i)) (ev_var 2) rfl (by rw [lq]; omega) (blkOk_by (N := ["_law_dice_here", "_law_rows", "_law_row", "_law_one"]) (own := [("_law_one", 3)]) (by rfl)) (fun _ _ _ _ _ => pg_name (by exact C.nd) rfl (Or.inl rfl)) (fun k d hd z'' s0' H0' C'' cl' fp' => ?_)) ed_nil)
  obtain ⟨q, hq, rfl⟩ := rD_get hd
  rw [scF_get hq, scS_take hq]
  exact ev_call G C.hr (ea_dice 0 (ea_cons (ev_var 3) ea_nil)) ⟨q, rfl, rfl, rfl⟩
abbrev sDot : Stmt := top 54
theorem scDot : FnScope ["_law_one", "_law_other", "_law_a", "_law_b"] ["_law_one", "_law_other"] (defScope sDot) := ⟨rfl, rfl, rfl, by decide +kernel, rfl, by decide +kernel, by decide +kernel⟩
def rDot : Rel := fun as s d s' => ∃ (p q : List Rat) (M A N B : Nat), as = [.val (.list (p.map cD)), .val (.list (q.map cD))] ∧ RowOk p M A ∧ RowOk q N B ∧ p.length = q.length ∧ 60 * (A * B) * (M * N) < 2 ^ 3000 ∧ d = cD (TM.dot p q) ∧ s' = s
theorem RowOk.qb {p : List Rat} {M A : Nat} (h : RowOk p M A) : ∀ q ∈ p, Qb q := fun q hq => (h.sz q hq).qb h.m (Nat.lt_trans h.a (Nat.pow_lt_pow_right (by decide) (by decide))) (Nat.lt_trans h.m2 (Nat.pow_lt_pow_right (by decide) (by decide)))
theorem zw_sz {M A N B : Nat} : ∀ {p q : List Rat}, PSz M A p → PSz N B q → PSz (M * N) (A * B) (List.zipWith (· * ·) p q)
  | [], _, _, _ => by intro x hx; cases hx
  | _ :: _, [], _, _ => by intro x hx; cases hx
  | x :: p, y :: q, hp, hq => .cons (hp.head.mul hq.head) (zw_sz hp.tail hq.tail)
theorem ok_dot (F : Fun K "_law_tb_dot" "_law_tb_dot" sDot f fd) (T8 : Top8 mg) (G1 : Dn P w K mg base 3 "_law_times" rTimes) (G2 : Dn P w K mg base 4 "_law_sum" rLS) : FnOk P w K mg base CX0 5 f fd ["_law_one", "_law_other"] (spD rDot) := by
  refine okD F scDot (by rintro _ _ _ _ ⟨p, q, M, A, N, B, rfl, _⟩; rfl) fun cdv A0 outer s0 H0 E C z as s₁ d s h => ?_
  obtain ⟨p, q, M, A, N, B, rfl, hp, hq, hl, hb, rfl, rfl⟩ := h
  have lp := hp.len
  have l2 : (List.zipWith (· * ·) p q).length ≤ 60 := by rw [List.length_zipWith]; omega
  have m0 := hp.m
  have n0 := hq.m
  have mn : M * N < 2 ^ 3000 := by
    have : M * N ≤ 2 ^ 40 * 2 ^ 40 := Nat.mul_le_mul (Nat.le_of_lt hp.m2) (Nat.le_of_lt hq.m2)
    rw [← Nat.pow_add] at this
    exact Nat.lt_of_le_of_lt this (Nat.pow_lt_pow_right (by decide) (by decide))
  refine sr_ret (ev_call G2 C.hr (ea_cons (EV.is (ev_lcZ (j := 2) (k := 3) C.calm C.nd T8.zip (by decide) (fst2 (· * ·)) (ed_cons (ev_var 0) (ed_cons (ev_var 1) ed_nil)) (by rw [List.length_map, List.length_map, hl]) (by rw [List.length_map]; omega) (blkOk_by (N := ["_law_one", "_law_other", "_law_a", "_law_b"]) (sc := defScope sDot) (own := [("_law_a", 2), ("_law_b", 3)]) (by decide +kernel))
    (fun _ _ _ _ _ => pg_tup C.calm (pgs_cons (pg_name C.nd rfl (Or.inl rfl)) (pgs_cons (pg_name C.nd rfl (Or.inl rfl)) pgs_nil))) (fun i d1 d2 h1 h2 z' s0 H0 C' cl fp => ?_)) (by rw [zw_q])) ea_nil) ⟨List.zipWith (· * ·) p q, M * N, A * B, rfl, zw_sz hp.sz hq.sz, Nat.mul_ne_zero m0 n0, mn, by omega, Nat.lt_of_le_of_lt (Nat.mul_le_mul_right _ (Nat.mul_le_mul_right _ l2)) hb, Nat.lt_of_le_of_lt (Nat.mul_le_mul_right _ (by omega)) hb, rfl, rfl⟩)
  obtain ⟨x, hx, rfl⟩ := rD_get h1
  obtain ⟨y, hy, rfl⟩ := rD_get h2
  exact ev_call G1 (C.hr.mono (by decide)) (ea_cons (ev_var 2) (ea_cons (ev_var 3) ea_nil)) (Qb.times ⟨x, y, rfl, hp.qb x (List.mem_of_getElem? hx), hq.qb y (List.mem_of_getElem? hy), by unfold fst2; rw [cD_ne0, cD_ne0], rfl⟩)
abbrev sLT : Stmt := top 55
theorem scLT : FnScope ["_law_rows", "_law_at", "_law_row"] ["_law_rows"] (defScope sLT) := ⟨rfl, rfl, rfl, by decide +kernel, rfl, by decide +kernel, by decide +kernel⟩
def rLT : Rel := fun as s d s' => ∃ t n m, as = [.val (lD t)] ∧ TM.Dim t n m ∧ 1 ≤ n ∧ n ≤ 100 ∧ m ≤ 100 ∧ d = lD (TM.turn t m) ∧ s' = s
def itemD (i : Nat) : PyData → PyData
  | .list ds => ds.getD i .none
  | _ => .none
theorem item_q {p : List Rat} {i : Nat} (h : i < p.length) : itemD i (.list (p.map cD)) = cD (TM.at1 p i) := by
  show (p.map cD).getD i .none = _
  rw [List.getD_eq_getElem?_getD, List.getElem?_map, TM.at1_get h]
  rfl
theorem ok_lt (F : Fun K "_law_tb_turned" "_law_tb_turned" sLT f fd) (T : Top mg) : FnOk P w K mg base CX0 1 f fd ["_law_rows"] (spD rLT) := by
  refine okD F scLT (by rintro _ _ _ _ ⟨t, n, m, rfl, _⟩; rfl) fun cdv A0 outer s0 H0 E C z as s₁ d s h => ?_
  obtain ⟨t, n, m, rfl, ht, n0, n1, m1, rfl, rfl⟩ := h
  have tl := ht.n
  have ln : (t.map fun p => PyData.list (p.map cD)).length = n := by rw [List.length_map, tl]
  have r0 : (t.map fun p => PyData.list (p.map cD))[0]? = some (.list ((TM.rw t 0).map cD)) := by
    rw [List.getElem?_map, TM.rw_get (by omega)]
    rfl
  have key : lD (TM.turn t m) = .list ((List.range m).map fun i => .list ((t.map fun p => PyData.list (p.map cD)).map (itemD i))) := by
    unfold lD TM.turn
    rw [List.map_map]
    congr 1
    refine List.map_congr_left fun i hi => ?_
    have hi := List.mem_range.mp hi
    show PyData.list _ = _
    unfold TM.col
    rw [List.map_map, List.map_map]
    congr 1
    exact List.map_congr_left fun p hp => (item_q (by rw [ht.m p hp]; exact hi)).symm
  rw [key]
  refine sr_ret (ev_lcFR (j := 1) C.calm C.nd T.range (fun i => .list ((t.map fun p => PyData.list (p.map cD)).map (itemD i))) (fun _ => s) (ed_cons (EV.is (ev_bltn call_len rb_len T.len (ed_cons (ev_ixL (ev_var 0) ev_int (atI_nat (j := 0) r0)) ed_nil)) (by rw [List.length_map, ht.row (by omega)])) ed_nil) rfl (by omega) (blkOk_by (N := ["_law_rows", "_law_at", "_law_row"]) (sc := defScope sLT) (own := [("_law_at", 1)]) (by decide +kernel)) (fun _ _ _ _ _ => pg_name C.nd rfl (Or.inr rfl)) (fun i hi z' s0 H0 C' cl fp => ?_))
  refine ev_lcF (j := 2) (by exact C.calm) (by exact C.nd) (itemD i) (ev_var 0) (by rw [ln]; omega) (blkOk_by (N := ["_law_rows", "_law_at", "_law_row"]) (own := [("_law_row", 2)]) (by rfl)) (fun _ _ _ _ _ => pg_name (by exact C.nd) rfl (Or.inl rfl)) (fun d hd z'' s0' H0' C'' cl' fp' => ?_)
  obtain ⟨p, hp, rfl⟩ := lD_mem hd
  have lp := ht.m p hp
  rw [item_q (by omega)]
  exact ev_ixL (i := (i : Int)) (ev_var 2) (ev_var 1) (atI_nat (j := i) (by rw [List.getElem?_map, TM.at1_get (by omega)]; rfl))
end
end K3


set_option Elab.async false
set_option linter.all false
set_option maxRecDepth 100000
set_option exponentiation.threshold 9000
namespace K3
open PySem PySem.Spec PyProof.Rows L2 DL PM
def dotD : PyData → PyData → PyData
  | .list a, .list b => cD (TM.dot (a.map qOf) (b.map qOf))
  | _, _ => .none
theorem qs_cD (p : List Rat) : (p.map cD).map qOf = p := (nml_cD p).qs
theorem dotD_q (p q : List Rat) : dotD (.list (p.map cD)) (.list (q.map cD)) = cD (TM.dot p q) := by
  show cD _ = _
  rw [qs_cD, qs_cD]
theorem TSz.turn {t : List (List Rat)} {n m M A : Nat} (h : TSz t M A) (d : TM.Dim t n m) (hn : n ≤ 60) {j : Nat} (hj : j < m) : RowOk (TM.col t j) M A := h.col d.m hj (by rw [d.n]; exact hn)
section
variable {P : Program} {w : World} {K : PySem.W.Frag} {mg : Str → Option Value} {base : Heap} {f : Addr} {fd : FuncData}
abbrev sLP : Stmt := top 56
theorem scLP : FnScope ["_law_one", "_law_other", "_law_columns", "_law_row", "_law_column"] ["_law_one", "_law_other"] (defScope sLP) := ⟨rfl, rfl, rfl, by decide +kernel, rfl, by decide +kernel, by decide +kernel⟩
def rLP : Rel := fun as s d s' => ∃ t n k u m M A N B, as = [.val (lD t), .val (lD u)] ∧ TM.Dim t n k ∧ TM.Dim u k m ∧ n ≤ 50 ∧ 1 ≤ k ∧ k ≤ 50 ∧ m ≤ 50 ∧ TSz t M A ∧ TSz u N B ∧ 60 * (A * B) * (M * N) < 2 ^ 3000 ∧ d = lD (TM.mul t u m) ∧ s' = s
theorem ok_lp (F : Fun K "_law_tb_product" "_law_tb_product" sLP f fd) (G1 : Dn P w K mg base 1 "_law_tb_turned" rLT) (G2 : Dn P w K mg base 5 "_law_tb_dot" rDot) : FnOk P w K mg base CX0 6 f fd ["_law_one", "_law_other"] (spD rLP) := by
  refine okD F scLP (by rintro _ _ _ _ ⟨t, n, k, u, m, M, A, N, B, rfl, _⟩; rfl) fun cdv A0 outer s0 H0 E C z as s₁ d s h => ?_
  obtain ⟨t, n, k, u, m, M, A, N, B, rfl, ht, hu, n1, k0, k1, m1, st, su, hb, rfl, rfl⟩ := h
  have ul := hu.n
  have tl := ht.n
  refine sr_asg 2 C.nd (ev_call G1 (C.hr.mono (by decide)) (ea_cons (ev_var 1) ea_nil) ⟨u, k, m, rfl, hu, k0, by omega, by omega, rfl, rfl⟩) ?_
  have key : lD (TM.mul t u m) = .list ((t.map fun p => PyData.list (p.map cD)).map fun d => .list (((TM.turn u m).map fun p => PyData.list (p.map cD)).map (dotD d))) := by
    unfold lD TM.mul TM.turn
    rw [List.map_map, List.map_map]
    congr 1
    refine List.map_congr_left fun p hp => ?_
    show PyData.list _ = PyData.list _
    rw [List.map_map, List.map_map, List.map_map]
    congr 1
    exact List.map_congr_left fun j hj => (dotD_q _ _).symm
  rw [key]
  refine sr_ret (ev_lcF (j := 3) C.calm C.nd (fun d => .list (((TM.turn u m).map fun p => PyData.list (p.map cD)).map (dotD d))) (ev_var 0) (by rw [List.length_map]; omega) (blkOk_by (N := ["_law_one", "_law_other", "_law_columns", "_law_row", "_law_column"]) (sc := defScope sLP) (own := [("_law_row", 3)]) (by decide +kernel)) (fun _ _ _ _ _ => pg_name C.nd rfl (Or.inr rfl)) (fun d hd z' s0 H0 C' cl fp => ?_))
  refine ev_lcF (j := 4) (by exact C.calm) (by exact C.nd) (dotD d) (ev_var 2) (by unfold TM.turn; rw [List.length_map, List.length_map, List.length_range]; omega) (blkOk_by (N := ["_law_one", "_law_other", "_law_columns", "_law_row", "_law_column"]) (own := [("_law_column", 4)]) (by rfl)) (fun _ _ _ _ _ => pg_name (by exact C.nd) rfl (Or.inl rfl)) (fun e he z'' s0' H0' C'' cl' fp' => ?_)
  obtain ⟨p, hp, rfl⟩ := lD_mem hd
  obtain ⟨q, hq, rfl⟩ := lD_mem he
  obtain ⟨j, hj, rfl⟩ := List.mem_map.mp hq
  have hj := List.mem_range.mp hj
  rw [dotD_q]
  exact ev_call G2 C.hr (ea_cons (ev_var 3) (ea_cons (ev_var 4) ea_nil)) ⟨p, TM.col u j, M, A, N, B, rfl, st.row hp (by rw [ht.m p hp]; omega), su.turn hu (by omega) hj, by rw [ht.m p hp, TM.col_len, ul], hb, rfl, rfl⟩
abbrev sLI : Stmt := top 57
theorem scLI : FnScope ["_law_size", "_law_at", "_law_to"] ["_law_size"] (defScope sLI) := ⟨rfl, rfl, rfl, by decide +kernel, rfl, by decide +kernel, by decide +kernel⟩
def rLI : Rel := fun as s d s' => ∃ n : Nat, as = [.val (.int (n : Int))] ∧ n ≤ 100 ∧ d = lD (TM.idle n) ∧ s' = s
theorem ok_li (F : Fun K "_law_tb_idle" "_law_tb_idle" sLI f fd) (T : Top mg) : FnOk P w K mg base CX0 1 f fd ["_law_size"] (spD rLI) := by
  refine okD F scLI (by rintro _ _ _ _ ⟨n, rfl, _⟩; rfl) fun cdv A0 outer s0 H0 E C z as s₁ d s h => ?_
  obtain ⟨n, rfl, hn, rfl, rfl⟩ := h
  have e : lD (TM.idle n) = .list ((List.range n).map fun i => .list ((List.range n).map fun j => cD (if i = j then 1 else 0))) := by
    unfold lD TM.idle
    rw [List.map_map]
    congr 1
    refine List.map_congr_left fun i _ => ?_
    show PyData.list _ = _
    rw [List.map_map]
    rfl
  rw [e]
  refine sr_ret (ev_lcFR (j := 1) C.calm C.nd T.range (fun i => .list ((List.range n).map fun j => cD (if i = j then 1 else 0))) (fun _ => s) (ed_cons (ev_var 0) ed_nil) rfl (by omega) (blkOk_by (N := ["_law_size", "_law_at", "_law_to"]) (sc := defScope sLI) (own := [("_law_at", 1)]) (by decide +kernel)) (fun _ _ _ _ _ => pg_name C.nd rfl (Or.inr rfl)) (fun i hi z' s0 H0 C' cl fp => ?_))
  refine ev_lcFR (j := 2) (by exact C.calm) (by exact C.nd) T.range (fun j => cD (if i = j then 1 else 0)) (fun _ => s) (ed_cons (ev_var 0) ed_nil) rfl (by omega) (blkOk_by (N := ["_law_size", "_law_at", "_law_to"]) (own := [("_law_to", 2)]) (by rfl)) (fun _ _ _ _ _ => pg_name (by exact C.nd) rfl (Or.inl rfl)) (fun j hj z'' s0' H0' C'' cl' fp' => ?_)
  by_cases hij : i = j
  · rw [if_pos hij]
    exact ev_tup (ed_cons (EV.is (ev_bty call_int1 rb_intB T.int (ed_cons (ev_eqI C.hu (ev_var 1) (ev_var 2)) ed_nil)) (by rw [decide_eq_true (show (i : Int) = (j : Int) by omega)]; rfl)) (ed_cons ev_int ed_nil))
  · rw [if_neg hij]
    exact ev_tup (ed_cons (EV.is (ev_bty call_int1 rb_intB T.int (ed_cons (ev_eqI C.hu (ev_var 1) (ev_var 2)) ed_nil)) (by rw [decide_eq_false (show ¬ (i : Int) = (j : Int) by omega)]; rfl)) (ed_cons ev_int ed_nil))
abbrev sLA : Stmt := top 58
theorem scLA : FnScope ["_law_one", "_law_other", "_law_row", "_law_more", "_law_a", "_law_b"] ["_law_one", "_law_other"] (defScope sLA) := ⟨rfl, rfl, rfl, by decide +kernel, rfl, by decide +kernel, by decide +kernel⟩
def rLA : Rel := fun as s d s' => ∃ t u n m, as = [.val (lD t), .val (lD u)] ∧ TM.Dim t n m ∧ TM.Dim u n m ∧ n ≤ 100 ∧ m ≤ 100 ∧ (∀ p ∈ t, ∀ q ∈ p, Qb q) ∧ (∀ p ∈ u, ∀ q ∈ p, Qb q) ∧ d = lD (TM.add t u) ∧ s' = s
theorem ok_la (F : Fun K "_law_added" "_law_added" sLA f fd) (T8 : Top8 mg) (G : Dn P w K mg base 3 "_law_plus" rPlus) : FnOk P w K mg base CX0 4 f fd ["_law_one", "_law_other"] (spD rLA) := by
  refine okD F scLA (by rintro _ _ _ _ ⟨t, u, n, m, rfl, _⟩; rfl) fun cdv A0 outer s0 H0 E C z as s₁ d s h => ?_
  obtain ⟨t, u, n, m, rfl, ht, hu, n1, m1, bt, bu, rfl, rfl⟩ := h
  have tl := ht.n
  have ul := hu.n
  have key : lD (TM.add t u) = .list (List.zipWith (lst2 (fst2 (· + ·))) (t.map fun p => .list (p.map cD)) (u.map fun p => .list (p.map cD))) := by
    rw [zw_l]
    rfl
  rw [key]
  refine sr_ret (ev_lcZ (j := 2) (k := 3) C.calm C.nd T8.zip (by decide) (lst2 (fst2 (· + ·))) (ed_cons (ev_var 0) (ed_cons (ev_var 1) ed_nil)) (by rw [List.length_map, List.length_map]; omega) (by rw [List.length_map]; omega) (blkOk_by (N := ["_law_one", "_law_other", "_law_row", "_law_more", "_law_a", "_law_b"]) (sc := defScope sLA) (own := [("_law_row", 2), ("_law_more", 3)]) (by decide +kernel))
    (fun _ _ _ _ _ => pg_tup C.calm (pgs_cons (pg_name C.nd rfl (Or.inl rfl)) (pgs_cons (pg_name C.nd rfl (Or.inl rfl)) pgs_nil))) (fun i d1 d2 h1 h2 z' s0 H0 C' cl fp => ?_))
  obtain ⟨p, hp, rfl⟩ := lD_get h1
  obtain ⟨q, hq, rfl⟩ := lD_get h2
  have lp := ht.m p (List.mem_of_getElem? hp)
  have lq := hu.m q (List.mem_of_getElem? hq)
  refine ev_lcZ (j := 4) (k := 5) (by exact C.calm) (by exact C.nd) T8.zip (by decide) (fst2 (· + ·)) (ed_cons (ev_var 2) (ed_cons (ev_var 3) ed_nil)) (by rw [List.length_map, List.length_map]; omega) (by rw [List.length_map]; omega) (blkOk_by (N := ["_law_one", "_law_other", "_law_row", "_law_more", "_law_a", "_law_b"]) (own := [("_law_a", 4), ("_law_b", 5)]) (by rfl))
    (fun _ _ _ _ _ => pg_tup (by exact C.calm) (pgs_cons (pg_name (by exact C.nd) rfl (Or.inl rfl)) (pgs_cons (pg_name (by exact C.nd) rfl (Or.inl rfl)) pgs_nil))) (fun k e1 e2 k1 k2 z'' s0' H0' C'' cl' fp' => ?_)
  obtain ⟨x, hx, rfl⟩ := rD_get k1
  obtain ⟨y, hy, rfl⟩ := rD_get k2
  exact ev_call G C.hr (ea_cons (ev_var 4) (ea_cons (ev_var 5) ea_nil)) (Qb.plus ⟨x, y, rfl, bt p (List.mem_of_getElem? hp) x (List.mem_of_getElem? hx), bu q (List.mem_of_getElem? hq) y (List.mem_of_getElem? hy), by unfold fst2; rw [cD_ne0, cD_ne0], rfl⟩)
end
end K3


set_option Elab.async false
set_option linter.all false
set_option maxRecDepth 100000
set_option exponentiation.threshold 9000
namespace K3
open PySem PySem.Spec PyProof.Rows L2 DL PM
/-! ### drawn tables -/
theorem cpow10 {j : Int} (h0 : 0 ≤ j) (h : j ≤ 100) : CPow 10 j := ⟨h0, by omega, by decide⟩
def mostL : List PyData := [.int 1, .int 2, .int 9, .int 9, .int (10 ^ (15 : Int).toNat)]
def mostV (s : S) : Int := match pickD s mostL with
  | .int i => i
  | _ => 1
theorem most_is (s : S) : pickD s mostL = .int (mostV s) ∧ 0 < mostV s ∧ mostV s ≤ 10 ^ 15 := by
  obtain ⟨i, hi, _, hg⟩ := pick_get s (ds := mostL) (by decide)
  unfold mostV
  generalize pickD s mostL = d at *
  have hi : i < 5 := hi
  rcases (show i = 0 ∨ i = 1 ∨ i = 2 ∨ i = 3 ∨ i = 4 by omega) with rfl | rfl | rfl | rfl | rfl <;> (cases hg; exact ⟨rfl, by decide, by decide⟩)
def cQ (u : S) (m : Int) : Rat := if 0 < rollV u 4 then nbQ (rollS u 4) m else 0
def cS (u : S) (m : Int) : S := if 0 < rollV u 4 then nbS (rollS u 4) m else rollS u 4
def cT (u : S) (m : Int) : Nat → S
  | 0 => u
  | i + 1 => cS (cT u m i) m
def cRow (u : S) (m : Int) (c : Nat) : List Rat := (List.range c).map fun i => cQ (cT u m i) m
def pickR (u : S) (t : List (List Rat)) : List Rat := t.getD (rollV u (t.length : Int)).toNat []
theorem pickR_D (u : S) {t : List (List Rat)} (h : t ≠ []) : pickD u (t.map fun p => PyData.list (p.map cD)) = .list ((pickR u t).map cD) ∧ pickR u t ∈ t := by
  have hl : 0 < t.length := List.length_pos_iff.mpr h
  have hb := roll_bd u (n := (t.length : Int)) (by omega)
  have hi : (rollV u (t.length : Int)).toNat < t.length := by omega
  have h1 : t[(rollV u (t.length : Int)).toNat]? = some (pickR u t) := by
    unfold pickR
    rw [List.getD_eq_getElem?_getD, List.getElem?_eq_getElem hi]
    rfl
  refine ⟨?_, List.mem_of_getElem? h1⟩
  unfold pickD
  rw [List.length_map, List.getD_eq_getElem?_getD, List.getElem?_map, h1]
  rfl
def mixOk (p : S × List (List Rat)) : Prop := 1 < p.2.length ∧ rollV p.1 3 = 0
instance (p : S × List (List Rat)) : Decidable (mixOk p) := by unfold mixOk; infer_instance
def mS1 (p : S × List (List Rat)) : S := rollS p.1 3
def mS2 (p : S × List (List Rat)) : S := rollS (mS1 p) (p.2.length : Int)
def mS3 (p : S × List (List Rat)) : S := rollS (mS2 p) (p.2.length : Int)
def mX (p : S × List (List Rat)) : Int := rollV (mS3 p) 5 - 2
def mRow (p : S × List (List Rat)) : List Rat := List.zipWith (fun a b => a + (mX p : Rat) * b) (pickR (mS1 p) p.2) (pickR (mS2 p) p.2)
def eS1 (p : S × List (List Rat)) : S := if 1 < p.2.length then rollS p.1 3 else p.1
def dStep (m : Int) (c : Nat) (p : S × List (List Rat)) : S × List (List Rat) := if mixOk p then (rollS (mS3 p) 5, p.2 ++ [mRow p]) else (cT (eS1 p) m c, p.2 ++ [cRow (eS1 p) m c])
def dIt (m : Int) (c : Nat) (u : S) : Nat → S × List (List Rat)
  | 0 => (u, [])
  | i + 1 => dStep m c (dIt m c u i)
structure DrI (c : Nat) (i : Nat) (t : List (List Rat)) : Prop where
  len : t.length = i
  w : ∀ p ∈ t, p.length = c
  sz : ∀ p ∈ t, PSz 12 (3 ^ i * 10 ^ 15) p
theorem cQ_sz (u : S) {m : Int} (h0 : 0 < m) (h1 : m ≤ 10 ^ 15) {A : Nat} (hA : 10 ^ 15 ≤ A) : Sz 12 A (cQ u m) := by
  unfold cQ
  split
  · exact nb_sz _ h0 (by omega)
  · exact .zero
theorem mX_le (p : S × List (List Rat)) : (mX p).natAbs ≤ 2 := by
  have := roll_bd (mS3 p) (n := 5) (by decide)
  unfold mX
  omega
theorem mix_sz {x : Int} {A : Nat} (hx : x.natAbs ≤ 2) : ∀ {p q : List Rat}, PSz 12 A p → PSz 12 A q → PSz 12 (3 * A) (List.zipWith (fun a b => a + (x : Rat) * b) p q)
  | [], _, _, _ => by intro y hy; cases hy
  | _ :: _, [], _, _ => by intro y hy; cases hy
  | a :: p, b :: q, hp, hq => by
    refine .cons ?_ (mix_sz hx hp.tail hq.tail)
    have h1 := (Sz.int (M := 1) hx).mul hq.head
    rw [Nat.one_mul] at h1
    exact (hp.head.add h1).mono (by omega)
theorem dStep_ok {m : Int} {c i : Nat} {p : S × List (List Rat)} (h0 : 0 < m) (h1 : m ≤ 10 ^ 15) (h : DrI c i p.2) : DrI c (i + 1) (dStep m c p).2 := by
  have hp : 0 < 3 ^ i := Nat.pow_pos (by decide)
  have up : 3 ^ (i + 1) * 10 ^ 15 = 3 * (3 ^ i * 10 ^ 15) := by rw [Nat.pow_succ]; grind
  have big : (10 : Nat) ^ 15 ≤ 3 ^ (i + 1) * 10 ^ 15 := by
    rw [up]
    have : 1 * 10 ^ 15 ≤ 3 ^ i * 10 ^ 15 := Nat.mul_le_mul_right _ hp
    omega
  unfold dStep
  split
  · rename_i hm
    have ne : p.2 ≠ [] := fun e => by
      have := hm.1
      rw [e] at this
      simp at this
    have r1 := (pickR_D (mS1 p) ne).2
    have r2 := (pickR_D (mS2 p) ne).2
    refine ⟨by rw [List.length_append, h.len]; rfl, fun r hr => ?_, fun r hr => ?_⟩
    · rcases List.mem_append.mp hr with hr | hr
      · exact h.w r hr
      · rw [List.mem_singleton.mp hr]
        unfold mRow
        rw [List.length_zipWith, h.w _ r1, h.w _ r2, Nat.min_self]
    · rw [up]
      rcases List.mem_append.mp hr with hr | hr
      · exact (h.sz r hr).mono (by omega)
      · rw [List.mem_singleton.mp hr]
        exact mix_sz (mX_le p) (h.sz _ r1) (h.sz _ r2)
  · refine ⟨by rw [List.length_append, h.len]; rfl, fun r hr => ?_, fun r hr => ?_⟩
    · rcases List.mem_append.mp hr with hr | hr
      · exact h.w r hr
      · rw [List.mem_singleton.mp hr]
        unfold cRow
        rw [List.length_map, List.length_range]
    · rcases List.mem_append.mp hr with hr | hr
      · rw [up]
        exact (h.sz r hr).mono (by omega)
      · rw [List.mem_singleton.mp hr]
        intro q hq
        obtain ⟨j, _, rfl⟩ := List.mem_map.mp hq
        exact cQ_sz _ h0 h1 big
theorem dIt_ok {m : Int} {c : Nat} {u : S} (h0 : 0 < m) (h1 : m ≤ 10 ^ 15) : ∀ i, DrI c i (dIt m c u i).2
  | 0 => ⟨rfl, (by intro p h; cases h), (by intro p h; cases h)⟩
  | i + 1 => dStep_ok h0 h1 (dIt_ok h0 h1 i)
def drT (s : S) (n c : Nat) : List (List Rat) := (dIt (mostV s) c (rollS s 5) n).2
def drS (s : S) (n c : Nat) : S := (dIt (mostV s) c (rollS s 5) n).1
/-- at most four rows -/
theorem dr_ok (s : S) (n c : Nat) (hn : n ≤ 4) : TM.Dim (drT s n c) n c ∧ TSz (drT s n c) 12 (10 ^ 17) := by
  obtain ⟨_, h0, h1⟩ := most_is s
  have h := dIt_ok (c := c) (u := rollS s 5) h0 h1 n
  refine ⟨⟨h.len, h.w⟩, ⟨by decide, by decide, by decide, fun p hp => (h.sz p hp).mono ?_⟩⟩
  have : 3 ^ n ≤ 3 ^ 4 := Nat.pow_le_pow_right (by decide) hn
  have := Nat.mul_le_mul_right (10 ^ 15) this
  omega
section
variable {P : Program} {w : World} {K : PySem.W.Frag} {mg : Str → Option Value} {base : Heap} {f : Addr} {fd : FuncData}
abbrev sDr : Stmt := top 51
abbrev nDr : List Str := ["_law_dice_here", "_law_rows", "_law_columns", "_law_most", "_law_found", "_law_row", "_law_one", "_law_other", "_law_factor", "_law_a", "_law_b", "_law_column"]
theorem scDr : FnScope nDr ["_law_dice_here", "_law_rows", "_law_columns"] (defScope sDr) := ⟨rfl, rfl, rfl, by decide +kernel, rfl, by decide +kernel, by decide +kernel⟩
def rDr : Rel := fun as s d s' => ∃ n c : Nat, as = [.dice, .val (.int (n : Int)), .val (.int (c : Int))] ∧ n ≤ 4 ∧ c ≤ 4 ∧ d = lD (drT s n c) ∧ s' = drS s n c
theorem qb_int {x : Int} (h : x.natAbs ≤ 2) : Qb (x : Rat) := ⟨by
  show Bd 3000 x
  unfold Bd
  exact Nat.lt_of_le_of_lt h (by decide), by
  show Bd 3000 ((1 : Nat) : Int)
  unfold Bd
  decide⟩
set_option maxHeartbeats 4000000 in
theorem ok_dr (F : Fun K "_law_tb_drawn" "_law_tb_drawn" sDr f fd) (T : Top mg) (T8 : Top8 mg) (G1 : Dn P w K mg base 1 "_law_roll" rRoll) (G2 : Dn P w K mg base 2 "_law_pick" rPick) (G3 : Dn P w K mg base 3 "_law_tb_number" rNb) (G4 : Dn P w K mg base 3 "_law_plus" rPlus) (G5 : Dn P w K mg base 3 "_law_times" rTimes) : FnOk P w K mg base CX0 4 f fd ["_law_dice_here", "_law_rows", "_law_columns"] (spD rDr) := by
  refine okO F scDr (by rintro _ _ _ _ ⟨n, c, rfl, _⟩; rfl) (by rintro _ _ _ _ ⟨n, c, rfl, _⟩ ds h; simp at h) fun cdv A0 outer s0 H0 E C as s d s' h => ?_
  obtain ⟨n, c, rfl, hn, hc, rfl, rfl⟩ := h
  obtain ⟨em, m0, m1⟩ := most_is s
  unfold drT drS
  generalize mostV s = m at *
  refine so_unpN (d1 := .int m) (s1 := rollS s 5) 3 4 C.calm C.nd (fun z => EV.is (ev_call G2 (C.hr.mono (by decide)) (ea_dice 0 (ea_cons (ev_lst (ed_cons ev_int (ed_cons ev_int (ed_cons ev_int (ed_cons ev_int (ed_cons (ev_pow (cpow10 (by decide) (by decide)) ev_int ev_int) ed_nil)))))) ea_nil)) ⟨mostL, .inl rfl, by decide, by decide, rfl, rfl⟩) em) ?_
  refine so_for1 (n := (n : Int)) 5 C.hp C.calm C.nd T.range (fun z => ed_cons (ev_var 1) ed_nil) (by omega) (by omega) (fun i => [.dice, .val (.int (n : Int)), .val (.int (c : Int)), .val (.int m), .own ((dIt m c (rollS s 5) i).2.map fun p => .list (p.map cD)), .un, .un, .un, .un, .un, .un, .un]) (fun i => (dIt m c (rollS s 5) i).1) (Le.refl _) rfl (fun i hi => ?_) ?_
  · have I := dIt_ok (c := c) (u := rollS s 5) m0 m1 i
    have hi4 : i < 4 := by omega
    show SO _ _ _ _ (.nx [.dice, .val (.int (n : Int)), .val (.int (c : Int)), .val (.int m), .own ((dStep m c (dIt m c (rollS s 5) i)).2.map fun p => .list (p.map cD)), .un, .un, .un, .un, .un, .un, .un] (dStep m c (dIt m c (rollS s 5) i)).1)
    generalize dIt m c (rollS s 5) i = p at *
    obtain ⟨u, t⟩ := p
    have tl : t.length = i := I.len
    have ln : (t.map fun p => PyData.list (p.map cD)).length = t.length := List.length_map ..
    have bl : Bd 9000 (t.length : Int) := bd_small (by omega)
    have pw : 3 ^ i ≤ 3 ^ 4 := Nat.pow_le_pow_right (by decide) (by omega)
    have pw2 : 3 ^ i * 10 ^ 15 ≤ 10 ^ 17 := by
      have := Nat.mul_le_mul_right (10 ^ 15) pw
      omega
    have tgt : ∀ z, ET (cxOf CX0 P w K mg base nDr "_law_tb_drawn" (defScope sDr) f cdv A0 outer s0 H0 E).nox z (match loopB (defBody sDr)[1]? with | Stmt.If (Expr.BoolOp _ (e :: _) _) _ _ _ :: _ => e | _ => .Constant .none 0 ⟨0, 0, 0, 0⟩) [.dice, .val (.int (n : Int)), .val (.int (c : Int)), .val (.int m), .own (t.map fun p => .list (p.map cD)), .val (.int (i : Int)), .un, .un, .un, .un, .un, .un] u (decide ((1 : Int) < (t.length : Int))) u := fun z =>
      ET.is (et_gt (ev_lenO (ds := t.map fun (p : List Rat) => PyData.list (List.map cD p)) 4 T.len) ev_int) (by rw [ln])
    have roll3 : ∀ z {es}, es[0]? = some Sl.dice → EV (cxOf CX0 P w K mg base nDr "_law_tb_drawn" (defScope sDr) f cdv A0 outer s0 H0 E).nox z (match loopB (defBody sDr)[1]? with | Stmt.If (Expr.BoolOp _ (_ :: Expr.Compare e _ _ _ :: _) _) _ _ _ :: _ => e | _ => .Constant .none 0 ⟨0, 0, 0, 0⟩) es u (.int (rollV u 3)) (rollS u 3) := fun z es he =>
      ev_call G1 (C.hr.mono (by decide)) (ea_dice 0 (ea_cons ev_int ea_nil) he) ⟨3, rfl, by decide, bd_small (n := 3) (by decide), rfl, rfl⟩
    by_cases hm : mixOk (u, t)
    · have e1 : dStep m c (u, t) = (rollS (mS3 (u, t)) 5, t ++ [mRow (u, t)]) := if_pos hm
      rw [e1]
      have ne : t ≠ [] := fun e => by
        have := hm.1
        rw [e] at this
        simp at this
      have ne2 : (t.map fun p => PyData.list (p.map cD)) ≠ [] := by simpa using ne
      obtain ⟨d1, r1⟩ := pickR_D (mS1 (u, t)) ne
      obtain ⟨d2, r2⟩ := pickR_D (mS2 (u, t)) ne
      have tp := List.length_pos_iff.mpr ne
      refine so_ifTn (es2 := [.dice, .val (.int (n : Int)), .val (.int (c : Int)), .val (.int m), .own ((t ++ [mRow (u, t)]).map fun p => .list (p.map cD)), .val (.int (i : Int)), .val (.list ((pickR (mS1 (u, t)) t).map cD)), .val (.list ((pickR (mS2 (u, t)) t).map cD)), .val (cD (mX (u, t) : Rat)), .un, .un, .un]) (fun z => et_w (ew_andT (ET.is (tgt z) (decide_eq_true (by have := hm.1; dsimp only at this; omega))) (ew_and1 (ET.is (et_eqI C.hu (roll3 z rfl) ev_int) (decide_eq_true hm.2))))) ?_ (so_le so_nil (.same (.same (.same (.same (.same (.un (.un (.un (.un (.un (.un (.un .nil)))))))))))))
      refine so_unp3 (d1 := .list ((pickR (mS1 (u, t)) t).map cD)) (d2 := .list ((pickR (mS2 (u, t)) t).map cD)) (d3 := cD (mX (u, t) : Rat)) (s1 := rollS (mS3 (u, t)) 5) 6 7 8 C.calm C.nd (fun z => ev_tup
        (ed_cons (EV.st (EV.is (ev_call G2 (C.hr.mono (by decide)) (ea_dice 0 (ea_own (ds := t.map fun (p : List Rat) => PyData.list (List.map cD p)) 4 ea_nil)) ⟨_, .inr rfl, ne2, by rw [ln]; omega, rfl, rfl⟩) d1) (s1 := mS2 (u, t)) (by rw [ln]; rfl))
        (ed_cons (EV.st (EV.is (ev_call G2 (C.hr.mono (by decide)) (ea_dice 0 (ea_own (ds := t.map fun (p : List Rat) => PyData.list (List.map cD p)) 4 ea_nil)) ⟨_, .inr rfl, ne2, by rw [ln]; omega, rfl, rfl⟩) d2) (s1 := mS3 (u, t)) (by rw [ln]; rfl))
        (ed_cons (ev_tup (ed_cons (ev_sub (ev_call G1 (C.hr.mono (by decide)) (ea_dice 0 (ea_cons ev_int ea_nil)) ⟨5, rfl, by decide, bd_small (n := 5) (by decide), rfl, rfl⟩) ev_int) (ed_cons ev_int ed_nil))) ed_nil)))) ?_
      have l1 := I.w _ r1
      have l2 := I.w _ r2
      have z1 := I.sz _ r1
      have z2 := I.sz _ r2
      have hx := mX_le (u, t)
      unfold mRow
      generalize pickR (mS1 (u, t)) t = a at *
      generalize pickR (mS2 (u, t)) t = b at *
      generalize mX (u, t) = x at *
      generalize rollS (mS3 (u, t)) 5 = v
      have key : ((t ++ [List.zipWith (fun a b => a + (x : Rat) * b) a b]).map fun p => PyData.list (p.map cD)) = (t.map fun p => PyData.list (p.map cD)) ++ [.list (List.zipWith (fst2 (fun a b => a + (x : Rat) * b)) (a.map cD) (b.map cD))] := by
        rw [zw_q, List.map_append]
        rfl
      show SO _ _ _ _ (.nx [.dice, .val (.int (n : Int)), .val (.int (c : Int)), .val (.int m), .own ((t ++ [List.zipWith (fun a b => a + (x : Rat) * b) a b]).map fun p => .list (p.map cD)), .val (.int (i : Int)), .val (.list (a.map cD)), .val (.list (b.map cD)), .val (cD (x : Rat)), .un, .un, .un] v)
      rw [key]
      refine so_app (ds := t.map fun (p : List Rat) => PyData.list (List.map cD p)) 4 (fun z => ev_lcZ (j := 9) (k := 10) C.calm C.nd T8.zip (by decide) (fst2 (fun a b => a + (x : Rat) * b)) (ed_cons (ev_var 6) (ed_cons (ev_var 7) ed_nil)) (by rw [List.length_map, List.length_map]; omega) (by rw [List.length_map]; omega) (blkOk_by (N := nDr) (sc := defScope sDr) (own := [("_law_a", 9), ("_law_b", 10)]) (by decide +kernel))
        (fun _ _ _ _ _ => pg_tup C.calm (pgs_cons (pg_name C.nd rfl (Or.inl rfl)) (pgs_cons (pg_name C.nd rfl (Or.inl rfl)) pgs_nil))) (fun k e1 e2 h1 h2 z' s0 H0 C' cl fp => ?_)) (by rw [ln]; omega) so_nil
      obtain ⟨y, hy, rfl⟩ := rD_get h1
      obtain ⟨w', hw, rfl⟩ := rD_get h2
      have q1 : Qb y := ((z1 y (List.mem_of_getElem? hy)).mono pw2).qb (by decide) (by decide) (by decide)
      have q2s := (z2 w' (List.mem_of_getElem? hw)).mono pw2
      have q2 : Qb w' := q2s.qb (by decide) (by decide) (by decide)
      have q3 : Qb ((x : Rat) * w') := ((Sz.int (M := 1) hx).mul q2s).qb (by decide) (by decide) (by decide)
      exact ev_call G4 (C.hr.mono (by decide)) (ea_cons (ev_var 9) (ea_cons (ev_call G5 (C.hr.mono (by decide)) (ea_cons (ev_var 8) (ea_cons (ev_var 10) ea_nil)) (Qb.times ⟨(x : Rat), w', rfl, qb_int hx, q2, rfl, rfl⟩)) ea_nil)) (Qb.plus ⟨y, (x : Rat) * w', rfl, q1, q3, by unfold fst2; rw [cD_ne0, cD_ne0], rfl⟩)
    · have e1 : dStep m c (u, t) = (cT (eS1 (u, t)) m c, t ++ [cRow (eS1 (u, t)) m c]) := if_neg hm
      rw [e1]
      have test : ∀ z, ET (cxOf CX0 P w K mg base nDr "_law_tb_drawn" (defScope sDr) f cdv A0 outer s0 H0 E).nox z (match loopB (defBody sDr)[1]? with | Stmt.If e _ _ _ :: _ => e | _ => .Constant .none 0 ⟨0, 0, 0, 0⟩) [.dice, .val (.int (n : Int)), .val (.int (c : Int)), .val (.int m), .own (t.map fun p => .list (p.map cD)), .val (.int (i : Int)), .un, .un, .un, .un, .un, .un] u false (eS1 (u, t)) := fun z => by
        by_cases h1 : 1 < t.length
        · have e2 : eS1 (u, t) = rollS u 3 := if_pos h1
          rw [e2]
          exact et_w (ew_andT (ET.is (tgt z) (decide_eq_true (by omega))) (ew_and1 (ET.is (et_eqI C.hu (roll3 z rfl) ev_int) (decide_eq_false fun h2 => hm ⟨h1, h2⟩))))
        · have e2 : eS1 (u, t) = u := if_neg h1
          rw [e2]
          exact et_w (ew_andF (ET.is (tgt z) (decide_eq_false (by omega))))
      refine so_elFn (es2 := [.dice, .val (.int (n : Int)), .val (.int (c : Int)), .val (.int m), .own ((t ++ [cRow (eS1 (u, t)) m c]).map fun p => .list (p.map cD)), .val (.int (i : Int)), .un, .un, .un, .un, .un, .un]) test ?_ (so_le so_nil (.same (.same (.same (.same (.same (.un (.un (.un (.un (.un (.un (.un .nil)))))))))))))
      generalize eS1 (u, t) = v
      have key : ((t ++ [cRow v m c]).map fun p => PyData.list (p.map cD)) = (t.map fun p => PyData.list (p.map cD)) ++ [.list ((List.range c).map fun j => cD (cQ (cT v m j) m))] := by
        unfold cRow
        rw [List.map_append]
        show _ ++ [PyData.list _] = _
        rw [List.map_map]
        rfl
      show SO _ _ _ _ (.nx [.dice, .val (.int (n : Int)), .val (.int (c : Int)), .val (.int m), .own ((t ++ [cRow v m c]).map fun p => .list (p.map cD)), .val (.int (i : Int)), .un, .un, .un, .un, .un, .un] (cT v m c))
      rw [key]
      refine so_app (ds := t.map fun (p : List Rat) => PyData.list (List.map cD p)) 4 (fun z => ev_lcFR (j := 11) C.calm C.nd T.range (fun j => cD (cQ (cT v m j) m)) (fun j => cT v m j) (ed_cons (ev_var 2) ed_nil) rfl (by omega) (blkOk_by (N := nDr) (sc := defScope sDr) (own := [("_law_column", 11)]) (by decide +kernel)) (fun _ _ _ _ _ => pg_name C.nd rfl (Or.inl rfl)) (fun j hj z' s0 H0 C' cl fp => ?_)) (by rw [ln]; omega) so_nil
      show EV _ _ _ _ _ _ (cS (cT v m j) m)
      generalize cT v m j = y
      by_cases hr : 0 < rollV y 4
      · have e2 : cQ y m = nbQ (rollS y 4) m := if_pos hr
        have e3 : cS y m = nbS (rollS y 4) m := if_pos hr
        rw [e2, e3]
        exact ev_ifT (ET.is (et_gt (ev_call G1 (C.hr.mono (by decide)) (ea_dice 0 (ea_cons ev_int ea_nil)) ⟨4, rfl, by decide, bd_small (n := 4) (by decide), rfl, rfl⟩) ev_int) (decide_eq_true hr)) (ev_call G3 C.hr (ea_dice 0 (ea_cons (ev_var 3) ea_nil)) ⟨m, rfl, m0, by omega, rfl, rfl⟩)
      · have e2 : cQ y m = 0 := if_neg hr
        have e3 : cS y m = rollS y 4 := if_neg hr
        rw [e2, e3]
        exact ev_ifF (ET.is (et_gt (ev_call G1 (C.hr.mono (by decide)) (ea_dice 0 (ea_cons ev_int ea_nil)) ⟨4, rfl, by decide, bd_small (n := 4) (by decide), rfl, rfl⟩) ev_int) (decide_eq_false hr)) (ev_tup (ed_cons ev_int (ed_cons ev_int ed_nil)))
  · rw [Int.toNat_natCast]
    exact so_retO 4
end
end K3


set_option Elab.async false
set_option linter.all false
set_option maxRecDepth 100000
set_option exponentiation.threshold 9000
namespace K3
open PySem PySem.Spec PyProof.Rows L2 DL PM
/-! ### what stands in the tables -/
theorem tabD_t {t : List (List Rat)} {n m : Nat} (d : TM.Dim t n m) (n0 : 1 ≤ n) (n1 : n ≤ 40) (m0 : 1 ≤ m) (m1 : m ≤ 40) : TabD (t.map fun p => .tuple (p.map cD)) t m := by
  have := d.n
  exact ⟨tbl_cD t, by omega, by omega, m0, m1, d.m⟩
theorem tabD_h {t : List (List Rat)} {n m : Nat} {s : S} (d : TM.Dim t n m) (h : ∀ p ∈ t, ∀ q ∈ p, -(10 ^ 60) < q.num ∧ q.num < 10 ^ 60) (n0 : 1 ≤ n) (n1 : n ≤ 40) (m0 : 1 ≤ m) (m1 : m ≤ 40) : TabD (hdL s t) t m := by
  have := d.n
  exact ⟨hd_tbl h, by omega, by omega, m0, m1, d.m⟩
theorem tsz_num {t : List (List Rat)} (h : TSz t 12 (10 ^ 17)) : ∀ p ∈ t, ∀ q ∈ p, -(10 ^ 60) < q.num ∧ q.num < 10 ^ 60 := fun p hp q hq => by
  have := (h.sz p hp q hq).num h.m
  omega
theorem sz_num {q : Rat} {A : Nat} (h : Sz 12 A q) (hA : A ≤ 10 ^ 17) : -(10 ^ 60) < q.num ∧ q.num < 10 ^ 60 := by
  have := h.num (by decide)
  omega
theorem dot_sz {p q : List Rat} {M A N B k : Nat} (hp : PSz M A p) (hq : PSz N B q) (hl : p.length ≤ k) : Sz (M * N) (k * (A * B)) (TM.dot p q) := by
  have hz := zw_sz hp hq
  have h := sumL_sz hz (List.zipWith (· * ·) p q).length (Nat.le_refl _)
  rw [List.take_length] at h
  have l : (List.zipWith (· * ·) p q).length ≤ k := by rw [List.length_zipWith]; omega
  exact h.mono (Nat.mul_le_mul_right _ l)
theorem tsz_mul {t u : List (List Rat)} {M A N B n k m : Nat} (ht : TM.Dim t n k) (hu : TM.Dim u k m) (st : TSz t M A) (su : TSz u N B) (hk : k ≤ 4) (h1 : M * N < 2 ^ 40) (h2 : 4 * (A * B) * (M * N) < 2 ^ 2900) : TSz (TM.mul t u m) (M * N) (4 * (A * B)) := by
  refine ⟨Nat.mul_ne_zero st.m su.m, h1, h2, fun r hr => ?_⟩
  obtain ⟨p, hp, rfl⟩ := List.mem_map.mp hr
  intro q hq
  obtain ⟨j, hj, rfl⟩ := List.mem_map.mp hq
  have hj := List.mem_range.mp hj
  exact dot_sz (st.sz p hp) (su.turn hu (by omega) hj).sz (by rw [ht.m p hp]; exact hk)
theorem tsz_turn {t : List (List Rat)} {M A n m : Nat} (d : TM.Dim t n m) (hn : n ≤ 60) (h : TSz t M A) : TSz (TM.turn t m) M A := ⟨h.m, h.m2, h.a, fun r hr => by
  obtain ⟨j, hj, rfl⟩ := List.mem_map.mp hr
  exact (h.turn d hn (List.mem_range.mp hj)).sz⟩
theorem tsz_add {t u : List (List Rat)} {M A B : Nat} (st : TSz t M A) (su : TSz u M B) (h : (A + B) * M < 2 ^ 2900) : TSz (TM.add t u) M (A + B) := by
  refine ⟨st.m, st.m2, h, fun r hr => ?_⟩
  obtain ⟨i, hi⟩ := List.mem_iff_getElem?.mp hr
  unfold TM.add at hi
  rw [List.getElem?_zipWith] at hi
  cases ht : t[i]? with
  | none => rw [ht] at hi; cases hi
  | some p =>
    cases hu : u[i]? with
    | none => rw [ht, hu] at hi; cases hi
    | some q =>
      rw [ht, hu] at hi
      have e : List.zipWith (· + ·) p q = r := Option.some.inj hi
      rw [← e]
      have hp := st.sz p (List.mem_of_getElem? ht)
      have hq := su.sz q (List.mem_of_getElem? hu)
      clear e hi ht hu hr
      induction p generalizing q with
      | nil => intro x hx; cases hx
      | cons x p ih =>
        cases q with
        | nil => intro x hx; cases hx
        | cons y q => exact .cons (hp.head.add hq.head) (ih q hp.tail hq.tail)
theorem tsz_idle (n : Nat) : TSz (TM.idle n) 1 1 := ⟨by decide, by decide, by decide, fun r hr => by
  obtain ⟨i, _, rfl⟩ := List.mem_map.mp hr
  intro q hq
  obtain ⟨j, _, rfl⟩ := List.mem_map.mp hq
  by_cases h : i = j
  · rw [if_pos h]
    exact Sz.int (i := 1) (by decide)
  · rw [if_neg h]
    exact .zero⟩
/-- a drawn size -/
def rN (s : S) (n : Int) : Nat := (1 + rollV s n).toNat
theorem rN_ok (s : S) {n : Int} (h : 0 < n) (k : n ≤ 4) : 1 + rollV s n = (rN s n : Int) ∧ 1 ≤ rN s n ∧ rN s n ≤ 4 := by
  have := roll_bd s h
  unfold rN
  omega
theorem rN_ok5 (s : S) : 1 + rollV s 5 = (rN s 5 : Int) ∧ 1 ≤ rN s 5 ∧ rN s 5 ≤ 5 := by
  have := roll_bd s (n := 5) (by decide)
  unfold rN
  omega
/-- a drawn row -/
def nwT (u : S) : Nat → S
  | 0 => u
  | i + 1 => nbS (nwT u i) 9
def nwQ (u : S) (n : Nat) : List Rat := (List.range n).map fun i => nbQ (nwT u i) 9
theorem nw_sz (u : S) (n : Nat) : PSz 12 9 (nwQ u n) := fun q hq => by
  obtain ⟨i, _, rfl⟩ := List.mem_map.mp hq
  exact nb_sz _ (by decide) (by decide)
theorem nw_len (u : S) (n : Nat) : (nwQ u n).length = n := by unfold nwQ; rw [List.length_map, List.length_range]
def scL (x : Rat) : PyData → PyData
  | .list ds => .list (ds.map fun d => cD (x * qOf d))
  | _ => .none
theorem scL_t (x : Rat) (t : List (List Rat)) : (t.map fun p => PyData.list (p.map cD)).map (scL x) = (TM.scale x t).map fun p => .list (p.map cD) := by
  unfold TM.scale
  rw [List.map_map, List.map_map]
  refine List.map_congr_left fun p _ => ?_
  show PyData.list _ = PyData.list _
  rw [List.map_map, List.map_map]
  congr 1
  refine List.map_congr_left fun q _ => ?_
  show cD (x * qOf (cD q)) = cD (x * q)
  rw [cD_ne0]
def rgS (s : S) : S :=
  let a := rN s 4
  let s1 := rollS s 4
  let b := rN s1 4
  let s2 := rollS s1 4
  let c := rN s2 4
  let s3 := rollS s2 4
  let s4 := drS s3 a b
  let s5 := drS s4 a b
  let s6 := drS s5 b c
  let s7 := hdS s6 (drT s3 a b)
  let s8 := hdS s7 (drT s4 a b)
  let s9 := hdS s8 (drT s5 b c)
  let s10 := nbS s9 (10 ^ 12)
  let s11 := psS s10 (nbQ s9 (10 ^ 12))
  let w := rN s11 3
  let s12 := rollS s11 3
  let s13 := drS s12 c w
  let s14 := hdS s13 (drT s12 c w)
  let s15 := nwT s14 a
  let s16 := hrS s15 (nwQ s14 a)
  let s17 := drS s16 c c
  hdS s17 (drT s16 c c)
section
variable {X : Cx} {z : Z} {es : List Sl} {s s1 s2 : S} {a b : Expr} {d : PyData} {pos : Pos}
/-- e != e', both the same -/
theorem et_neS {k : Nat} (hu : X.A.units + 64 < cLine) (p : Pq k d) (ha : EV X z a es s d s1) (hb : EV X z b es s1 d s2) (hk : k ≤ 64 := by decide) : ET X z (.Compare a [.NotEq] [b] pos) es s false s2 := ET.is (et_ne hu (p.pl hk) (p.pl hk) ha hb) (by rw [p.refl]; rfl)
end
structure Gs (P : Program) (w : World) (K : PySem.W.Frag) (mg : Str → Option Value) (base : Heap) : Prop where
  roll : Dn P w K mg base 1 "_law_roll" rRoll
  drawn : Dn P w K mg base 4 "_law_tb_drawn" rDr
  handed : Dn P w K mg base 3 "_law_tb_handed" rHd
  told : Dn P w K mg base 1 "_law_tb_told" rTold
  lturned : Dn P w K mg base 1 "_law_tb_turned" rLT
  added : Dn P w K mg base 4 "_law_added" rLA
  number : Dn P w K mg base 3 "_law_tb_number" rNb
  passed : Dn P w K mg base 2 "_law_tb_passed" rPs
  times : Dn P w K mg base 3 "_law_times" rTimes
  lproduct : Dn P w K mg base 6 "_law_tb_product" rLP
  ldot : Dn P w K mg base 5 "_law_tb_dot" rDot
  lsum : Dn P w K mg base 4 "_law_sum" rLS
  lidle : Dn P w K mg base 1 "_law_tb_idle" rLI
  turned : Dn P w K mg base 7 "table_turned" rTrn
  sum : Dn P w K mg base 7 "table_sum" rSumT
  scaled : Dn P w K mg base 7 "table_scaled" rScl
  product : Dn P w K mg base 7 "table_product" rTPr
  idle : Dn P w K mg base 3 "idle_table" rIdT
  rtimes : Dn P w K mg base 7 "row_times" rRTi
  trace : Dn P w K mg base 7 "table_trace" rTrc
  istable : Dn P w K mg base 5 "is_table" rIsT
  isidle : Dn P w K mg base 6 "is_idle" rIsI
end K3


set_option Elab.async false
set_option linter.all false
set_option maxRecDepth 100000
set_option exponentiation.threshold 9000
namespace K3
open PySem PySem.Spec PyProof.Rows L2 DL PM
section
variable {P : Program} {w : World} {K : PySem.W.Frag} {mg : Str → Option Value} {base : Heap} {f : Addr} {fd : FuncData}
abbrev sRgt : Stmt := top 59
abbrev nRgt : List Str := ["_law_dice_here", "_law_a", "_law_b", "_law_c", "_law_one", "_law_same", "_law_other", "_law_first", "_law_second", "_law_last", "_law_number", "_law_row", "_law_due", "_law_told", "_law_wide", "_law_passed", "_law_square", "_law_entry", "_law_at", "_law_column"]
theorem scRgt : FnScope nRgt ["_law_dice_here"] (defScope sRgt) := ⟨rfl, rfl, rfl, by decide +kernel, rfl, by decide +kernel, by decide +kernel⟩
def rRgt : Rel := fun as s d s' => as = [.dice] ∧ d = .bool true ∧ s' = rgS s
set_option maxHeartbeats 8000000 in
theorem ok_right (F : Fun K "_law_right" "_law_right" sRgt f fd) (T : Top mg) (G : Gs P w K mg base) : FnOk P w K mg base CX0 8 f fd ["_law_dice_here"] (spD rRgt) := by
  refine okD F scRgt (by rintro _ _ _ _ ⟨rfl, _⟩; rfl) fun cdv A0 outer s0 H0 E C z as s d s' h => ?_
  obtain ⟨rfl, rfl, rfl⟩ := h
  have r : ∀ {k}, k ≤ 7 → Room k (cxOf CX0 P w K mg base nRgt "_law_right" (defScope sRgt) f cdv A0 outer s0 H0 E).nox.A := fun h => C.hr.mono h
  unfold rgS
  dsimp only
  obtain ⟨ea, a0, a4⟩ := rN_ok s (n := 4) (by decide) (by decide)
  generalize rN s 4 = a at *
  refine sr_par3 (d1 := .int (a : Int)) (d2 := .int (rN (rollS s 4) 4 : Int)) (d3 := .int (rN (rollS (rollS s 4) 4) 4 : Int)) (s1 := rollS (rollS (rollS s 4) 4) 4) 1 2 3 C.calm C.nd (ed_cons (EV.is (ev_add ev_int (ev_call G.roll (r (by decide)) (ea_dice 0 (ea_cons ev_int ea_nil)) ⟨4, rfl, by decide, bd_small (n := 4) (by decide), rfl, rfl⟩)) (by rw [ea]))
    (ed_cons (EV.is (ev_add ev_int (ev_call G.roll (r (by decide)) (ea_dice 0 (ea_cons ev_int ea_nil)) ⟨4, rfl, by decide, bd_small (n := 4) (by decide), rfl, rfl⟩)) (by rw [(rN_ok (rollS s 4) (n := 4) (by decide) (by decide)).1]))
    (ed_cons (EV.is (ev_add ev_int (ev_call G.roll (r (by decide)) (ea_dice 0 (ea_cons ev_int ea_nil)) ⟨4, rfl, by decide, bd_small (n := 4) (by decide), rfl, rfl⟩)) (by rw [(rN_ok (rollS (rollS s 4) 4) (n := 4) (by decide) (by decide)).1])) ed_nil))) ?_
  generalize rollS s 4 = s1
  obtain ⟨_, b0, b4⟩ := rN_ok s1 (n := 4) (by decide) (by decide)
  generalize rN s1 4 = b at *
  generalize rollS s1 4 = s2
  obtain ⟨_, c0, c4⟩ := rN_ok s2 (n := 4) (by decide) (by decide)
  generalize rN s2 4 = c at *
  generalize rollS s2 4 = s3
  refine sr_par3 (s1 := drS (drS (drS s3 a b) a b) b c) 4 5 6 C.calm C.nd (ed_cons (ev_call G.drawn (r (by decide)) (ea_dice 0 (ea_cons (ev_var 1) (ea_cons (ev_var 2) ea_nil))) ⟨a, b, rfl, a4, b4, rfl, rfl⟩) (ed_cons (ev_call G.drawn (r (by decide)) (ea_dice 0 (ea_cons (ev_var 1) (ea_cons (ev_var 2) ea_nil))) ⟨a, b, rfl, a4, b4, rfl, rfl⟩) (ed_cons (ev_call G.drawn (r (by decide)) (ea_dice 0 (ea_cons (ev_var 2) (ea_cons (ev_var 3) ea_nil))) ⟨b, c, rfl, b4, c4, rfl, rfl⟩) ed_nil))) ?_
  obtain ⟨d1, z1⟩ := dr_ok s3 a b a4
  generalize drT s3 a b = one at *
  generalize drS s3 a b = s4
  obtain ⟨d2, z2⟩ := dr_ok s4 a b a4
  generalize drT s4 a b = same at *
  generalize drS s4 a b = s5
  obtain ⟨d3, z3⟩ := dr_ok s5 b c b4
  generalize drT s5 b c = other at *
  generalize drS s5 b c = s6
  have ol := d1.n
  have sl := d2.n
  have tl := d3.n
  refine sr_par3 (s1 := hdS (hdS (hdS s6 one) same) other) 7 8 9 C.calm C.nd (ed_cons (ev_call G.handed (r (by decide)) (ea_dice 0 (ea_cons (ev_var 4) ea_nil)) ⟨one, rfl, by omega, fun p hp => by rw [d1.m p hp]; omega, rfl, rfl⟩) (ed_cons (ev_call G.handed (r (by decide)) (ea_dice 0 (ea_cons (ev_var 5) ea_nil)) ⟨same, rfl, by omega, fun p hp => by rw [d2.m p hp]; omega, rfl, rfl⟩) (ed_cons (ev_call G.handed (r (by decide)) (ea_dice 0 (ea_cons (ev_var 6) ea_nil)) ⟨other, rfl, by omega, fun p hp => by rw [d3.m p hp]; omega, rfl, rfl⟩) ed_nil))) ?_
  have h1 := tabD_h (s := s6) d1 (tsz_num z1) a0 (by omega) b0 (by omega)
  generalize hdL s6 one = first at *
  generalize hdS s6 one = s7
  have h2 := tabD_h (s := s7) d2 (tsz_num z2) a0 (by omega) b0 (by omega)
  generalize hdL s7 same = second at *
  generalize hdS s7 same = s8
  have h3 := tabD_h (s := s8) d3 (tsz_num z3) b0 (by omega) c0 (by omega)
  generalize hdL s8 other = last at *
  generalize hdS s8 other = s9
  have dT := TM.dim_turn d1
  have dA := TM.dim_add d1 d2
  have zA : TSz (TM.add one same) 12 (10 ^ 17 + 10 ^ 17) := tsz_add z1 z2 (by decide)
  -- turned, sum
  refine sr_ifF (et_w (ew_orF (et_neS C.hu (pq_tD (t := TM.turn one b)) (ev_call G.turned (r (by decide)) (ea_cons (ev_var 7) ea_nil) ⟨first, one, b, rfl, h1, by omega, rfl, rfl⟩) (ev_call G.told (r (by decide)) (ea_cons (ev_call G.lturned (r (by decide)) (ea_cons (ev_var 4) ea_nil) ⟨one, a, b, rfl, d1, a0, by omega, by omega, rfl, rfl⟩) ea_nil) ⟨_, rfl, by rw [dT.n]; omega, rfl, rfl⟩))
    (ew_or1 (et_neS C.hu (pq_tD (t := TM.add one same)) (ev_call G.sum (r (by decide)) (ea_cons (ev_var 7) (ea_cons (ev_var 8) ea_nil)) ⟨first, one, second, same, b, rfl, h1, h2, by omega, z1.qb, z2.qb, rfl, rfl⟩) (ev_call G.told (r (by decide)) (ea_cons (ev_call G.added (r (by decide)) (ea_cons (ev_var 4) (ea_cons (ev_var 5) ea_nil)) ⟨one, same, a, b, rfl, d1, d2, by omega, by omega, z1.qb, z2.qb, rfl, rfl⟩) ea_nil) ⟨_, rfl, by rw [dA.n]; omega, rfl, rfl⟩))))) ?_
  -- a number
  refine sr_asg (d := cD (nbQ s9 (10 ^ 12))) (s1 := nbS s9 (10 ^ 12)) 10 C.nd (ev_call G.number (r (by decide)) (ea_dice 0 (ea_cons (EV.is (ev_pow (cpow10 (by decide) (by decide)) ev_int ev_int) (by rfl)) ea_nil)) ⟨10 ^ 12, rfl, by decide, by decide, rfl, rfl⟩) ?_
  have zx := nb_sz s9 (m := 10 ^ 12) (by decide) (A := 10 ^ 12) (by decide)
  generalize nbQ s9 (10 ^ 12) = x at *
  generalize nbS s9 (10 ^ 12) = s10
  have qx : Qb x := zx.qb (by decide) (by decide) (by decide)
  refine sr_lcFL (j := 11) (k := 12) C.calm C.nd (scL x) (ev_var 4) (by rw [List.length_map]; omega) (blkOk_by (N := nRgt) (sc := defScope sRgt) (own := [("_law_row", 11)]) (by decide +kernel)) (fun _ _ _ _ _ => pg_name C.nd rfl (Or.inl rfl)) (fun d hd z' s0 H0 C' cl fp => ?_) ?_
  · obtain ⟨p, hp, rfl⟩ := lD_mem hd
    refine ev_lcF (j := 17) (by exact C.calm) (by exact C.nd) (fun d => cD (x * qOf d)) (ev_var 11) (by rw [List.length_map, d1.m p hp]; omega) (blkOk_by (N := nRgt) (own := [("_law_entry", 17)]) (by rfl)) (fun _ _ _ _ _ => pg_name (by exact C.nd) rfl (Or.inl rfl)) (fun e he z'' s0' H0' C'' cl' fp' => ?_)
    obtain ⟨q, hq, rfl⟩ := List.mem_map.mp he
    exact ev_call G.times (r (by decide)) (ea_cons (ev_var 10) (ea_cons (ev_var 17) ea_nil)) (Qb.times ⟨x, q, rfl, qx, z1.qb p hp q hq, by rw [cD_ne0], rfl⟩)
  · rw [scL_t]
    have dS := TM.dim_scale (a := x) d1
    refine sr_ifF (et_neS (s2 := psS s10 x) C.hu (pq_tD (t := TM.scale x one)) (ev_call G.scaled (r (by decide)) (ea_cons (ev_var 7) (ea_cons (ev_call G.passed (r (by decide)) (ea_dice 0 (ea_cons (ev_var 10) ea_nil)) ⟨x, rfl, rfl, rfl⟩) ea_nil)) ⟨first, one, b, _, x, rfl, h1, ps_nm s10 (sz_num zx (by decide)), qx, z1.qb, rfl, rfl⟩) (ev_call G.told (r (by decide)) (ea_cons (ev_var 12) ea_nil) ⟨TM.scale x one, rfl, by rw [dS.n]; omega, rfl, rfl⟩)) ?_
    generalize psS s10 x = s11
    -- products
    have dM := TM.dim_mul (m := c) (u := other) ol
    have zM := tsz_mul d1 d3 z1 z3 b4 (by decide) (by decide)
    have hM := tabD_t dM a0 (by omega) c0 (by omega)
    have prod : ∀ {es1 fs1 : List PyData} {t1 u1 : List (List Rat)} {n1 k1 m1 M1 A1 N1 B1 : Nat} {u : S}, TabD es1 t1 k1 → TabD fs1 u1 m1 → TM.Dim u1 k1 m1 → k1 ≤ 4 → TSz t1 M1 A1 → TSz u1 N1 B1 → rTPr [.val (.tuple es1), .val (.tuple fs1)] u (tD (TM.mul t1 u1 m1)) u := fun {es1 fs1 t1 u1 n1 k1 m1 M1 A1 N1 B1 u} a1 a2 dd a3 a4 a5 => by
      have e := dd.n
      exact ⟨es1, t1, fs1, u1, m1, M1, A1, N1, B1, rfl, by rw [e]; exact a1, a2, by omega, a4, a5, rfl, rfl⟩
    refine sr_asg (d := tD (TM.mul one other c)) 13 C.nd (ev_call G.product (r (by decide)) (ea_cons (ev_var 7) (ea_cons (ev_var 9) ea_nil)) (prod (n1 := a) h1 h3 d3 b4 z1 z3)) ?_
    have dTo := TM.dim_turn d3
    have hTo := tabD_t dTo c0 (by omega) b0 (by omega)
    have hT1 := tabD_t dT b0 (by omega) a0 (by omega)
    have zTo := tsz_turn d3 (by omega) z3
    have zT1 := tsz_turn d1 (by omega) z1
    refine sr_ifF (et_w (ew_orF (et_neS C.hu (pq_tD (t := TM.mul one other c)) (ev_var 13) (ev_call G.told (r (by decide)) (ea_cons (ev_call G.lproduct (r (by decide)) (ea_cons (ev_var 4) (ea_cons (ev_var 6) ea_nil)) ⟨one, a, b, other, c, _, _, _, _, rfl, d1, d3, by omega, b0, by omega, by omega, z1, z3, by decide, rfl, rfl⟩) ea_nil) ⟨_, rfl, by rw [dM.n]; omega, rfl, rfl⟩))
      (ew_or1 (et_neS C.hu (pq_tD (t := TM.turn (TM.mul one other c) c)) (EV.is (ev_call G.product (r (by decide)) (ea_cons (ev_call G.turned (r (by decide)) (ea_cons (ev_var 9) ea_nil) ⟨last, other, c, rfl, h3, by omega, rfl, rfl⟩) (ea_cons (ev_call G.turned (r (by decide)) (ea_cons (ev_var 7) ea_nil) ⟨first, one, b, rfl, h1, by omega, rfl, rfl⟩) ea_nil)) (prod (n1 := c) hTo hT1 dT b4 zTo zT1)) (by rw [TM.mul_turn d1 d3])) (ev_call G.turned (r (by decide)) (ea_cons (ev_var 13) ea_nil) ⟨_, TM.mul one other c, c, rfl, hM, by rw [dM.n]; exact a4, rfl, rfl⟩))))) ?_
    have hA := tabD_t dA a0 (by omega) b0 (by omega)
    have dM2 := TM.dim_mul (m := c) (u := other) sl
    have zM2 := tsz_mul d2 d3 z2 z3 b4 (by decide) (by decide)
    have hM2 := tabD_t dM2 a0 (by omega) c0 (by omega)
    refine sr_ifF (et_neS C.hu (pq_tD (t := TM.add (TM.mul one other c) (TM.mul same other c))) (EV.is (ev_call G.product (r (by decide)) (ea_cons (ev_call G.sum (r (by decide)) (ea_cons (ev_var 7) (ea_cons (ev_var 8) ea_nil)) ⟨first, one, second, same, b, rfl, h1, h2, by omega, z1.qb, z2.qb, rfl, rfl⟩) (ea_cons (ev_var 9) ea_nil)) (prod (n1 := a) hA h3 d3 b4 zA z3)) (by rw [TM.add_mul d1 d2 d3]))
      (ev_call G.sum (r (by decide)) (ea_cons (ev_var 13) (ea_cons (ev_call G.product (r (by decide)) (ea_cons (ev_var 8) (ea_cons (ev_var 9) ea_nil)) (prod (n1 := a) h2 h3 d3 b4 z2 z3)) ea_nil)) ⟨_, TM.mul one other c, _, TM.mul same other c, c, rfl, hM, hM2, by rw [dM.n, dM2.n], zM.qb, zM2.qb, rfl, rfl⟩)) ?_
    -- a third table
    obtain ⟨ew, w0, w3⟩ := rN_ok s11 (n := 3) (by decide) (by decide)
    refine sr_asg (d := .tuple (hdL (drS (rollS s11 3) c (rN s11 3)) (drT (rollS s11 3) c (rN s11 3)))) (s1 := hdS (drS (rollS s11 3) c (rN s11 3)) (drT (rollS s11 3) c (rN s11 3))) 14 C.nd (ev_call G.handed (r (by decide)) (ea_dice 0 (ea_cons (ev_call G.drawn (r (by decide)) (ea_dice 0 (ea_cons (ev_var 3) (ea_cons (EV.is (ev_add ev_int (ev_call G.roll (r (by decide)) (ea_dice 0 (ea_cons ev_int ea_nil)) ⟨3, rfl, by decide, bd_small (n := 3) (by decide), rfl, rfl⟩)) (by rw [ew])) ea_nil))) ⟨c, rN s11 3, rfl, c4, by omega, rfl, rfl⟩) ea_nil)) ⟨drT (rollS s11 3) c (rN s11 3), rfl, by rw [(dr_ok (rollS s11 3) c (rN s11 3) c4).1.n]; omega, fun p hp => by rw [(dr_ok (rollS s11 3) c (rN s11 3) c4).1.m p hp]; omega, rfl, rfl⟩) ?_
    generalize rN s11 3 = wn at *
    generalize rollS s11 3 = s12
    obtain ⟨d4, z4⟩ := dr_ok s12 c wn c4
    generalize drT s12 c wn = wide at *
    generalize drS s12 c wn = s13
    have h4 := tabD_h (s := s13) d4 (tsz_num z4) c0 (by omega) w0 (by omega)
    generalize hdL s13 wide = wideD at *
    generalize hdS s13 wide = s14
    have dOW := TM.dim_mul (m := wn) (u := wide) tl
    have zOW := tsz_mul d3 d4 z3 z4 c4 (by decide) (by decide)
    have hOW := tabD_t dOW b0 (by omega) w0 (by omega)
    refine sr_ifF (et_neS C.hu (pq_tD (t := TM.mul one (TM.mul other wide wn) wn)) (EV.is (ev_call G.product (r (by decide)) (ea_cons (ev_var 13) (ea_cons (ev_var 14) ea_nil)) (prod (n1 := a) hM h4 d4 c4 zM z4)) (by rw [TM.mul_assoc d1 d3 d4]))
      (ev_call G.product (r (by decide)) (ea_cons (ev_var 7) (ea_cons (ev_call G.product (r (by decide)) (ea_cons (ev_var 9) (ea_cons (ev_var 14) ea_nil)) (prod (n1 := b) h3 h4 d4 c4 z3 z4)) ea_nil)) (prod (n1 := a) h1 hOW dOW b4 z1 zOW))) ?_
    -- idle tables
    have hIa := tabD_t (TM.dim_idle a) a0 (by omega) a0 (by omega)
    have hIb := tabD_t (TM.dim_idle b) b0 (by omega) b0 (by omega)
    refine sr_ifF (et_w (ew_orF (et_neS C.hu (pq_tD (t := one)) (EV.is (ev_call G.product (r (by decide)) (ea_cons (ev_call G.idle (r (by decide)) (ea_cons (ev_var 1) ea_nil) ⟨a, rfl, a0, by omega, rfl, rfl⟩) (ea_cons (ev_var 7) ea_nil)) (prod (n1 := a) hIa h1 d1 a4 (tsz_idle a) z1)) (by rw [TM.idle_mul d1])) (ev_call G.told (r (by decide)) (ea_cons (ev_var 4) ea_nil) ⟨one, rfl, by omega, rfl, rfl⟩))
      (ew_or1 (et_neS C.hu (pq_tD (t := one)) (EV.is (ev_call G.product (r (by decide)) (ea_cons (ev_var 7) (ea_cons (ev_call G.idle (r (by decide)) (ea_cons (ev_var 2) ea_nil) ⟨b, rfl, b0, by omega, rfl, rfl⟩) ea_nil)) (prod (n1 := a) h1 hIb (TM.dim_idle b) b4 z1 (tsz_idle b))) (by rw [TM.mul_idle d1])) (ev_call G.told (r (by decide)) (ea_cons (ev_var 4) ea_nil) ⟨one, rfl, by omega, rfl, rfl⟩))))) ?_
    -- a row
    refine sr_asg (d := .list ((nwQ s14 a).map cD)) (s1 := nwT s14 a) 11 C.nd (EV.is (ev_lcFR (j := 18) C.calm C.nd T.range (fun i => cD (nbQ (nwT s14 i) 9)) (fun i => nwT s14 i) (ed_cons (ev_var 1) ed_nil) rfl (by omega) (blkOk_by (N := nRgt) (sc := defScope sRgt) (own := [("_law_at", 18)]) (by decide +kernel)) (fun _ _ _ _ _ => pg_name C.nd rfl (Or.inl rfl)) (fun i hi z' s0 H0 C' cl fp => ?_)) (by unfold nwQ; rw [List.map_map]; rfl)) ?_
    · exact ev_call G.number (r (by decide)) (ea_dice 0 (ea_cons ev_int ea_nil)) ⟨9, rfl, by decide, by decide, rfl, rfl⟩
    · have zr := nw_sz s14 a
      have lr := nw_len s14 a
      generalize nwQ s14 a = row at *
      generalize nwT s14 a = s15
      have lq : (row.map cD).length = row.length := List.length_map ..
      have k3 : hrS s15 row = scS psS s15 (row.take (row.map cD).length) := by
        rw [lq, List.take_length]
        rfl
      refine sr_asg (d := .tuple (scD psD psS s15 row)) (s1 := hrS s15 row) 15 C.nd (EV.is (EV.st (ev_bty call_tuple_of rb_tuple T.tuple (ed_cons (ev_lcFS (j := 17) C.calm C.nd (scF psD psS row s15) (fun i => scS psS s15 (row.take i)) (ev_var 11) rfl (by rw [lq]; omega) (blkOk_by (N := nRgt) (sc := defScope sRgt) (own := [("_law_entry", 17)]) (by decide +kernel)) (fun _ _ _ _ _ => pg_name C.nd rfl (Or.inl rfl)) (fun i d hd z' s0 H0 C' cl fp => ?_)) ed_nil)) k3.symm) (by rw [lq, scD_range])) ?_
      · obtain ⟨q, hq, rfl⟩ := rD_get hd
        rw [scF_get hq, scS_take hq]
        exact ev_call G.passed (r (by decide)) (ea_dice 0 (ea_cons (ev_var 17) ea_nil)) ⟨q, rfl, rfl, rfl⟩
      · have nr : NmL (scD psD psS s15 row) row := hr_nml fun q hq => sz_num (zr q hq) (by decide)
        have ro : RowOk row 12 9 := ⟨by decide, by decide, by decide, zr, by omega⟩
        generalize scD psD psS s15 row = rowD at *
        generalize hrS s15 row = s16
        have keyR : (((List.range b).map fun j => TM.dot row (TM.col one j)).map cD) = ((TM.turn one b).map fun p => PyData.list (p.map cD)).map (dotD (.list (row.map cD))) := by
          unfold TM.turn
          rw [List.map_map, List.map_map, List.map_map]
          exact List.map_congr_left fun j _ => (dotD_q _ _).symm
        refine sr_ifF (et_neS C.hu (pq_pD (p := (List.range b).map fun j => TM.dot row (TM.col one j))) (ev_call G.rtimes (r (by decide)) (ea_cons (ev_var 15) (ea_cons (ev_var 7) ea_nil)) ⟨rowD, row, first, one, b, _, _, _, _, rfl, nr, by omega, h1, by omega, ro, z1, rfl, rfl⟩)
          (EV.is (ev_bty call_tuple_of rb_tuple T.tuple (ed_cons (ev_lcF (j := 19) C.calm C.nd (dotD (.list (row.map cD))) (ev_call G.lturned (r (by decide)) (ea_cons (ev_var 4) ea_nil) ⟨one, a, b, rfl, d1, a0, by omega, by omega, rfl, rfl⟩) (by rw [List.length_map, dT.n]; omega) (blkOk_by (N := nRgt) (sc := defScope sRgt) (own := [("_law_column", 19)]) (by decide +kernel)) (fun _ _ _ _ _ => pg_name C.nd rfl (Or.inl rfl)) (fun d hd z' s0 H0 C' cl fp => ?_)) ed_nil)) (by rw [keyR]))) ?_
        · obtain ⟨p, hp, rfl⟩ := lD_mem hd
          obtain ⟨j, hj, rfl⟩ := List.mem_map.mp hp
          have hj := List.mem_range.mp hj
          rw [dotD_q]
          exact ev_call G.ldot (r (by decide)) (ea_cons (ev_var 11) (ea_cons (ev_var 19) ea_nil)) ⟨row, TM.col one j, _, _, _, _, rfl, ro, z1.turn d1 (by omega) hj, by rw [TM.col_len]; omega, by decide, rfl, rfl⟩
        · -- a square table
          refine sr_asg (s1 := drS s16 c c) 16 C.nd (ev_call G.drawn (r (by decide)) (ea_dice 0 (ea_cons (ev_var 3) (ea_cons (ev_var 3) ea_nil))) ⟨c, c, rfl, c4, c4, rfl, rfl⟩) ?_
          obtain ⟨d5, z5⟩ := dr_ok s16 c c c4
          generalize drT s16 c c = sq at *
          generalize drS s16 c c = s17
          have ql := d5.n
          have h5 := tabD_h (s := s17) d5 (tsz_num z5) c0 (by omega) c0 (by omega)
          have diag : PSz 12 (10 ^ 17) ((List.range c).map fun i => TM.en sq i i) := fun q hq => by
            obtain ⟨i, hi, rfl⟩ := List.mem_map.mp hq
            have hi := List.mem_range.mp hi
            exact z5.sz _ (TM.rw_mem (by omega)) _ (List.mem_of_getElem? (TM.at1_get (by rw [d5.row hi]; exact hi)))
          have et : trace sq = TM.sumL ((List.range c).map fun i => TM.en sq i i) := by
            unfold trace
            rw [ql]
          refine sr_ret (EV.is (ev_eq C.hu (pq_cD (q := trace sq)).pl (pq_cD (q := trace sq)).pl (ev_call G.trace (r (by decide)) (ea_cons (ev_call G.handed (r (by decide)) (ea_dice 0 (ea_cons (ev_var 16) ea_nil)) ⟨sq, rfl, by omega, fun p hp => by rw [d5.m p hp]; omega, rfl, rfl⟩) ea_nil) ⟨_, sq, _, _, rfl, by rw [ql]; exact h5, z5, by omega, rfl, rfl⟩)
            (EV.is (ev_call G.lsum (r (by decide)) (ea_cons (EV.is (ev_lcFR (j := 18) C.calm C.nd T.range (fun i => cD (TM.en sq i i)) (fun _ => hdS s17 sq) (ed_cons (ev_var 3) ed_nil) rfl (by omega) (blkOk_by (N := nRgt) (sc := defScope sRgt) (own := [("_law_at", 18)]) (by decide +kernel)) (fun _ _ _ _ _ => pg_name C.nd rfl (Or.inl rfl)) (fun i hi z' s0 H0 C' cl fp => ?_)) (show PyData.list _ = .list (((List.range c).map fun i => TM.en sq i i).map cD) by rw [List.map_map]; rfl)) ea_nil) ⟨(List.range c).map fun i => TM.en sq i i, 12, 10 ^ 17, rfl, diag, by decide, by decide, by rw [List.length_map, List.length_range]; omega, by
                rw [List.length_map, List.length_range]
                have : c * 10 ^ 17 * 12 ≤ 4 * 10 ^ 17 * 12 := Nat.mul_le_mul_right _ (Nat.mul_le_mul_right _ c4)
                exact Nat.lt_of_le_of_lt this (by decide), by decide, rfl, rfl⟩) (by rw [et]))) (by rw [pq_cD.refl]))
          have g1 : (sq.map fun p => PyData.list (p.map cD))[i]? = some (.list ((TM.rw sq i).map cD)) := by
            rw [List.getElem?_map, TM.rw_get (by omega)]
            rfl
          have g2 : ((TM.rw sq i).map cD)[i]? = some (cD (TM.en sq i i)) := by
            rw [List.getElem?_map, TM.at1_get (by rw [d5.row hi]; exact hi)]
            rfl
          exact ev_ixL (i := (i : Int)) (ev_ixL (i := (i : Int)) (ev_var 16) (ev_var 18) (atI_nat g1)) (ev_var 18) (atI_nat g2)
end
end K3


set_option Elab.async false
set_option linter.all false
set_option maxRecDepth 100000
set_option exponentiation.threshold 9000
namespace K3
open PySem PySem.Spec PyProof.Rows L2 DL PM
/-! ### the second half of the law -/
def q53 : Rat := mkRat 5 3
theorem q53_D : cD q53 = .tuple [.int 5, .int 3] := by
  unfold cD
  rw [show q53.num = 5 by decide +kernel, show q53.den = 3 by decide +kernel]
  rfl
theorem rep_flat {α : Type} (x : α) : ∀ n : Nat, (List.replicate n [x]).flatten = List.replicate n x
  | 0 => rfl
  | n + 1 => by rw [List.replicate_succ, List.replicate_succ, List.flatten_cons, rep_flat x n]; rfl
theorem nml_rep (n : Nat) : NmL (List.replicate n (PyData.int 1)) (List.replicate n (1 : Rat)) := by
  induction n with
  | zero => exact .nil
  | succ n ih =>
    rw [List.replicate_succ, List.replicate_succ]
    exact .cons (.int (by decide) (by decide)) ih
theorem tbl_rep {ds : List PyData} {p : List Rat} (h : NmL ds p) (n : Nat) : TbL (List.replicate n (.tuple ds)) (List.replicate n p) := by
  induction n with
  | zero => exact .nil
  | succ n ih =>
    rw [List.replicate_succ, List.replicate_succ]
    exact .cons h ih
theorem TbL.app {es fs : List PyData} {t u : List (List Rat)} (h : TbL es t) (k : TbL fs u) : TbL (es ++ fs) (t ++ u) := by
  induction h with
  | nil => exact k
  | cons h1 _ ih => exact .cons h1 ih
def ones : List (List Rat) := List.replicate 40 (List.replicate 40 1)
theorem ones_tab : TabD (List.replicate 40 (.tuple (List.replicate 40 (.int 1)))) ones 40 := ⟨tbl_rep (nml_rep 40) 40, by decide, by decide, by decide, by decide, fun p hp => by
  rw [List.eq_of_mem_replicate hp, List.length_replicate]⟩
theorem ones_not : decide (ones = TM.idle ones.length) = false := decide_eq_false fun h => by
  have hl : ones.length = 40 := by unfold ones; rw [List.length_replicate]
  have e : TM.en ones 0 1 = TM.en (TM.idle 40) 0 1 := by rw [← hl, ← h]
  rw [TM.en_idle (by decide) (by decide), if_neg (by decide)] at e
  have : TM.en ones 0 1 = 1 := by
    unfold TM.en
    rw [TM.rw_of (r := List.replicate 40 1) (by unfold ones; rw [List.getElem?_replicate]; rfl), TM.at1_of (q := 1) (by rw [List.getElem?_replicate]; rfl)]
  rw [this] at e
  exact absurd e (by decide)
theorem idle_num (n : Nat) : ∀ p ∈ TM.idle n, ∀ q ∈ p, -(10 ^ 60) < q.num ∧ q.num < 10 ^ 60 := fun p hp q hq => by
  have := ((tsz_idle n).sz p hp q hq).num (by decide)
  omega
def bentT (n i j : Nat) : List (List Rat) := (TM.idle n).set i ((TM.rw (TM.idle n) i).set j q53)
theorem bent_dim {n i j : Nat} (hi : i < n) : TM.Dim (bentT n i j) n n := by
  have d := TM.dim_idle n
  refine ⟨by unfold bentT; rw [List.length_set, d.n], fun r hr => ?_⟩
  rcases List.mem_or_eq_of_mem_set hr with h | h
  · exact d.m r h
  · rw [h, List.length_set, d.row hi]
theorem bent_not {n i j : Nat} (hi : i < n) (hj : j < n) : decide (bentT n i j = TM.idle (bentT n i j).length) = false := decide_eq_false fun h => by
  have d := TM.dim_idle n
  rw [(bent_dim hi).n] at h
  have e : TM.en (bentT n i j) i j = TM.en (TM.idle n) i j := by rw [h]
  have e1 : TM.en (bentT n i j) i j = q53 := by
    unfold TM.en
    rw [TM.rw_of (t := bentT n i j) (r := (TM.rw (TM.idle n) i).set j q53) (by unfold bentT; rw [List.getElem?_set_self (by rw [d.n]; exact hi)]), TM.at1_of (q := q53) (by rw [List.getElem?_set_self (by rw [d.row hi]; exact hj)])]
  rw [e1, TM.en_idle hi hj] at e
  split at e
  · exact absurd e (by decide +kernel)
  · exact absurd e (by decide +kernel)
theorem wide_not (n : Nat) (h0 : 1 ≤ n) : decide (TM.idle n ++ [TM.rw (TM.idle n) 0] = TM.idle (TM.idle n ++ [TM.rw (TM.idle n) 0]).length) = false := decide_eq_false fun h => by
  have d := TM.dim_idle n
  have hl : (TM.idle n ++ [TM.rw (TM.idle n) 0]).length = n + 1 := by rw [List.length_append, d.n]; rfl
  rw [hl] at h
  have m : TM.rw (TM.idle n) 0 ∈ TM.idle (n + 1) := by
    rw [← h]
    simp
  have l1 := (TM.dim_idle (n + 1)).m _ m
  rw [d.row (by omega)] at l1
  omega
def oddA (es : List PyData) : List PyData := [.none, .tuple [], .tuple [.tuple []], .list [.tuple es], .list es, .int 5, .str "1", .tuple [.tuple [.int 1], .tuple [.int 1, .int 2]], .tuple [.tuple [.int 1], .list [.int 1]], .tuple [.tuple [.bool true]], .tuple [.tuple [.none]], .tuple [.tuple [.tuple [.int 2, .int 4]]], .tuple [.tuple [.tuple [.int 1, .int 0]]]]
def oddB (es : List PyData) (n : Nat) : List PyData := [.tuple (List.replicate 41 (.tuple [.int 1])), .tuple [.tuple (List.replicate 41 (.int 1))], .tuple [.tuple [.tuple [.int 1, .int (-2)]]], .tuple [.tuple [.str "1"]], .tuple [.dict []], .tuple [.tuple [.int (10 ^ (60 : Int).toNat)]], .tuple (es ++ [.tuple (List.replicate (n + 1) (.int 1))])]
theorem odd_bad {es : List PyData} {t : List (List Rat)} {n : Nat} (h : TabD es t n) : ∀ d ∈ oddA es ++ oddB es n, isT d = false := fun d hd => by
  rcases List.mem_append.mp hd with hd | hd
  · unfold oddA at hd
    simp only [List.mem_cons, List.not_mem_nil, or_false] at hd
    rcases hd with rfl | rfl | rfl | rfl | rfl | rfl | rfl | rfl | rfl | rfl | rfl | rfl | rfl
    all_goals first
      | rfl
      | decide +kernel
  · unfold oddB at hd
    simp only [List.mem_cons, List.not_mem_nil, or_false] at hd
    rcases hd with rfl | rfl | rfl | rfl | rfl | rfl | rfl
    · decide +kernel
    · decide +kernel
    · decide +kernel
    · decide +kernel
    · decide +kernel
    · decide +kernel
    · have hl := h.l.length
      have h0 := h.n0
      obtain ⟨ds, hd0, hdl⟩ := h.first
      rw [isT_tup]
      have e0 : (es ++ [PyData.tuple (List.replicate (n + 1) (.int 1))]).getD 0 .none = .tuple ds := by
        rw [List.getD_eq_getElem?_getD, List.getElem?_append_left (by omega), hd0]
        rfl
      rw [e0]
      have : ((es ++ [PyData.tuple (List.replicate (n + 1) (.int 1))]).all fun d => decide (lnR d = lnR (.tuple ds))) = false := by
        rw [List.all_append]
        have : ([PyData.tuple (List.replicate (n + 1) (.int 1))].all fun d => decide (lnR d = lnR (.tuple ds))) = false := by
          rw [List.all_cons]
          have : decide (lnR (.tuple (List.replicate (n + 1) (.int 1))) = lnR (.tuple ds)) = false := decide_eq_false (by
            show ¬ ((List.replicate (n + 1) (PyData.int 1)).length : Int) = (ds.length : Int)
            rw [List.length_replicate]
            omega)
          rw [this, Bool.false_and]
        rw [this, Bool.and_false]
      rw [this, Bool.and_false, Bool.and_false]
def jdS (s : S) : S := rollS (rollS (hdS (rollS s 5) (TM.idle (rN s 5))) (rN s 5 : Int)) (rN s 5 : Int)
section
variable {P : Program} {w : World} {K : PySem.W.Frag} {mg : Str → Option Value} {base : Heap} {f : Addr} {fd : FuncData}
abbrev sJd : Stmt := top 60
abbrev nJd : List Str := ["_law_dice_here", "_law_size", "_law_idle", "_law_table", "_law_at", "_law_to", "_law_odd", "_law_bent", "_law_near", "_law_value", "_law_row"]
theorem scJd : FnScope nJd ["_law_dice_here"] (defScope sJd) := ⟨rfl, rfl, rfl, by decide +kernel, rfl, by decide +kernel, by decide +kernel⟩
def rJdg : Rel := fun as s d s' => as = [.dice] ∧ d = .bool true ∧ s' = jdS s
set_option maxHeartbeats 8000000 in
theorem ok_judged (F : Fun K "_law_judged" "_law_judged" sJd f fd) (T : Top mg) (T8 : Top8 mg) (G : Gs P w K mg base) : FnOk P w K mg base CX0 7 f fd ["_law_dice_here"] (spD rJdg) := by
  refine okD F scJd (by rintro _ _ _ _ ⟨rfl, _⟩; rfl) fun cdv A0 outer s0 H0 E C z as s d s' h => ?_
  obtain ⟨rfl, rfl, rfl⟩ := h
  have r : ∀ {k}, k ≤ 6 → Room k (cxOf CX0 P w K mg base nJd "_law_judged" (defScope sJd) f cdv A0 outer s0 H0 E).nox.A := fun h => C.hr.mono h
  unfold jdS
  obtain ⟨en, n0, n5⟩ := rN_ok5 s
  generalize rN s 5 = n at *
  have bn : Bd 9000 (n : Int) := bd_small (by omega)
  refine sr_asg (d := .int (n : Int)) (s1 := rollS s 5) 1 C.nd (EV.is (ev_add ev_int (ev_call G.roll (r (by decide)) (ea_dice 0 (ea_cons ev_int ea_nil)) ⟨5, rfl, by decide, bd_small (n := 5) (by decide), rfl, rfl⟩)) (by rw [en])) ?_
  generalize rollS s 5 = s1
  refine sr_asg 2 C.nd (ev_call G.lidle (r (by decide)) (ea_cons (ev_var 1) ea_nil) ⟨n, rfl, by omega, rfl, rfl⟩) ?_
  have dI := TM.dim_idle n
  refine sr_asg (s1 := hdS s1 (TM.idle n)) 3 C.nd (ev_call G.handed (r (by decide)) (ea_dice 0 (ea_cons (ev_var 2) ea_nil)) ⟨TM.idle n, rfl, by rw [dI.n]; omega, fun p hp => by rw [dI.m p hp]; omega, rfl, rfl⟩) ?_
  have hT := tabD_h (s := s1) dI (idle_num n) n0 (by omega) n0 (by omega)
  generalize hdL s1 (TM.idle n) = es at *
  generalize hdS s1 (TM.idle n) = s2
  have esl := hT.l.length
  have idl := dI.n
  have r1 := roll_bd s2 (n := (n : Int)) (by omega)
  have r2 := roll_bd (rollS s2 (n : Int)) (n := (n : Int)) (by omega)
  obtain ⟨i, hi, ei⟩ : ∃ i : Nat, i < n ∧ rollV s2 (n : Int) = (i : Int) := ⟨(rollV s2 (n : Int)).toNat, by omega, by omega⟩
  obtain ⟨j, hj, ej⟩ : ∃ j : Nat, j < n ∧ rollV (rollS s2 (n : Int)) (n : Int) = (j : Int) := ⟨(rollV (rollS s2 (n : Int)) (n : Int)).toNat, by omega, by omega⟩
  refine sr_par (d1 := .int (i : Int)) (d2 := .int (j : Int)) (s1 := rollS (rollS s2 (n : Int)) (n : Int)) 4 5 C.calm C.nd (ed_cons (EV.is (ev_call G.roll (r (by decide)) (ea_dice 0 (ea_cons (ev_var 1) ea_nil)) ⟨_, rfl, by omega, bn, rfl, rfl⟩) (by rw [ei])) (ed_cons (EV.is (ev_call G.roll (r (by decide)) (ea_dice 0 (ea_cons (ev_var 1) ea_nil)) ⟨_, rfl, by omega, bn, rfl, rfl⟩) (by rw [ej])) ed_nil)) ?_
  generalize rollS (rollS s2 (n : Int)) (n : Int) = s3
  refine sr_asg (d := .list (oddA es)) 6 C.nd (ev_lst (ed_cons ev_non (ed_cons (ev_tup ed_nil) (ed_cons (ev_tup (ed_cons (ev_tup ed_nil) ed_nil)) (ed_cons (ev_lst (ed_cons (ev_var 3) ed_nil)) (ed_cons (ev_bty call_list_of rb_listT T8.list (ed_cons (ev_var 3) ed_nil)) (ed_cons ev_int (ed_cons ev_str
    (ed_cons (ev_tup (ed_cons (ev_tup (ed_cons ev_int ed_nil)) (ed_cons (ev_tup (ed_cons ev_int (ed_cons ev_int ed_nil))) ed_nil))) (ed_cons (ev_tup (ed_cons (ev_tup (ed_cons ev_int ed_nil)) (ed_cons (ev_lst (ed_cons ev_int ed_nil)) ed_nil))) (ed_cons (ev_tup (ed_cons (ev_tup (ed_cons ev_bl ed_nil)) ed_nil)) (ed_cons (ev_tup (ed_cons (ev_tup (ed_cons ev_non ed_nil)) ed_nil))
    (ed_cons (ev_tup (ed_cons (ev_tup (ed_cons (ev_tup (ed_cons ev_int (ed_cons ev_int ed_nil))) ed_nil)) ed_nil)) (ed_cons (ev_tup (ed_cons (ev_tup (ed_cons (ev_tup (ed_cons ev_int (ed_cons ev_int ed_nil))) ed_nil)) ed_nil)) ed_nil)))))))))))))) ?_
  refine sr_asg (d := .list (oddA es ++ oddB es n)) 6 C.nd (ev_cat (by show 13 + 7 ≤ 100000; decide) (ev_var 6) (ev_lst
    (ed_cons (EV.is (ev_repT (ds := [.tuple [.int 1]]) (n := 41) (by simp) (by decide) (by decide) (by simp) (ev_tup (ed_cons (ev_tup (ed_cons ev_int ed_nil)) ed_nil)) ev_int) (by rw [rep_flat]; rfl))
    (ed_cons (ev_tup (ed_cons (EV.is (ev_repT (ds := [.int 1]) (n := 41) (by simp) (by decide) (by decide) (by simp) (ev_tup (ed_cons ev_int ed_nil)) ev_int) (by rw [rep_flat]; rfl)) ed_nil))
    (ed_cons (ev_tup (ed_cons (ev_tup (ed_cons (ev_tup (ed_cons ev_int (ed_cons (ev_neg ev_int) ed_nil))) ed_nil)) ed_nil))
    (ed_cons (ev_tup (ed_cons (ev_tup (ed_cons ev_str ed_nil)) ed_nil))
    (ed_cons (ev_tup (ed_cons ev_emptyDict ed_nil))
    (ed_cons (ev_tup (ed_cons (ev_tup (ed_cons (ev_pow (cpow10 (by decide) (by decide)) ev_int ev_int) ed_nil)) ed_nil))
    (ed_cons (ev_catA (ds := es) (fs' := [.tuple (List.replicate (n + 1) (.int 1))]) (by rw [esl, idl]; simp; omega) (ev_var 3) (ev_tup (ed_cons (EV.is (ev_repT (ds := [.int 1]) (n := (n : Int) + 1) (by simp) (by omega) (by omega) (by simp) (ev_tup (ed_cons ev_int ed_nil)) (ev_add (ev_var 1) ev_int)) (by rw [show ((n : Int) + 1).toNat = n + 1 by omega, rep_flat])) ed_nil))) ed_nil))))))))) ?_
  have bad := odd_bad hT
  have olen : (oddA es ++ oddB es n).length ≤ 100000 := by show 13 + 7 ≤ 100000; decide
  generalize oddA es ++ oddB es n = odd at *
  refine sr_ifF (et_neS C.hu (pq_lst (k := 0) (ds := []) fun d hd => by cases hd) (ev_lcIf (j := 9) C.calm C.nd (ev_var 6) olen (fun _ => false) (fun _ => []) (fun _ => s3) (fun _ => s3) rfl rfl (blkOk_by (N := nJd) (sc := defScope sJd) (own := [("_law_value", 9)]) (by decide +kernel)) (fun _ _ _ _ _ => pg_name C.nd rfl (Or.inl rfl)) (fun z' k d hd s0 H0 C' cl fp => ?_) (fun k d hd h => by cases h) (fun k d hd _ => ⟨rfl, rfl⟩)) (ev_lst ed_nil)) ?_
  · have hb := bad d (List.mem_of_getElem? hd)
    exact et_w (ew_orF (et_val (ev_call G.istable (r (by decide)) (ea_cons (ev_var 9) ea_nil) ⟨d, rfl, by rw [hb], rfl⟩)) (ew_or1 (et_val (ev_call G.isidle C.hr (ea_cons (ev_var 9) ea_nil) (.inl ⟨d, rfl, hb, rfl, rfl⟩)))))
  · have rowE : ((TM.idle n).map fun p => p.map cD)[i]? = some ((TM.rw (TM.idle n) i).map cD) := by
      rw [List.getElem?_map, TM.rw_get (by omega)]
      rfl
    have key : (PyData.list ((((TM.idle n).map fun p => p.map cD).set i (((TM.rw (TM.idle n) i).map cD).set j (.tuple [.int 5, .int 3]))).map PyData.list)) = lD (bentT n i j) := by
      rw [← q53_D, ← List.map_set, ← List.map_set (f := fun p : List Rat => p.map cD), List.map_map]
      rfl
    refine sr_bent (j := 10) (k := 7) (i := i) (n := j) (rows := (TM.idle n).map fun p => p.map cD) (r := (TM.rw (TM.idle n) i).map cD) C.calm C.nd (EV.is (ev_var 2) (by unfold lD; rw [List.map_map]; rfl)) (by rw [List.length_map]; omega) (blkOk_by (N := nJd) (sc := defScope sJd) (own := [("_law_row", 10)]) (by decide +kernel)) (fun _ _ _ _ _ => pg_name C.nd rfl (Or.inl rfl))
      (fun σ H Q a ws h1 h2 h3 s0 H0 C' cl fp => el_list h1 h2 h3 T8.list) (ev_tup (ed_cons ev_int (ed_cons ev_int ed_nil))) (ev_var 4) (ev_var 5) rowE (by rw [List.length_map, dI.row hi]; exact hj) ?_ (by exact Nat.le_of_ble_eq_true rfl) (by exact Nat.le_of_ble_eq_true rfl) (hgs := fun hp => pg_sub hp wE_ok set_list)
    rw [key]
    have dB := bent_dim (j := j) hi
    refine sr_asg (d := tD (bentT n i j)) 8 C.nd (ev_call G.told (r (by decide)) (ea_cons (ev_var 7) ea_nil) ⟨bentT n i j, rfl, by rw [dB.n]; omega, rfl, rfl⟩) ?_
    have hB := tabD_t dB n0 (by omega) n0 (by omega)
    refine sr_ifF (et_w (ew_orF (et_notF (et_val (ev_call G.istable (r (by decide)) (ea_cons (ev_var 8) ea_nil) ⟨tD (bentT n i j), rfl, congrArg PyData.bool hB.isT.symm, rfl⟩)))
      (ew_orF (et_val (ev_call G.isidle C.hr (ea_cons (ev_var 8) ea_nil) (.inr ⟨_, bentT n i j, n, rfl, hB, by rw [bent_not hi hj], rfl⟩)))
      (ew_orF (et_notF (et_val (ev_call G.istable (r (by decide)) (ea_cons (ev_var 3) ea_nil) ⟨.tuple es, rfl, congrArg PyData.bool hT.isT.symm, rfl⟩)))
      (ew_orF (et_notF (et_val (ev_call G.isidle C.hr (ea_cons (ev_var 3) ea_nil) (.inr ⟨es, TM.idle n, n, rfl, hT, by rw [idl, decide_eq_true rfl], rfl⟩))))
      (ew_or1 (et_neS C.hu (pq_tD (t := TM.idle n)) (ev_call G.idle (r (by decide)) (ea_cons (ev_var 1) ea_nil) ⟨n, rfl, n0, by omega, rfl, rfl⟩) (ev_call G.told (r (by decide)) (ea_cons (ev_var 2) ea_nil) ⟨TM.idle n, rfl, by omega, rfl, rfl⟩)))))))) ?_
    obtain ⟨ds0, hd0, hl0⟩ := hT.first
    have hW : TabD (es ++ [.tuple ds0]) (TM.idle n ++ [TM.rw (TM.idle n) 0]) n := by
      obtain ⟨ds1, p1, hp1, he1, hn1⟩ := hT.l.get hd0
      cases he1
      rw [TM.rw_of hp1]
      have lp := dI.m p1 (List.mem_of_getElem? hp1)
      refine ⟨hT.l.app (.cons hn1 .nil), by rw [List.length_append]; omega, by rw [List.length_append, idl]; simp; omega, n0, by omega, fun p hp => ?_⟩
      rcases List.mem_append.mp hp with hp | hp
      · exact dI.m p hp
      · rw [List.mem_singleton.mp hp]
        exact lp
    refine sr_ret (ev_andT (ev_call G.istable (r (by decide)) (ea_cons (EV.is (ev_repT (ds := [.tuple (List.replicate 40 (.int 1))]) (n := 40) (by simp) (by decide) (by decide) (by simp) (ev_tup (ed_cons (EV.is (ev_repT (ds := [.int 1]) (n := 40) (by simp) (by decide) (by decide) (by simp) (ev_tup (ed_cons ev_int ed_nil)) ev_int) (by rw [rep_flat]; rfl)) ed_nil)) ev_int) (by rw [rep_flat]; rfl)) ea_nil) ⟨_, rfl, congrArg PyData.bool ones_tab.isT.symm, rfl⟩)
      (ev_andT (EV.is (ev_not (ev_call G.isidle C.hr (ea_cons (EV.is (ev_repT (ds := [.tuple (List.replicate 40 (.int 1))]) (n := 40) (by simp) (by decide) (by decide) (by simp) (ev_tup (ed_cons (EV.is (ev_repT (ds := [.int 1]) (n := 40) (by simp) (by decide) (by decide) (by simp) (ev_tup (ed_cons ev_int ed_nil)) ev_int) (by rw [rep_flat]; rfl)) ed_nil)) ev_int) (by rw [rep_flat]; rfl)) ea_nil) (.inr ⟨_, ones, 40, rfl, ones_tab, by rw [ones_not], rfl⟩))) rfl)
      (ev_andT (EV.is (ev_not (ev_call G.isidle C.hr (ea_cons (ev_catA (ds := es) (fs' := [.tuple ds0]) (by rw [esl, idl]; simp; omega) (ev_var 3) (ev_tup (ed_cons (ev_ixT (ev_var 3) ev_int (atI_nat (j := 0) hd0)) ed_nil))) ea_nil) (.inr ⟨_, _, n, rfl, hW, by rw [wide_not n n0], rfl⟩))) rfl)
      (ev_b1 (ev_call G.isidle C.hr (ea_cons (ev_call G.idle (r (by decide)) (ea_cons ev_int ea_nil) ⟨40, rfl, by decide, by decide, rfl, rfl⟩) ea_nil) (.inr ⟨_, TM.idle 40, 40, rfl, tabD_t (TM.dim_idle 40) (by decide) (by decide) (by decide) (by decide), by rw [(TM.dim_idle 40).n, decide_eq_true rfl], rfl⟩))))))
end
end K3


set_option Elab.async false
set_option linter.all false
set_option maxRecDepth 100000
set_option exponentiation.threshold 9000
namespace K3
open PySem PySem.Spec PyProof.Rows L2 DL PM
structure TopM (mg : Str → Option Value) : Prop where
  min : mg "min" = none
  max : mg "max" = none
def z0 : Z := ⟨none, []⟩
theorem fz0 (a : Addr) : Fz z0 a := ⟨fun h => (by cases h), fun o h => (by cases h)⟩
theorem at0 {H : Hp} {s : S} : At z0 H s := ⟨fun a h => (by cases h), fun p h => (by cases h), fun p h => (by cases h)⟩
theorem sq_ez {K : PySem.W.Frag} {z : Z} {H H' : Hp} {a : Addr} {xs : List V} (h : SqL K H a xs) (f : Fz z a) (e : Ez z H H') : SqL K H' a xs := by
  rcases h with (h | ⟨o, h⟩) | h
  · exact .inl (.inl (e a _ f h))
  · exact .inl (.inr ⟨o, e a _ f h⟩)
  · exact .inr h
section
variable {P : Program} {w : World} {K : PySem.W.Frag} {mg : Str → Option Value} {base : Heap} {f : Addr} {fd : FuncData}
abbrev sDice : Stmt := top 41
theorem scDice : FnScope ["_law_script", "_law_spot", "_law_cell", "_law_left"] ["_law_script", "_law_spot"] (defScope sDice) := ⟨rfl, rfl, rfl, by decide +kernel, rfl, by decide +kernel, by decide +kernel⟩
/-- a new list of three ints -/
def spDice (K : PySem.W.Frag) : Sp := fun vs H Q _ => ∃ (a : Addr) (i : Nat) (ns : List Int), vs = [.ref a, .int (i : Int)] ∧ SqL K H a (ns.map V.int) ∧ ns.length ≤ 63 ∧ ∀ (s : S) (H1 : Hp) (p : Addr), Ez z0 H H1 → H1 p = none → Q (.ref p) (upd H1 p (dv s))
theorem ok_dice (F : Fun K "_law_dice" "_law_dice" sDice f fd) (T : Top mg) (T3 : TopM mg) : FnOk P w K mg base CX0 1 f fd ["_law_script", "_law_spot"] (spDice K) := by
  refine F.ok scDice (fun vs H Q E h => ?_) (fun cdv A outer s0 H0 vs Q E hr h => ?_)
  · obtain ⟨a, i, ns, rfl, _⟩ := h
    rfl
  · obtain ⟨a, i, ns, rfl, hS, hl, q⟩ := h
    have C : Ctx (cxOf CX0 P w K mg base ["_law_script", "_law_spot", "_law_cell", "_law_left"] "_law_dice" (defScope sDice) f cdv A outer s0 H0 E).nox 0 ["_law_script", "_law_spot", "_law_cell", "_law_left"] := ⟨scDice.nd, rfl, PassesOwn.never, hr, hr.units⟩
    refine ⟨_, pss_cons (ps_set (i := 2) scDice.nd rfl (.inl rfl) (pe_ifExp (pt_cmpR op_lt (pv 1) (pe_callB call_len (by rfl) T.len (by decide +kernel) (pa_cons (pv 0) pa_nil)) (nomark _)) (pe_callTy call_int1 (by rfl) T.int (by decide +kernel) (pa_cons (pe_ix ix_list (pv 0) (pv 1) (fun _ _ => rfl)) pa_nil)) wE_ok))
      (pss_cons wS_ok (pss_one (ps_ret (pe_lst wA_ok)))), ?_⟩
    have e0 : ∀ (c : Int) (H0 : Hp), En z0 H0 [some (.ref a), some (.int (i : Int)), some (.int c), none] [.un, .val (.int (i : Int)), .val (.int c), .un] := fun c _ => .cons .un (.cons (.val (.int _)) (.cons (.val (.int _)) (.cons .un .nil)))
    -- the rest, from the cell on
    have rest : ∀ (c : Int) (H3 : Hp), Ez z0 H0 H3 → (tSeq (wS (cxOf CX0 P w K mg base ["_law_script", "_law_spot", "_law_cell", "_law_left"] "_law_dice" (defScope sDice) f cdv A outer s0 H0 E).nox ((defBody sDice).getD 1 (.Pass ⟨0, 0, 0, 0⟩))) (tRet (tLst (wA (cxOf CX0 P w K mg base ["_law_script", "_law_spot", "_law_cell", "_law_left"] "_law_dice" (defScope sDice) f cdv A outer s0 H0 E).nox
        (match (defBody sDice)[2]? with | some (Stmt.Return (some (Expr.List es _)) _) => es | _ => []))))) { nx := fun _ H' => Q .non H', rt := Q } [some (.ref a), some (.int (i : Int)), some (.int c), none] H3 := fun c H3 e3 => by
      have m1 : -(2 ^ 64) < (c.natAbs : Int).fmod 1152921504606846869 ∧ (c.natAbs : Int).fmod 1152921504606846869 < 2 ^ 64 := by
        have := fmod_bd (i := (c.natAbs : Int)) (n := 1152921504606846869) (by decide)
        omega
      have B1 : Bd 300 ((10 : Int) ^ (56 : Int).toNat) := by unfold Bd; decide
      have B2 : Bd 300 ((10 : Int) ^ (60 : Int).toNat) := by unfold Bd; decide
      have L1 : EV (cxOf CX0 P w K mg base ["_law_script", "_law_spot", "_law_cell", "_law_left"] "_law_dice" (defScope sDice) f cdv A outer s0 H0 E).nox z0 (match (defBody sDice)[1]? with | some (Stmt.Assign _ e _) => e | _ => .Constant .none 0 ⟨0, 0, 0, 0⟩) [.un, .val (.int (i : Int)), .val (.int c), .un] (0, 0, 0) (.int ((max 0 ((c.natAbs : Int) - 10 ^ (16 : Int).toNat)).fmod (10 ^ (56 : Int).toNat * 10 ^ (60 : Int).toNat))) (0, 0, 0) :=
        ev_mod (by decide) (ev_bltn (call_max2 C.calm) (rb_max C.calm) T3.max (ed_cons ev_int (ed_cons (ev_sub (ev_bltn call_abs rb_abs T.abs (ed_cons (ev_var 2) ed_nil)) (ev_pow (cpow10 (by decide) (by decide)) ev_int ev_int)) ed_nil))) (ev_mul (B1.cmul B2) (ev_pow (cpow10 (by decide) (by decide)) ev_int ev_int) (ev_pow (cpow10 (by decide) (by decide)) ev_int ev_int))
      refine ⟨_, ps_set (i := 3) scDice.nd rfl (.inl rfl) wE_ok, ?_⟩
      refine L1 _ H3 (e0 c H3) at0 _ fun v H1 e1 a1 v1 => ?_
      have en1 : En z0 H1 [some (.ref a), some (.int (i : Int)), some (.int c), some v] [.un, .val (.int (i : Int)), .val (.int c), .val (.int ((max 0 ((c.natAbs : Int) - 10 ^ (16 : Int).toNat)).fmod (10 ^ (56 : Int).toNat * 10 ^ (60 : Int).toNat)))] := .cons .un (.cons (.val (.int _)) (.cons (.val (.int _)) (.cons (.val v1) .nil)))
      have D : ED (cxOf CX0 P w K mg base ["_law_script", "_law_spot", "_law_cell", "_law_left"] "_law_dice" (defScope sDice) f cdv A outer s0 H0 E).nox z0 (match (defBody sDice)[2]? with | some (Stmt.Return (some (Expr.List es _)) _) => es | _ => []) [.un, .val (.int (i : Int)), .val (.int c), .val (.int ((max 0 ((c.natAbs : Int) - 10 ^ (16 : Int).toNat)).fmod (10 ^ (56 : Int).toNat * 10 ^ (60 : Int).toNat)))] (0, 0, 0)
          [.int ((max 0 ((c.natAbs : Int) - 10 ^ (16 : Int).toNat)).fmod (10 ^ (56 : Int).toNat * 10 ^ (60 : Int).toNat)), .int ((c.natAbs : Int).fmod 1152921504606846869 * 61 + 1009 * (i : Int) + 43 * (if decide (c < 0) = true then 1 else 0) + 17), .int 0] (0, 0, 0) :=
        ed_cons (ev_var 3) (ed_cons (ev_add (ev_add (ev_add (ev_mulL m1 (ev_mod (by decide) (ev_bltn call_abs rb_abs T.abs (ed_cons (ev_var 2) ed_nil)) ev_int) ev_int) (ev_mulL (by decide) ev_int (ev_var 1))) (ev_mulL (by decide) ev_int (ev_bty call_int1 rb_intB T.int (ed_cons (ev_lt (ev_var 2) ev_int) ed_nil)))) ev_int) (ed_cons ev_int ed_nil))
      refine D _ H1 en1 at0 _ fun vs H2 e2 a2 v2 => ?_
      cases v2 with
      | cons h r =>
        cases h
        cases r with
        | cons h r =>
          cases h
          cases r with
          | cons h r =>
            cases h
            cases r
            exact ⟨(by show 3 ≤ sizeLine; decide), fun p hp => q (_, _, _) H2 p (e3.trans (e1.trans e2)) hp⟩
    -- the cell
    refine ⟨_, rfl, .ref a, rfl, .ref a, _, rfl, .inl ⟨_, hS, rfl⟩, _, _, rfl, rfl, _, rfl, ?_⟩
    rw [List.length_map]
    by_cases hi : i < ns.length
    · rw [decide_eq_true (show (i : Int) < (ns.length : Int) by omega)]
      refine iteT ⟨.ref a, rfl, _, rfl, a, _, (i : Int), .int ns[i], rfl, rfl, hS, atI_nat (j := i) (by rw [List.getElem?_map, List.getElem?_eq_getElem hi]; rfl), .inl ⟨_, rfl, ?_⟩⟩
      exact rest ns[i] H0 (.refl H0)
    · rw [decide_eq_false (show ¬ (i : Int) < (ns.length : Int) by omega)]
      refine iteF ?_
      have L0 : EV (cxOf CX0 P w K mg base ["_law_script", "_law_spot", "_law_cell", "_law_left"] "_law_dice" (defScope sDice) f cdv A outer s0 H0 E).nox z0 (match (defBody sDice)[0]? with | some (Stmt.Assign _ (Expr.IfExp _ _ e _) _) => e | _ => .Constant .none 0 ⟨0, 0, 0, 0⟩) [.un, .val (.int (i : Int)), .un, .un] (0, 0, 0) (.int (89 * (i : Int) + 53)) (0, 0, 0) :=
        ev_add (ev_mulL (by decide) ev_int (ev_var 1)) ev_int
      refine L0 _ H0 (.cons .un (.cons (.val (.int _)) (.cons .un (.cons .un .nil)))) at0 _ fun v H1 e1 a1 v1 => ?_
      cases v1
      exact rest _ H1 e1
end


/-! ### the law -/
def half1 : Rat := mkRat 1 2
theorem half_D : cD half1 = .tuple [.int 1, .int 2] := by
  unfold cD
  rw [show half1.num = 1 by decide +kernel, show half1.den = 2 by decide +kernel]
  rfl
theorem half_nm : NmQ (.tuple [.int 1, .int 2]) half1 := by
  rw [← half_D]
  exact nmq_cD _
theorem half_sz : Sz 12 (10 ^ 17) half1 := ⟨6, by decide +kernel, by decide⟩
def rI (i : Int) : Rat := (i : Rat)
theorem nmI {i : Int} (h : -(10 ^ 60) < i ∧ i < 10 ^ 60) : NmQ (.int i) (rI i) := .int h.1 h.2
theorem szI {i : Int} (h : i.natAbs ≤ 10 ^ 17) : Sz 12 (10 ^ 17) (rI i) := .int h
def tA : List (List Rat) := [[rI 1, rI 2], [rI 3, half1]]
def eA : List PyData := [.tuple [.int 1, .int 2], .tuple [.int 3, .tuple [.int 1, .int 2]]]
theorem tblA : TbL eA tA := .cons (.cons (nmI (by decide)) (.cons (nmI (by decide)) .nil)) (.cons (.cons (nmI (by decide)) (.cons half_nm .nil)) .nil)
theorem tabA : TabD eA tA 2 := ⟨tblA, by decide, by decide, by decide, by decide, fun p hp => by
  rcases List.mem_cons.mp hp with rfl | hp
  · rfl
  · rw [List.mem_singleton.mp hp]
    rfl⟩
theorem tszA : TSz tA 12 (10 ^ 17) := ⟨by decide, by decide, by decide, fun p hp => by
  rcases List.mem_cons.mp hp with rfl | hp
  · exact .cons (szI (by decide)) (.cons (szI (by decide)) .nil)
  · rw [List.mem_singleton.mp hp]
    exact .cons (szI (by decide)) (.cons half_sz .nil)⟩
def tU : List (List Rat) := [[rI 1], [rI 0]]
def eU : List PyData := [.tuple [.int 1], .tuple [.int 0]]
theorem tabU : TabD eU tU 1 := ⟨.cons (.cons (nmI (by decide)) .nil) (.cons (.cons (nmI (by decide)) .nil) .nil), by decide, by decide, by decide, by decide, fun p hp => by
  rcases List.mem_cons.mp hp with rfl | hp
  · rfl
  · rw [List.mem_singleton.mp hp]
    rfl⟩
theorem tszU : TSz tU 12 (10 ^ 17) := ⟨by decide, by decide, by decide, fun p hp => by
  rcases List.mem_cons.mp hp with rfl | hp
  · exact .cons (szI (by decide)) .nil
  · rw [List.mem_singleton.mp hp]
    exact .cons (szI (by decide)) .nil⟩
def tI : List (List Rat) := [[rI 1, rI 0], [rI 0, rI 1]]
def eI : List PyData := [.tuple [.int 1, .int 0], .tuple [.int 0, .tuple [.int 1, .int 1]]]
theorem one_nm : NmQ (.tuple [.int 1, .int 1]) (rI 1) := .fr (by decide) (by decide)
theorem tabI : TabD eI tI 2 := ⟨.cons (.cons (nmI (by decide)) (.cons (nmI (by decide)) .nil)) (.cons (.cons (nmI (by decide)) (.cons one_nm .nil)) .nil), by decide, by decide, by decide, by decide, fun p hp => by
  rcases List.mem_cons.mp hp with rfl | hp
  · rfl
  · rw [List.mem_singleton.mp hp]
    rfl⟩
theorem rowU : RowOk [rI 1, rI 1] 12 (10 ^ 17) := ⟨by decide, by decide, by decide, .cons (szI (by decide)) (.cons (szI (by decide)) .nil), by decide⟩
def rT : List Rat := (List.range 2).map fun j => TM.dot [rI 1, rI 1] (TM.col tA j)
def oC (t b : Int) : PyData := .tuple [.int t, .int b]
section
variable {P : Program} {w : World} {K : PySem.W.Frag} {mg : Str → Option Value} {base : Heap} {f : Addr} {fd : FuncData}
abbrev sLaw : Stmt := top 61
abbrev nLaw : List Str := ["_law_script", "_law_spot", "_law_told", "_law_dice_here", "_law_a"]
theorem scLaw : FnScope nLaw ["_law_script"] (defScope sLaw) := ⟨rfl, rfl, rfl, by decide +kernel, rfl, by decide +kernel, by decide +kernel⟩
def spLaw (K : PySem.W.Frag) : Sp := fun vs H Q _ => ∃ (a : Addr) (ns : List Int), vs = [.ref a] ∧ SqL K H a (ns.map V.int) ∧ ns.length ≤ 63 ∧ ∀ H', Q (.bl true) H'
structure Defs (P : Program) (w : World) (K : PySem.W.Frag) (mg : Str → Option Value) (base : Heap) : Prop where
  g : Gs P w K mg base
  right : Dn P w K mg base 8 "_law_right" rRgt
  judged : Dn P w K mg base 7 "_law_judged" rJdg
set_option maxHeartbeats 4000000 in
theorem law_rest (G : Defs P w K mg base) {cdv : Value} {A : Around} {outer : List Env} {s0 : Shared} {H0 : Hp} {E : XK}
    (C : Ctx (cxOf CX0 P w K mg base nLaw "law" (defScope sLaw) f cdv A outer s0 H0 E).nox 8 nLaw) (s : S) :
    SR (cxOf CX0 P w K mg base nLaw "law" (defScope sLaw) f cdv A outer s0 H0 E).nox z0 ((defBody sLaw).drop 1) [.un, .un, .un, .un, .un] s (.rt (.bool true) s) := by
  have r : ∀ {k}, k ≤ 8 → Room k (cxOf CX0 P w K mg base nLaw "law" (defScope sLaw) f cdv A outer s0 H0 E).nox.A := fun h => C.hr.mono h
  refine sr_asg (d := .tuple eA) (s1 := s) 4 C.nd (ev_tup (ed_cons (ev_tup (ed_cons ev_int (ed_cons ev_int ed_nil))) (ed_cons (ev_tup (ed_cons ev_int (ed_cons (ev_tup (ed_cons ev_int (ed_cons ev_int ed_nil))) ed_nil))) ed_nil))) ?_
  refine sr_asg (d := .list [tD (TM.mul tA tU 1), .tuple ((TM.rw (TM.scale half1 tA) 1).map cD), cD (trace tA), .tuple (rT.map cD), .bool (decide (tI = TM.idle tI.length))]) (s1 := s) 2 C.nd (ev_lst
    (ed_cons (ev_call G.g.product (r (by decide)) (ea_cons (ev_var 4) (ea_cons (ev_tup (ed_cons (ev_tup (ed_cons ev_int ed_nil)) (ed_cons (ev_tup (ed_cons ev_int ed_nil)) ed_nil))) ea_nil)) ⟨eA, tA, eU, tU, 1, _, _, _, _, rfl, tabA, tabU, by decide, tszA, tszU, rfl, rfl⟩)
    (ed_cons (ev_ixT (ev_call G.g.scaled (r (by decide)) (ea_cons (ev_var 4) (ea_cons (ev_tup (ed_cons ev_int (ed_cons ev_int ed_nil))) ea_nil)) ⟨eA, tA, 2, _, half1, rfl, tabA, half_nm, half_sz.qb (by decide) (by decide) (by decide), tszA.qb, rfl, rfl⟩) ev_int (atI_nat (j := 1) rfl))
    (ed_cons (ev_call G.g.trace (r (by decide)) (ea_cons (ev_var 4) ea_nil) ⟨eA, tA, _, _, rfl, tabA, tszA, by decide, rfl, rfl⟩)
    (ed_cons (ev_call G.g.rtimes (r (by decide)) (ea_cons (ev_tup (ed_cons ev_int (ed_cons ev_int ed_nil))) (ea_cons (ev_var 4) ea_nil)) ⟨[.int 1, .int 1], [rI 1, rI 1], eA, tA, 2, _, _, _, _, rfl, .cons (nmI (by decide)) (.cons (nmI (by decide)) .nil), rfl, tabA, by decide, rowU, tszA, rfl, rfl⟩)
    (ed_cons (ev_call G.g.isidle (r (by decide)) (ea_cons (ev_tup (ed_cons (ev_tup (ed_cons ev_int (ed_cons ev_int ed_nil))) (ed_cons (ev_tup (ed_cons ev_int (ed_cons (ev_tup (ed_cons ev_int (ed_cons ev_int ed_nil))) ed_nil))) ed_nil))) ea_nil) (.inr ⟨eI, tI, 2, rfl, tabI, rfl, rfl⟩)) ed_nil)))))) ?_
  have pb : ∀ b, Pq 3 (.bool b) := fun b => ⟨rfl, rfl, by unfold PyData.depth; omega⟩
  have pl5 : Pl (.list [tD (TM.mul tA tU 1), .tuple ((TM.rw (TM.scale half1 tA) 1).map cD), cD (trace tA), .tuple (rT.map cD), .bool (decide (tI = TM.idle tI.length))]) := (pq_lst (k := 3) fun d hd => by
    simp only [List.mem_cons, List.not_mem_nil, or_false] at hd
    rcases hd with rfl | rfl | rfl | rfl | rfl
    · exact pq_tD
    · exact pq_pD.mono (by decide)
    · exact pq_cD.mono (by decide)
    · exact pq_pD.mono (by decide)
    · exact pb _).pl
  refine sr_ret (EV.is (ev_eq C.hu (d2 := .list [.tuple [.tuple [oC 1 1], .tuple [oC 3 1]], .tuple [oC 3 2, oC 1 4], oC 3 2, .tuple [oC 4 1, oC 5 2], .bool true]) pl5 ⟨rfl, rfl⟩ (ev_var 2)
    (ev_lst (ed_cons (ev_tup (ed_cons (ev_tup (ed_cons (ev_tup (ed_cons ev_int (ed_cons ev_int ed_nil))) ed_nil)) (ed_cons (ev_tup (ed_cons (ev_tup (ed_cons ev_int (ed_cons ev_int ed_nil))) ed_nil)) ed_nil)))
      (ed_cons (ev_tup (ed_cons (ev_tup (ed_cons ev_int (ed_cons ev_int ed_nil))) (ed_cons (ev_tup (ed_cons ev_int (ed_cons ev_int ed_nil))) ed_nil)))
      (ed_cons (ev_tup (ed_cons ev_int (ed_cons ev_int ed_nil)))
      (ed_cons (ev_tup (ed_cons (ev_tup (ed_cons ev_int (ed_cons ev_int ed_nil))) (ed_cons (ev_tup (ed_cons ev_int (ed_cons ev_int ed_nil))) ed_nil)))
      (ed_cons ev_bl ed_nil))))))) (congrArg PyData.bool (by decide +kernel)))
theorem ok_law (F : Fun K "law" "law" sLaw f fd) (T : Top mg) (T3 : TopM mg) (G : Defs P w K mg base) {fD : Addr} {fdD : FuncData} (GD : FnOk P w K mg base CX0 1 fD fdD ["_law_script", "_law_spot"] (spDice K)) (mD : mg "_law_dice" = some (.ref fD)) (kD : PySem.W.keepIn K (.ref fD) = true) (bD : Binds K fdD ["_law_script", "_law_spot"] []) : FnOk P w K mg base CX0 9 f fd ["_law_script"] (spLaw K) := by
  refine F.ok scLaw (fun vs H Q E h => ?_) (fun cdv A outer s0 H0 vs Q E hr h => ?_)
  · obtain ⟨a, ns, rfl, _⟩ := h
    rfl
  · obtain ⟨a, ns, rfl, hS, hl, q⟩ := h
    have C : Ctx (cxOf CX0 P w K mg base nLaw "law" (defScope sLaw) f cdv A outer s0 H0 E).nox 8 nLaw := ⟨scLaw.nd, rfl, PassesOwn.never, hr, hr.units⟩
    refine ⟨_, pss_cons (ps_for PassesOwn.never rfl (pi_range1 rfl T.range (pa_cons (pe_callB (call_max2 rfl) (by rfl) T3.max (by decide +kernel) (pa_cons pe_int (pa_cons (pe_callB (call_min2 rfl) (by rfl) T3.min (by decide +kernel) (pa_cons pe_int (pa_cons (pe_callB call_len (by rfl) T.len (by decide +kernel) (pa_cons (pv 0) pa_nil)) pa_nil))) pa_nil))) pa_nil))
      (pg_name (i := 1) scLaw.nd rfl (Or.inl rfl)) (pss_cons (ps_set (i := 3) scLaw.nd rfl (.inl rfl) (pe_call GD (hr.mono (by decide)) (by rfl) mD kD bD .nil pass0 (pa_cons (pv 0) (pa_cons (pv 1) pa_nil)))) wB_ok)) wB_ok, ?_⟩
    refine ⟨.ref a, rfl, .ref a, _, rfl, .inl ⟨_, hS, rfl⟩, _, _, rfl, _, _, rfl, _, rfl, ?_, ?_, ?_⟩
    · rw [List.length_map]
      split <;> split <;> omega
    · rw [List.length_map]
      split <;> split <;> omega
    refine for_range (lo := 0) (fun i σ H => ∃ x1 x2 x3 x4, σ = [some (.ref a), x1, x2, x3, x4] ∧ SqL K H a (ns.map V.int)) ⟨_, _, _, _, rfl, hS⟩ (fun i σ H hi w => ?_) (fun σ H w => ?_)
    · obtain ⟨x1, x2, x3, x4, rfl, hA⟩ := w
      refine ⟨.ref a, rfl, .int (0 + (i : Int)), rfl, a, i, ns, by rw [Int.zero_add]; rfl, hA, hl, fun s H1 p e1 hp => ?_⟩
      have inner : SR (cxOf CX0 P w K mg base nLaw "law" (defScope sLaw) f cdv A outer s0 H0 E).nox ⟨some p, []⟩ ((loopB (defBody sLaw)[0]?).drop 1) [.raw (.ref a), .un, .un, .dice, .un] s (.nx [.raw (.ref a), .un, .un, .dice, .un] (jdS (rgS (rgS s)))) := by
        refine sr_ifF (et_w (ew_orF (et_notF (et_val (ev_call G.right C.hr (ea_dice 3 ea_nil) ⟨rfl, rfl, rfl⟩))) (ew_orF (et_notF (et_val (ev_call G.right C.hr (ea_dice 3 ea_nil) ⟨rfl, rfl, rfl⟩))) (ew_or1 (et_notF (et_val (ev_call G.judged (C.hr.mono (by decide)) (ea_dice 3 ea_nil) ⟨rfl, rfl, rfl⟩))))))) ?_
        exact sr_nil
      refine inner _ _ (.cons .raw (.cons .un (.cons .un (.cons (.dice rfl) (.cons .un .nil))))) ⟨fun b hb => ?_, fun p h => (by cases h), fun p h => (by cases h)⟩ _ fun σ' H' e2 a2 n2 => ?_
      · cases hb
        exact upd_same
      · have fz : ∀ o, H a = some o → Fz ⟨some p, []⟩ a ∧ upd H1 p (dv s) a = some o := fun o ho => by
          have h1 := e1 a o (fz0 a) ho
          have na := ne_of_none h1 hp
          exact ⟨⟨fun h => na (Option.some.inj h).symm, fun o h => (by cases h)⟩, by rw [upd_ne na]; exact h1⟩
        have hA3 : SqL K H' a (ns.map V.int) := by
          rcases hA with (h | ⟨o, h⟩) | h
          · exact .inl (.inl (e2 a _ (fz _ h).1 (fz _ h).2))
          · exact .inl (.inr ⟨o, e2 a _ (fz _ h).1 (fz _ h).2⟩)
          · exact .inr h
        cases n2 with
        | cons h1 n2 =>
          cases h1
          cases n2 with
          | cons h1 n2 =>
            cases n2 with
            | cons h1 n2 =>
              cases n2 with
              | cons h1 n2 =>
                cases n2 with
                | cons h1 n2 =>
                  cases n2
                  exact ⟨_, _, _, _, rfl, hA3⟩
    · obtain ⟨x1, x2, x3, x4, rfl, hA⟩ := w
      refine law_rest G C (0, 0, 0) _ H (.cons .un (.cons .un (.cons .un (.cons .un (.cons .un .nil))))) at0 _ fun v H' e a2 v2 => ?_
      cases v2
      exact q H'
end
end K3


set_option Elab.async false
set_option linter.all false
set_option maxRecDepth 100000
namespace K3
open PySem PySem.Spec PyProof.Rows L2 DL PM
/-- a def of the top: what stands under its name -/
def DefAt (K : PySem.W.Frag) (x : Str) (st : Stmt) : Prop := ∃ (f : Addr) (oc : Value) (od an : Option Addr) (sl : Array (Option Value)) (kV dc pm cd ct : Value), PySem.W.nsIn K mainGlobals x = some (some (.ref f)) ∧
  K.lookup f = some ⟨oc, od, .func (PySem.W.fnOf x x (defArgs st) (defBody st) (defScope st) .none kV dc pm an cd ct), sl⟩ ∧ PySem.W.codeIn K cd x = true ∧ PySem.W.keepIn K (.ref f) = true
theorem DefAt.mk' {K : PySem.W.Frag} {x : Str} {st : Stmt} {f : Addr} {oc : Value} {od an : Option Addr} {sl : Array (Option Value)} {kV dc pm cd ct : Value} (a : PySem.W.nsIn K mainGlobals x = some (some (.ref f)))
    (l : K.lookup f = some ⟨oc, od, .func (PySem.W.fnOf x x (defArgs st) (defBody st) (defScope st) .none kV dc pm an cd ct), sl⟩) (c : PySem.W.codeIn K cd x = true) (k : PySem.W.keepIn K (.ref f) = true) : DefAt K x st := ⟨f, oc, od, an, sl, kV, dc, pm, cd, ct, a, l, c, k⟩
theorem int_at {K : PySem.W.Frag} {x : Str} {i : Int} {t : Tok} (a : PySem.W.nsIn K mainGlobals x = some (some (.int i t))) : ∃ t, PySem.W.nsIn K mainGlobals x = some (some (.int i t)) := ⟨t, a⟩
theorem DefAt.fn {K : PySem.W.Frag} {h : Heap} {mg : Str → Option Value} {x : Str} {st : Stmt} (X : K.In h) (G : h.Ns mainGlobals mg) (D : DefAt K x st) : ∃ f fd, Fun K x x st f fd ∧ mg x = some (.ref f) := by
  obtain ⟨f, oc, od, an, sl, kV, dc, pm, cd, ct, a, l, c, k⟩ := D
  exact ⟨f, _, fun_mk l c k, PySem.W.mg_of X G a⟩

structure TopK (K : PySem.W.Frag) : Prop where
  d8 : DefAt K "is_whole" (top 8)
  d9 : DefAt K "is_between" (top 9)
  d10 : DefAt K "is_integer" (top 10)
  d11 : DefAt K "is_fraction" (top 11)
  d12 : DefAt K "is_number" (top 12)
  d13 : DefAt K "need_number" (top 13)
  d14 : DefAt K "as_pair" (top 14)
  d15 : DefAt K "fraction" (top 15)
  d16 : DefAt K "_parts" (top 16)
  d17 : DefAt K "added" (top 17)
  d18 : DefAt K "multiplied" (top 18)
  d20 : DefAt K "whole_row" (top 20)
  d23 : DefAt K "is_row" (top 23)
  d24 : DefAt K "is_table" (top 24)
  d25 : DefAt K "_need_table" (top 25)
  d26 : DefAt K "_need_row" (top 26)
  d27 : DefAt K "_need_square" (top 27)
  d28 : DefAt K "_fractions" (top 28)
  d30 : DefAt K "_idle" (top 30)
  d29 : DefAt K "is_idle" (top 29)
  d31 : DefAt K "idle_table" (top 31)
  d32 : DefAt K "table_turned" (top 32)
  d33 : DefAt K "table_sum" (top 33)
  d34 : DefAt K "table_scaled" (top 34)
  d35 : DefAt K "_entry_of_product" (top 35)
  d36 : DefAt K "_product" (top 36)
  d37 : DefAt K "table_product" (top 37)
  d38 : DefAt K "row_times" (top 38)
  d39 : DefAt K "table_trace" (top 39)
  d41 : DefAt K "_law_dice" (top 41)
  d42 : DefAt K "_law_roll" (top 42)
  d43 : DefAt K "_law_pick" (top 43)
  d44 : DefAt K "_law_gcd" (top 44)
  d45 : DefAt K "_law_fraction" (top 45)
  d46 : DefAt K "_law_plus" (top 46)
  d47 : DefAt K "_law_times" (top 47)
  d48 : DefAt K "_law_sum" (top 48)
  d49 : DefAt K "_law_tb_number" (top 49)
  d50 : DefAt K "_law_tb_passed" (top 50)
  d51 : DefAt K "_law_tb_drawn" (top 51)
  d52 : DefAt K "_law_tb_told" (top 52)
  d53 : DefAt K "_law_tb_handed" (top 53)
  d54 : DefAt K "_law_tb_dot" (top 54)
  d55 : DefAt K "_law_tb_turned" (top 55)
  d56 : DefAt K "_law_tb_product" (top 56)
  d57 : DefAt K "_law_tb_idle" (top 57)
  d58 : DefAt K "_law_added" (top 58)
  d59 : DefAt K "_law_right" (top 59)
  d60 : DefAt K "_law_judged" (top 60)
  d61 : DefAt K "law" (top 61)
  n_isinstance : PySem.W.nsIn K mainGlobals "isinstance" = some none
  n_int : PySem.W.nsIn K mainGlobals "int" = some none
  n_bool : PySem.W.nsIn K mainGlobals "bool" = some none
  n_str : PySem.W.nsIn K mainGlobals "str" = some none
  n_tuple : PySem.W.nsIn K mainGlobals "tuple" = some none
  n_len : PySem.W.nsIn K mainGlobals "len" = some none
  n_abs : PySem.W.nsIn K mainGlobals "abs" = some none
  n_range : PySem.W.nsIn K mainGlobals "range" = some none
  n_all : PySem.W.nsIn K mainGlobals "all" = some none
  n_min : PySem.W.nsIn K mainGlobals "min" = some none
  n_max : PySem.W.nsIn K mainGlobals "max" = some none
  n_zip : PySem.W.nsIn K mainGlobals "zip" = some none
  n_enumerate : PySem.W.nsIn K mainGlobals "enumerate" = some none
  n_list : PySem.W.nsIn K mainGlobals "list" = some none
  n_sum : PySem.W.nsIn K mainGlobals "sum" = some none
  c_long : ∃ t, PySem.W.nsIn K mainGlobals "_TOO_LONG" = some (some (.int 1000000000000000000000000000000000000000000000000000000000000 t))
  c_side : ∃ t, PySem.W.nsIn K mainGlobals "MAX_SIDE" = some (some (.int 40 t))
  b_gcd : PySem.W.nsIn K mainGlobals "gcd" = some (some (.builtin "math.gcd"))
  b_lcm : PySem.W.nsIn K mainGlobals "lcm" = some (some (.builtin "math.lcm"))
set_option maxHeartbeats 0 in
theorem all_mk {l : PySem.W.OpenLaw} {w : World} {K : PySem.W.Frag} {h : Heap} {mg : Str → Option Value} {fa : Addr} (X : K.In h) (G : h.Ns mainGlobals mg) (hfa : mg "law" = some (.ref fa)) (Z : TopK K) :
    ∃ fd : FuncData, (∀ (s : Shared) (v : Value), BindsTo s fd ⟨[v], []⟩ [("_law_script", v)]) ∧ ∀ base : Heap, K.In base → base.Ns mainGlobals mg → FnOk l.prog w K mg base CX0 9 fa fd ["_law_script"] (spLaw K) := by
  have T : Top mg := ⟨PySem.W.mg_none_of X G Z.n_isinstance, PySem.W.mg_none_of X G Z.n_int, PySem.W.mg_none_of X G Z.n_bool, PySem.W.mg_none_of X G Z.n_str, PySem.W.mg_none_of X G Z.n_tuple, PySem.W.mg_none_of X G Z.n_len, PySem.W.mg_none_of X G Z.n_abs, PySem.W.mg_none_of X G Z.n_range, PySem.W.mg_none_of X G Z.n_all,
    (let ⟨t, h⟩ := Z.c_long; ⟨t, PySem.W.mg_of X G h⟩), PySem.W.mg_of X G Z.b_gcd⟩
  have TM : TopM mg := ⟨PySem.W.mg_none_of X G Z.n_min, PySem.W.mg_none_of X G Z.n_max⟩
  have hsum : mg "sum" = none := PySem.W.mg_none_of X G Z.n_sum
  have T3 : Top3 mg := ⟨(let ⟨t, h⟩ := Z.c_side; ⟨t, PySem.W.mg_of X G h⟩)⟩
  have T8 : Top8 mg := ⟨PySem.W.mg_none_of X G Z.n_max, PySem.W.mg_none_of X G Z.n_zip, PySem.W.mg_none_of X G Z.n_enumerate, PySem.W.mg_none_of X G Z.n_list, PySem.W.mg_of X G Z.b_lcm⟩
  obtain ⟨f8, fd8, F8, m8⟩ := Z.d8.fn X G
  have b8 := F8.binds (ps := ["value"]) fun _ _ _ _ _ _ us hl => match us, hl with | [_], _ => rfl
  obtain ⟨f9, fd9, F9, m9⟩ := Z.d9.fn X G
  have b9 := F9.binds (ps := ["value", "low", "high"]) fun _ _ _ _ _ _ us hl => match us, hl with | [_, _, _], _ => rfl
  obtain ⟨f10, fd10, F10, m10⟩ := Z.d10.fn X G
  have b10 := F10.binds (ps := ["value"]) fun _ _ _ _ _ _ us hl => match us, hl with | [_], _ => rfl
  obtain ⟨f11, fd11, F11, m11⟩ := Z.d11.fn X G
  have b11 := F11.binds (ps := ["value"]) fun _ _ _ _ _ _ us hl => match us, hl with | [_], _ => rfl
  obtain ⟨f12, fd12, F12, m12⟩ := Z.d12.fn X G
  have b12 := F12.binds (ps := ["value"]) fun _ _ _ _ _ _ us hl => match us, hl with | [_], _ => rfl
  obtain ⟨f13, fd13, F13, m13⟩ := Z.d13.fn X G
  have b13 := F13.binds (ps := ["value"]) fun _ _ _ _ _ _ us hl => match us, hl with | [_], _ => rfl
  obtain ⟨f14, fd14, F14, m14⟩ := Z.d14.fn X G
  have b14 := F14.binds (ps := ["number"]) fun _ _ _ _ _ _ us hl => match us, hl with | [_], _ => rfl
  obtain ⟨f15, fd15, F15, m15⟩ := Z.d15.fn X G
  have b15 := F15.binds (ps := ["top", "bottom"]) fun _ _ _ _ _ _ us hl => match us, hl with | [_, _], _ => rfl
  obtain ⟨f16, fd16, F16, m16⟩ := Z.d16.fn X G
  have b16 := F16.binds (ps := ["one", "other"]) fun _ _ _ _ _ _ us hl => match us, hl with | [_, _], _ => rfl
  obtain ⟨f17, fd17, F17, m17⟩ := Z.d17.fn X G
  have b17 := F17.binds (ps := ["one", "other"]) fun _ _ _ _ _ _ us hl => match us, hl with | [_, _], _ => rfl
  obtain ⟨f18, fd18, F18, m18⟩ := Z.d18.fn X G
  have b18 := F18.binds (ps := ["one", "other"]) fun _ _ _ _ _ _ us hl => match us, hl with | [_, _], _ => rfl
  obtain ⟨f20, fd20, F20, m20⟩ := Z.d20.fn X G
  have b20 := F20.binds (ps := ["row"]) fun _ _ _ _ _ _ us hl => match us, hl with | [_], _ => rfl
  obtain ⟨f23, fd23, F23, m23⟩ := Z.d23.fn X G
  have b23 := F23.binds (ps := ["value"]) fun _ _ _ _ _ _ us hl => match us, hl with | [_], _ => rfl
  obtain ⟨f24, fd24, F24, m24⟩ := Z.d24.fn X G
  have b24 := F24.binds (ps := ["value"]) fun _ _ _ _ _ _ us hl => match us, hl with | [_], _ => rfl
  obtain ⟨f25, fd25, F25, m25⟩ := Z.d25.fn X G
  have b25 := F25.binds (ps := ["value"]) fun _ _ _ _ _ _ us hl => match us, hl with | [_], _ => rfl
  obtain ⟨f26, fd26, F26, m26⟩ := Z.d26.fn X G
  have b26 := F26.binds (ps := ["value"]) fun _ _ _ _ _ _ us hl => match us, hl with | [_], _ => rfl
  obtain ⟨f27, fd27, F27, m27⟩ := Z.d27.fn X G
  have b27 := F27.binds (ps := ["table"]) fun _ _ _ _ _ _ us hl => match us, hl with | [_], _ => rfl
  obtain ⟨f28, fd28, F28, m28⟩ := Z.d28.fn X G
  have b28 := F28.binds (ps := ["table"]) fun _ _ _ _ _ _ us hl => match us, hl with | [_], _ => rfl
  obtain ⟨f30, fd30, F30, m30⟩ := Z.d30.fn X G
  have b30 := F30.binds (ps := ["size"]) fun _ _ _ _ _ _ us hl => match us, hl with | [_], _ => rfl
  obtain ⟨f29, fd29, F29, m29⟩ := Z.d29.fn X G
  have b29 := F29.binds (ps := ["value"]) fun _ _ _ _ _ _ us hl => match us, hl with | [_], _ => rfl
  obtain ⟨f31, fd31, F31, m31⟩ := Z.d31.fn X G
  have b31 := F31.binds (ps := ["size"]) fun _ _ _ _ _ _ us hl => match us, hl with | [_], _ => rfl
  obtain ⟨f32, fd32, F32, m32⟩ := Z.d32.fn X G
  have b32 := F32.binds (ps := ["table"]) fun _ _ _ _ _ _ us hl => match us, hl with | [_], _ => rfl
  obtain ⟨f33, fd33, F33, m33⟩ := Z.d33.fn X G
  have b33 := F33.binds (ps := ["one", "other"]) fun _ _ _ _ _ _ us hl => match us, hl with | [_, _], _ => rfl
  obtain ⟨f34, fd34, F34, m34⟩ := Z.d34.fn X G
  have b34 := F34.binds (ps := ["table", "number"]) fun _ _ _ _ _ _ us hl => match us, hl with | [_, _], _ => rfl
  obtain ⟨f35, fd35, F35, m35⟩ := Z.d35.fn X G
  have b35 := F35.binds (ps := ["row", "column"]) fun _ _ _ _ _ _ us hl => match us, hl with | [_, _], _ => rfl
  obtain ⟨f36, fd36, F36, m36⟩ := Z.d36.fn X G
  have b36 := F36.binds (ps := ["one", "other"]) fun _ _ _ _ _ _ us hl => match us, hl with | [_, _], _ => rfl
  obtain ⟨f37, fd37, F37, m37⟩ := Z.d37.fn X G
  have b37 := F37.binds (ps := ["one", "other"]) fun _ _ _ _ _ _ us hl => match us, hl with | [_, _], _ => rfl
  obtain ⟨f38, fd38, F38, m38⟩ := Z.d38.fn X G
  have b38 := F38.binds (ps := ["row", "table"]) fun _ _ _ _ _ _ us hl => match us, hl with | [_, _], _ => rfl
  obtain ⟨f39, fd39, F39, m39⟩ := Z.d39.fn X G
  have b39 := F39.binds (ps := ["table"]) fun _ _ _ _ _ _ us hl => match us, hl with | [_], _ => rfl
  obtain ⟨f41, fd41, F41, m41⟩ := Z.d41.fn X G
  have b41 := F41.binds (ps := ["_law_script", "_law_spot"]) fun _ _ _ _ _ _ us hl => match us, hl with | [_, _], _ => rfl
  obtain ⟨f42, fd42, F42, m42⟩ := Z.d42.fn X G
  have b42 := F42.binds (ps := ["_law_dice_here", "_law_total"]) fun _ _ _ _ _ _ us hl => match us, hl with | [_, _], _ => rfl
  obtain ⟨f43, fd43, F43, m43⟩ := Z.d43.fn X G
  have b43 := F43.binds (ps := ["_law_dice_here", "_law_items"]) fun _ _ _ _ _ _ us hl => match us, hl with | [_, _], _ => rfl
  obtain ⟨f44, fd44, F44, m44⟩ := Z.d44.fn X G
  have b44 := F44.binds (ps := ["_law_one", "_law_other"]) fun _ _ _ _ _ _ us hl => match us, hl with | [_, _], _ => rfl
  obtain ⟨f45, fd45, F45, m45⟩ := Z.d45.fn X G
  have b45 := F45.binds (ps := ["_law_top", "_law_bottom"]) fun _ _ _ _ _ _ us hl => match us, hl with | [_, _], _ => rfl
  obtain ⟨f46, fd46, F46, m46⟩ := Z.d46.fn X G
  have b46 := F46.binds (ps := ["_law_one", "_law_other"]) fun _ _ _ _ _ _ us hl => match us, hl with | [_, _], _ => rfl
  obtain ⟨f47, fd47, F47, m47⟩ := Z.d47.fn X G
  have b47 := F47.binds (ps := ["_law_one", "_law_other"]) fun _ _ _ _ _ _ us hl => match us, hl with | [_, _], _ => rfl
  obtain ⟨f48, fd48, F48, m48⟩ := Z.d48.fn X G
  have b48 := F48.binds (ps := ["_law_fractions"]) fun _ _ _ _ _ _ us hl => match us, hl with | [_], _ => rfl
  obtain ⟨f49, fd49, F49, m49⟩ := Z.d49.fn X G
  have b49 := F49.binds (ps := ["_law_dice_here", "_law_most"]) fun _ _ _ _ _ _ us hl => match us, hl with | [_, _], _ => rfl
  obtain ⟨f50, fd50, F50, m50⟩ := Z.d50.fn X G
  have b50 := F50.binds (ps := ["_law_dice_here", "_law_number"]) fun _ _ _ _ _ _ us hl => match us, hl with | [_, _], _ => rfl
  obtain ⟨f51, fd51, F51, m51⟩ := Z.d51.fn X G
  have b51 := F51.binds (ps := ["_law_dice_here", "_law_rows", "_law_columns"]) fun _ _ _ _ _ _ us hl => match us, hl with | [_, _, _], _ => rfl
  obtain ⟨f52, fd52, F52, m52⟩ := Z.d52.fn X G
  have b52 := F52.binds (ps := ["_law_rows"]) fun _ _ _ _ _ _ us hl => match us, hl with | [_], _ => rfl
  obtain ⟨f53, fd53, F53, m53⟩ := Z.d53.fn X G
  have b53 := F53.binds (ps := ["_law_dice_here", "_law_rows"]) fun _ _ _ _ _ _ us hl => match us, hl with | [_, _], _ => rfl
  obtain ⟨f54, fd54, F54, m54⟩ := Z.d54.fn X G
  have b54 := F54.binds (ps := ["_law_one", "_law_other"]) fun _ _ _ _ _ _ us hl => match us, hl with | [_, _], _ => rfl
  obtain ⟨f55, fd55, F55, m55⟩ := Z.d55.fn X G
  have b55 := F55.binds (ps := ["_law_rows"]) fun _ _ _ _ _ _ us hl => match us, hl with | [_], _ => rfl
  obtain ⟨f56, fd56, F56, m56⟩ := Z.d56.fn X G
  have b56 := F56.binds (ps := ["_law_one", "_law_other"]) fun _ _ _ _ _ _ us hl => match us, hl with | [_, _], _ => rfl
  obtain ⟨f57, fd57, F57, m57⟩ := Z.d57.fn X G
  have b57 := F57.binds (ps := ["_law_size"]) fun _ _ _ _ _ _ us hl => match us, hl with | [_], _ => rfl
  obtain ⟨f58, fd58, F58, m58⟩ := Z.d58.fn X G
  have b58 := F58.binds (ps := ["_law_one", "_law_other"]) fun _ _ _ _ _ _ us hl => match us, hl with | [_, _], _ => rfl
  obtain ⟨f59, fd59, F59, m59⟩ := Z.d59.fn X G
  have b59 := F59.binds (ps := ["_law_dice_here"]) fun _ _ _ _ _ _ us hl => match us, hl with | [_], _ => rfl
  obtain ⟨f60, fd60, F60, m60⟩ := Z.d60.fn X G
  have b60 := F60.binds (ps := ["_law_dice_here"]) fun _ _ _ _ _ _ us hl => match us, hl with | [_], _ => rfl
  obtain ⟨fl, oc, od, an, sl, kV, dc, pm, cd, ct, a, lk, c, k⟩ := Z.d61
  have e := hfa.symm.trans (PySem.W.mg_of X G a)
  cases e
  have FL := fun_mk (st := top 61) lk c k
  refine ⟨PySem.W.fnOf "law" "law" (defArgs (top 61)) (defBody (top 61)) (defScope (top 61)) .none kV dc pm an cd ct, fun s v => .of_eq rfl, fun base _ _ => ?_⟩
  have G8 : Dn l.prog w K mg base 1 "is_whole" rWhole := dn_of F8 (ok_whole F8 T) m8 b8
  have G9 : Dn l.prog w K mg base 2 "is_between" rBtw := dn_of F9 (ok_btw F9 G8) m9 b9
  have G10 : Dn l.prog w K mg base 2 "is_integer" rInteger := dn_of F10 (ok_integer F10 T G8) m10 b10
  have G11 : Dn l.prog w K mg base 2 "is_fraction" rFrac := dn_of F11 (ok_frac F11 T G8) m11 b11
  have G12 : Dn l.prog w K mg base 3 "is_number" rNumber := dn_of F12 (ok_number F12 G10 G11) m12 b12
  have G13 : Dn l.prog w K mg base 4 "need_number" rNeed := dn_of F13 (ok_need F13 G12) m13 b13
  have G14 : Dn l.prog w K mg base 1 "as_pair" rPair := dn_of F14 (ok_pair F14 T) m14 b14
  have G15 : Dn l.prog w K mg base 2 "fraction" rQuot := dn_of F15 (ok_quot F15 T G8) m15 b15
  have G16 : Dn l.prog w K mg base 5 "_parts" rParts := dn_of F16 (ok_parts F16 G13 G14) m16 b16
  have G17 : Dn l.prog w K mg base 6 "added" rAdd := dn_of F17 (ok_add F17 G16 G15) m17 b17
  have G18 : Dn l.prog w K mg base 6 "multiplied" rMulF := dn_of F18 (ok_mulf F18 G16 G15) m18 b18
  have G20 : Dn l.prog w K mg base 2 "whole_row" rWRow := dn_of F20 (ok_wrow F20 T T8 G14) m20 b20
  have G23 : Dn l.prog w K mg base 4 "is_row" rIsR := dn_of F23 (ok_isr F23 T T3 G12) m23 b23
  have G24 : Dn l.prog w K mg base 5 "is_table" rIsT := dn_of F24 (ok_ist F24 T T3 G23) m24 b24
  have G25 : Dn l.prog w K mg base 6 "_need_table" rNT := dn_of F25 (ok_nt F25 G24) m25 b25
  have G26 : Dn l.prog w K mg base 5 "_need_row" rNR := dn_of F26 (ok_nr F26 G23) m26 b26
  have G27 : Dn l.prog w K mg base 1 "_need_square" rNS := dn_of F27 (ok_ns F27 T) m27 b27
  have G28 : Dn l.prog w K mg base 2 "_fractions" rFrs := dn_of F28 (ok_frs F28 T G14) m28 b28
  have G30 : Dn l.prog w K mg base 1 "_idle" rIdle := dn_of F30 (ok_idle F30 T) m30 b30
  have G29 : Dn l.prog w K mg base 6 "is_idle" rIsI := dn_of F29 (ok_isi F29 T G24 G28 G30) m29 b29
  have G31 : Dn l.prog w K mg base 3 "idle_table" rIdT := dn_of F31 (ok_idt F31 T3 G9 G30) m31 b31
  have G32 : Dn l.prog w K mg base 7 "table_turned" rTrn := dn_of F32 (ok_trn F32 T T8 G25 G28) m32 b32
  have G33 : Dn l.prog w K mg base 7 "table_sum" rSumT := dn_of F33 (ok_sum F33 T T8 G25 G17) m33 b33
  have G34 : Dn l.prog w K mg base 7 "table_scaled" rScl := dn_of F34 (ok_scl F34 T G25 G13 G18) m34 b34
  have G35 : Dn l.prog w K mg base 3 "_entry_of_product" rEnt := dn_of F35 (ok_ent F35 T8 hsum G15) m35 b35
  have G36 : Dn l.prog w K mg base 4 "_product" rPro := dn_of F36 (ok_pro F36 T T8 G20 G35) m36 b36
  have G37 : Dn l.prog w K mg base 7 "table_product" rTPr := dn_of F37 (ok_tpr F37 T G25 G36) m37 b37
  have G38 : Dn l.prog w K mg base 7 "row_times" rRTi := dn_of F38 (ok_rti F38 T G26 G25 G36) m38 b38
  have G39 : Dn l.prog w K mg base 7 "table_trace" rTrc := dn_of F39 (ok_trc F39 T8 G25 G27 G17) m39 b39
  have G41 : FnOk l.prog w K mg base CX0 1 f41 fd41 ["_law_script", "_law_spot"] (spDice K) := ok_dice F41 T TM
  have G42 : Dn l.prog w K mg base 1 "_law_roll" rRoll := dn_of F42 (ok_roll F42 T) m42 b42
  have G43 : Dn l.prog w K mg base 2 "_law_pick" rPick := dn_of F43 (ok_pick F43 T G42) m43 b43
  have G44 : Dn l.prog w K mg base 1 "_law_gcd" rGcd' := dn_of F44 (ok_gcd F44 T) m44 b44
  have G45 : Dn l.prog w K mg base 2 "_law_fraction" rQuot := dn_of F45 (ok_lfr F45 G44) m45 b45
  have G46 : Dn l.prog w K mg base 3 "_law_plus" rPlus := dn_of F46 (ok_plus F46 G45) m46 b46
  have G47 : Dn l.prog w K mg base 3 "_law_times" rTimes := dn_of F47 (ok_times F47 G45) m47 b47
  have G48 : Dn l.prog w K mg base 4 "_law_sum" rLS := dn_of F48 (ok_ls F48 G46) m48 b48
  have G49 : Dn l.prog w K mg base 3 "_law_tb_number" rNb := dn_of F49 (ok_nb F49 G42 G45) m49 b49
  have G50 : Dn l.prog w K mg base 2 "_law_tb_passed" rPs := dn_of F50 (ok_ps F50 G42) m50 b50
  have G51 : Dn l.prog w K mg base 4 "_law_tb_drawn" rDr := dn_of F51 (ok_dr F51 T T8 G42 G43 G49 G46 G47) m51 b51
  have G52 : Dn l.prog w K mg base 1 "_law_tb_told" rTold := dn_of F52 (ok_told F52 T) m52 b52
  have G53 : Dn l.prog w K mg base 3 "_law_tb_handed" rHd := dn_of F53 (ok_hd F53 T G50) m53 b53
  have G54 : Dn l.prog w K mg base 5 "_law_tb_dot" rDot := dn_of F54 (ok_dot F54 T8 G47 G48) m54 b54
  have G55 : Dn l.prog w K mg base 1 "_law_tb_turned" rLT := dn_of F55 (ok_lt F55 T) m55 b55
  have G56 : Dn l.prog w K mg base 6 "_law_tb_product" rLP := dn_of F56 (ok_lp F56 G55 G54) m56 b56
  have G57 : Dn l.prog w K mg base 1 "_law_tb_idle" rLI := dn_of F57 (ok_li F57 T) m57 b57
  have G58 : Dn l.prog w K mg base 4 "_law_added" rLA := dn_of F58 (ok_la F58 T8 G46) m58 b58
  have GS : Gs l.prog w K mg base := ⟨G42, G51, G53, G52, G55, G58, G49, G50, G47, G56, G54, G48, G57, G32, G33, G34, G37, G31, G38, G39, G24, G29⟩
  have G59 : Dn l.prog w K mg base 8 "_law_right" rRgt := dn_of F59 (ok_right F59 T GS) m59 b59
  have G60 : Dn l.prog w K mg base 7 "_law_judged" rJdg := dn_of F60 (ok_judged F60 T T8 GS) m60 b60
  exact ok_law FL T TM ⟨GS, G59, G60⟩ G41 m41 F41.kp b41
theorem walk {l : PySem.W.OpenLaw} {q : Program} {loose : List Str} {XP : (Str → Option Value) → Heap → Prop} {YP : World → Heap → Prop} {d : DefRec} {K : Params → PySem.W.Frag} (hn : l.most = some 63) (hdf : d.params.defaults = []) (hd : d.name = "law")
    (hY : ∀ (w : World) (h : Heap), YP w h → (K w.params).In h) (Z : ∀ p, TopK (K p)) : PySem.W.WalkO q loose XP YP l.row.toRowW d [] (fun f vs => PySem.call f vs) :=
  L2.walk_ofK (n := 63) (k := 9) (x := "_law_script") (CX := CX0) (sp := spLaw) hn (by decide) hdf ⟨rfl, by decide, by decide⟩ hY
    (fun w mg fa h X G m => all_mk X G (by rw [← hd]; exact m) (Z w.params)) (fun _ _ a ns hl _ hS => ⟨a, ns, rfl, hS, hl, fun _ => rfl⟩) fun _ _ _ _ z => z
end K3
open PySem PySem.W PyProof.Rows
local macro_rules | `(tactic| walk_at "defat") => `(tactic| (refine' K3.DefAt.mk' ?a ?l ?c ?k; (case a => k_is); (case l => k_is); (case c => k_is); (case k => k_is)))
local macro_rules | `(tactic| walk_at "intat") => `(tactic| (refine' K3.int_at ?a; (case a => k_is)))
set_option maxRecDepth 100000 in
set_option maxHeartbeats 0 in
theorem PySem.Challenge.cw_thirdcounts_k03_whole_products_of_tables_holds : PySem.Challenge.rw_thirdcounts_k03_whole_products_of_tables.Holds := by
  w_on; o_law; k_head; (case hw => w_witness2)
  k_fill
  refine K3.walk (l := PySem.Challenge.rw_thirdcounts_k03_whole_products_of_tables) rfl rfl rfl (fun w h Y => PySem.W.kIn_of Y) ?Z
  case Z =>
    intro p
    constructor
    case d8 => walk_at "defat"
    case d9 => walk_at "defat"
    case d10 => walk_at "defat"
    case d11 => walk_at "defat"
    case d12 => walk_at "defat"
    case d13 => walk_at "defat"
    case d14 => walk_at "defat"
    case d15 => walk_at "defat"
    case d16 => walk_at "defat"
    case d17 => walk_at "defat"
    case d18 => walk_at "defat"
    case d20 => walk_at "defat"
    case d23 => walk_at "defat"
    case d24 => walk_at "defat"
    case d25 => walk_at "defat"
    case d26 => walk_at "defat"
    case d27 => walk_at "defat"
    case d28 => walk_at "defat"
    case d30 => walk_at "defat"
    case d29 => walk_at "defat"
    case d31 => walk_at "defat"
    case d32 => walk_at "defat"
    case d33 => walk_at "defat"
    case d34 => walk_at "defat"
    case d35 => walk_at "defat"
    case d36 => walk_at "defat"
    case d37 => walk_at "defat"
    case d38 => walk_at "defat"
    case d39 => walk_at "defat"
    case d41 => walk_at "defat"
    case d42 => walk_at "defat"
    case d43 => walk_at "defat"
    case d44 => walk_at "defat"
    case d45 => walk_at "defat"
    case d46 => walk_at "defat"
    case d47 => walk_at "defat"
    case d48 => walk_at "defat"
    case d49 => walk_at "defat"
    case d50 => walk_at "defat"
    case d51 => walk_at "defat"
    case d52 => walk_at "defat"
    case d53 => walk_at "defat"
    case d54 => walk_at "defat"
    case d55 => walk_at "defat"
    case d56 => walk_at "defat"
    case d57 => walk_at "defat"
    case d58 => walk_at "defat"
    case d59 => walk_at "defat"
    case d60 => walk_at "defat"
    case d61 => walk_at "defat"
    case n_isinstance => k_is
    case n_int => k_is
    case n_bool => k_is
    case n_str => k_is
    case n_tuple => k_is
    case n_len => k_is
    case n_abs => k_is
    case n_range => k_is
    case n_all => k_is
    case n_min => k_is
    case n_max => k_is
    case n_zip => k_is
    case n_enumerate => k_is
    case n_list => k_is
    case n_sum => k_is
    case c_long => walk_at "intat"
    case c_side => walk_at "intat"
    case b_gcd => k_is
    case b_lcm => k_is

