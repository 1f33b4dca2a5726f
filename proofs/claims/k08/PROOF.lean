import PyProof.Rows.All
import Wide.All
import OpenK.AllK
import Wide.FinOn
import HandS.ForMost
import HandS.IsInst
import HandS.Gcd
import HandS.Wide
import HandS.FStr
import HandS.StrMore
import HandS.Walk
import HandS.Style
import KE.GoesMore
import KE.GoesEnum
import KE.KMathGC
import HandS.TupAny
import HandS.TupMul
import PySem.Challenge.RW_thirdcounts_k08_whole_sums_and_products
set_option Elab.async false
set_option linter.all false
set_option maxRecDepth 100000
/-! A data layer over the hand layer: what expressions, statements and defs do to plain data (PyData), and to one list of three ints that is written in place. -/
namespace DL
open PySem PySem.Spec PyProof.Rows L2

/-! ### 1. states, heaps, data -/
abbrev S := Int × Int × Int
def dv (s : S) : HO := .lst [.int s.1, .int s.2.1, .int s.2.2]
/-- the state's list, and lists that are being filled: what they hold stands still meanwhile -/
structure Z where
  dice : Option Addr
  vol : List (Addr × HO)
/-- not one of these -/
def Fz (z : Z) (a : Addr) : Prop := z.dice ≠ some a ∧ ∀ o, (a, o) ∉ z.vol
structure At (z : Z) (H : Hp) (s : S) : Prop where
  d : ∀ a, z.dice = some a → H a = some (dv s)
  v : ∀ p ∈ z.vol, H p.1 = some p.2
  n : ∀ p ∈ z.vol, z.dice ≠ some p.1
def Ez (z : Z) (H H' : Hp) : Prop := ∀ a o, Fz z a → H a = some o → H' a = some o
theorem Ez.refl {z : Z} (H : Hp) : Ez z H H := fun _ _ _ h => h
theorem Ez.trans {z : Z} {H H1 H2 : Hp} (a : Ez z H H1) (b : Ez z H1 H2) : Ez z H H2 := fun x o n h => b x o n (a x o n h)
theorem Ez.new {z : Z} {H : Hp} {p : Addr} {o : HO} (h : H p = none) : Ez z H (upd H p o) := fun a u _ e => by
  rw [upd_ne (ne_of_none e h)]
  exact e
theorem At.new {z : Z} {H : Hp} {p : Addr} {o : HO} {s : S} (A : At z H s) (h : H p = none) : At z (upd H p o) s := by
  refine ⟨fun a e => ?_, fun q hq => ?_, A.n⟩
  · rw [upd_ne (ne_of_none (A.d a e) h)]
    exact A.d a e
  · rw [upd_ne (ne_of_none (A.v q hq) h)]
    exact A.v q hq
theorem At.fresh {z : Z} {H : Hp} {p : Addr} {s : S} (A : At z H s) (h : H p = none) : Fz z p := by
  refine ⟨fun e => ?_, fun o ho => ?_⟩
  · have := A.d p e
    rw [this] at h
    cases h
  · have : H p = some o := A.v _ ho
    rw [this] at h
    cases h
theorem At.set {z : Z} {a : Addr} {H : Hp} {s s' : S} (A : At z H s') (e : z.dice = some a) : At z (upd H a (dv s)) s := by
  refine ⟨fun b e2 => ?_, fun q hq => ?_, A.n⟩
  · rw [e] at e2
    cases e2
    exact upd_same
  · have := A.n q hq
    rw [upd_ne (fun h => this (by rw [e, h]))]
    exact A.v q hq
theorem Ez.set {z : Z} {a : Addr} {H : Hp} {o : HO} (h : z.dice = some a) : Ez z H (upd H a o) := fun b u n e => by
  rw [upd_ne (fun q => n.1 (by rw [h, q]))]
  exact e

mutual
inductive Da (z : Z) (H : Hp) : V → PyData → Prop
  | non : Da z H .non .none
  | bl (b : Bool) : Da z H (.bl b) (.bool b)
  | int (i : Int) : Da z H (.int i) (.int i)
  | str (x : Str) : Da z H (.str x) (.str x)
  | dct {a : Addr} : Fz z a → H a = some (.dK []) → Da z H (.ref a) (.dict [])
  | lst {a : Addr} {xs : List V} {ds : List PyData} : Fz z a → H a = some (.lst xs) → DaAll z H xs ds → Da z H (.ref a) (.list ds)
  | tup {a : Addr} {xs : List V} {ds : List PyData} : Fz z a → H a = some (.tup xs) → DaAll z H xs ds → Da z H (.ref a) (.tuple ds)
inductive DaAll (z : Z) (H : Hp) : List V → List PyData → Prop
  | nil : DaAll z H [] []
  | cons {v : V} {vs : List V} {d : PyData} {ds : List PyData} : Da z H v d → DaAll z H vs ds → DaAll z H (v :: vs) (d :: ds)
end
mutual
theorem Da.mono {z : Z} {H H' : Hp} (e : Ez z H H') : ∀ {v : V} {d : PyData}, Da z H v d → Da z H' v d
  | _, _, .non => .non
  | _, _, .bl b => .bl b
  | _, _, .int i => .int i
  | _, _, .str x => .str x
  | _, _, .dct n h => .dct n (e _ _ n h)
  | _, _, .lst n h r => .lst n (e _ _ n h) (DaAll.mono e r)
  | _, _, .tup n h r => .tup n (e _ _ n h) (DaAll.mono e r)
theorem DaAll.mono {z : Z} {H H' : Hp} (e : Ez z H H') : ∀ {vs : List V} {ds : List PyData}, DaAll z H vs ds → DaAll z H' vs ds
  | _, _, .nil => .nil
  | _, _, .cons h r => .cons (Da.mono e h) (DaAll.mono e r)
end
mutual
/-- no dict within -/
def nod : PyData → Bool
  | .none => true
  | .bool _ => true
  | .int _ => true
  | .str _ => true
  | .list xs => nodAll xs
  | .tuple xs => nodAll xs
  | .dict _ => false
def nodAll : List PyData → Bool
  | [] => true
  | x :: xs => nod x && nodAll xs
end
mutual
theorem Da.dp {K : PySem.W.Frag} {z : Z} {H : Hp} : ∀ {v : V} {d : PyData}, Da z H v d → nod d = true → Dp K H v d
  | _, _, .non, _ => .non
  | _, _, .bl b, _ => .bl b
  | _, _, .int i, _ => .int i
  | _, _, .str x, _ => .str x
  | _, _, .dct n h, q => by simp [nod] at q
  | _, _, .lst n h r, q => .lst (.inl (.inl h)) (DaAll.dp r (by simpa [nod] using q))
  | _, _, .tup n h r, q => .tup (.inl (.inl h)) (DaAll.dp r (by simpa [nod] using q))
theorem DaAll.dp {K : PySem.W.Frag} {z : Z} {H : Hp} : ∀ {vs : List V} {ds : List PyData}, DaAll z H vs ds → nodAll ds = true → DpAll K H vs ds
  | _, _, .nil, _ => .nil
  | _, _, .cons h r, q => by
    simp only [nodAll, Bool.and_eq_true] at q
    exact .cons (Da.dp h q.1) (DaAll.dp r q.2)
end
theorem DaAll.length {z : Z} {H : Hp} : ∀ {vs : List V} {ds : List PyData}, DaAll z H vs ds → vs.length = ds.length
  | _, _, .nil => rfl
  | _, _, .cons _ r => by rw [List.length_cons, List.length_cons, DaAll.length r]
theorem DaAll.get {z : Z} {H : Hp} : ∀ {vs : List V} {ds : List PyData}, DaAll z H vs ds → ∀ (i : Nat) (d : PyData), ds[i]? = some d → ∃ v, vs[i]? = some v ∧ Da z H v d
  | _, _, .nil, i, d, h => by simp at h
  | _, _, .cons h r, 0, d, e => by
    cases Option.some.inj e
    exact ⟨_, rfl, h⟩
  | _, _, .cons h r, i + 1, d, e => DaAll.get r i d e
theorem DaAll.getV {z : Z} {H : Hp} : ∀ {vs : List V} {ds : List PyData}, DaAll z H vs ds → ∀ (i : Nat) (v : V), vs[i]? = some v → ∃ d, ds[i]? = some d ∧ Da z H v d
  | _, _, .nil, i, d, h => by simp at h
  | _, _, .cons h r, 0, d, e => by
    cases Option.some.inj e
    exact ⟨_, rfl, h⟩
  | _, _, .cons h r, i + 1, d, e => DaAll.getV r i d e
theorem DaAll.app {z : Z} {H : Hp} : ∀ {vs : List V} {ds : List PyData} {us : List V} {es : List PyData}, DaAll z H vs ds → DaAll z H us es → DaAll z H (vs ++ us) (ds ++ es)
  | _, _, _, _, .nil, q => q
  | _, _, _, _, .cons h r, q => .cons h (DaAll.app r q)

/-! ### slots -/
inductive Sl | un | val (d : PyData) | dice | raw (v : V) | own (ds : List PyData)
inductive SlR (z : Z) (H : Hp) : Option V → Sl → Prop
  | un {x : Option V} : SlR z H x .un
  | val {v : V} {d : PyData} : Da z H v d → SlR z H (some v) (.val d)
  | dice {a : Addr} : z.dice = some a → SlR z H (some (.ref a)) .dice
  | raw {v : V} : SlR z H (some v) (.raw v)
  | own {p : Addr} {vs : List V} {ds : List PyData} : (p, HO.lst vs) ∈ z.vol → DaAll z H vs ds → SlR z H (some (.ref p)) (.own ds)
inductive En (z : Z) (H : Hp) : L2.St → List Sl → Prop
  | nil : En z H [] []
  | cons {x : Option V} {σ : L2.St} {e : Sl} {es : List Sl} : SlR z H x e → En z H σ es → En z H (x :: σ) (e :: es)
theorem SlR.mono {z : Z} {H H' : Hp} {x : Option V} {e : Sl} (k : Ez z H H') (h : SlR z H x e) : SlR z H' x e := by
  cases h with
  | un => exact .un
  | val d => exact .val (d.mono k)
  | dice e => exact .dice e
  | raw => exact .raw
  | own m r => exact .own m (r.mono k)
theorem En.mono {z : Z} {H H' : Hp} (k : Ez z H H') : ∀ {σ : L2.St} {es : List Sl}, En z H σ es → En z H' σ es
  | _, _, .nil => .nil
  | _, _, .cons h r => .cons (h.mono k) (En.mono k r)
theorem En.length {z : Z} {H : Hp} : ∀ {σ : L2.St} {es : List Sl}, En z H σ es → σ.length = es.length
  | _, _, .nil => rfl
  | _, _, .cons h r => by rw [List.length_cons, List.length_cons, En.length r]
theorem En.get {z : Z} {H : Hp} : ∀ {σ : L2.St} {es : List Sl}, En z H σ es → ∀ {i : Nat} {d : PyData}, es[i]? = some (.val d) → ∃ v, σ[i]? = some (some v) ∧ Da z H v d
  | _, _, .nil, i, d, h => by simp at h
  | _, _, .cons h r, 0, d, e => by
    cases Option.some.inj e
    cases h with
    | val q => exact ⟨_, rfl, q⟩
  | _, _, .cons h r, i + 1, d, e => En.get r (i := i) e
theorem En.getD {z : Z} {H : Hp} : ∀ {σ : L2.St} {es : List Sl}, En z H σ es → ∀ {i : Nat}, es[i]? = some .dice → ∃ a, σ[i]? = some (some (.ref a)) ∧ z.dice = some a
  | _, _, .nil, i, h => by simp at h
  | _, _, .cons h r, 0, e => by
    cases Option.some.inj e
    cases h with
    | dice q => exact ⟨_, rfl, q⟩
  | _, _, .cons h r, i + 1, e => En.getD r (i := i) e
theorem En.set {z : Z} {H : Hp} : ∀ {σ : L2.St} {es : List Sl}, En z H σ es → ∀ (i : Nat) {x : Option V} {e : Sl}, SlR z H x e → En z H (σ.set i x) (es.set i e)
  | _, _, .nil, i, _, _, _ => .nil
  | _, _, .cons h r, 0, _, _, q => .cons q r
  | _, _, .cons h r, i + 1, _, _, q => .cons h (En.set r i q)
theorem En.app {z : Z} {H : Hp} : ∀ {σ : L2.St} {es : List Sl} {τ : L2.St} {fs : List Sl}, En z H σ es → En z H τ fs → En z H (σ ++ τ) (es ++ fs)
  | _, _, _, _, .nil, q => q
  | _, _, _, _, .cons h r, q => .cons h (En.app r q)
theorem En.uns {z : Z} {H : Hp} : ∀ (n : Nat), En z H (List.replicate n none) (List.replicate n .un)
  | 0 => .nil
  | n + 1 => .cons .un (En.uns n)
/-- less is known -/
inductive Le : List Sl → List Sl → Prop
  | nil : Le [] []
  | same {e : Sl} {es fs : List Sl} : Le es fs → Le (e :: es) (e :: fs)
  | un {e : Sl} {es fs : List Sl} : Le es fs → Le (e :: es) (.un :: fs)
theorem Le.refl : ∀ es : List Sl, Le es es
  | [] => .nil
  | _ :: es => .same (Le.refl es)
theorem En.le {z : Z} {H : Hp} : ∀ {es fs : List Sl}, Le es fs → ∀ {σ : L2.St}, En z H σ es → En z H σ fs
  | _, _, .nil, _, h => h
  | _, _, .same l, _, .cons h r => .cons h (En.le l r)
  | _, _, .un l, _, .cons h r => .cons .un (En.le l r)

/-! ### 2. the weakest readings -/
section
variable {X : Cx}
def wE (X : Cx) (e : Expr) : TE := fun σ H Q => ∃ t, PE X e t ∧ t σ H Q
def wT (X : Cx) (e : Expr) : TT := fun σ H Q => ∃ t, PT X e t ∧ t σ H Q
def wA (X : Cx) (es : List Expr) : TA := fun σ H Q => ∃ t, PA X es t ∧ t σ H Q
def wS (X : Cx) (st : Stmt) : TS := fun D σ H => ∃ t, PS X st t ∧ t D σ H
def wB (X : Cx) (st : List Stmt) : TS := fun D σ H => ∃ t, PSs X st t ∧ t D σ H
theorem wE_ok {e : Expr} : PE X e (wE X e) := ⟨fun pins s σ H Q I ⟨_, h, q⟩ => h.run pins s σ H Q I q⟩
theorem wT_ok {e : Expr} : PT X e (wT X e) := ⟨fun pins s σ H Q I ⟨_, h, q⟩ => h.run pins s σ H Q I q⟩
theorem wA_ok {es : List Expr} : PA X es (wA X es) := ⟨fun pos pins s σ H Q I ⟨_, h, q⟩ => h.run pos pins s σ H Q I q⟩
theorem wS_ok {st : Stmt} : PS X st (wS X st) := ⟨fun pins s σ H D I ⟨_, h, q⟩ => h.run pins s σ H D I q⟩
theorem wB_ok {st : List Stmt} : PSs X st (wB X st) := ⟨fun pins s σ H D I ⟨_, h, q⟩ => h.run pins s σ H D I q⟩
theorem wB_never {st : List Stmt} : PSs X st tNever := ⟨fun _ _ _ _ _ _ h => h.elim⟩
/-- e gives the data d, and the state goes from s to s' -/
def EV (X : Cx) (z : Z) (e : Expr) (es : List Sl) (s : S) (d : PyData) (s' : S) : Prop := ∀ σ H, En z H σ es → At z H s → ∀ Q : VK, (∀ v H2, Ez z H H2 → At z H2 s' → Da z H2 v d → Q v H2) → wE X e σ H Q
def ET (X : Cx) (z : Z) (e : Expr) (es : List Sl) (s : S) (b : Bool) (s' : S) : Prop := ∀ σ H, En z H σ es → At z H s → ∀ Q : Bool → Hp → Prop, (∀ H2, Ez z H H2 → At z H2 s' → Q b H2) → wT X e σ H Q
def EA (X : Cx) (z : Z) (xs : List Expr) (es : List Sl) (s : S) (as : List Sl) (s' : S) : Prop := ∀ σ H, En z H σ es → At z H s → ∀ Q : List V → Hp → Prop, (∀ vs H2, Ez z H H2 → At z H2 s' → En z H2 (vs.map some) as → Q vs H2) → wA X xs σ H Q

variable {z : Z} {es : List Sl} {s s1 s2 s' : S} {a b c e : Expr} {pos p : Pos} {d d1 d2 : PyData}
/-- from a reading -/
theorem EV.mk {te : TE} (h : PE X e te) (k : ∀ σ H, En z H σ es → At z H s → ∀ Q : VK, (∀ v H2, Ez z H H2 → At z H2 s' → Da z H2 v d → Q v H2) → te σ H Q) : EV X z e es s d s' := fun σ H en at_ Q q => ⟨te, h, k σ H en at_ Q q⟩
theorem EV.is (h : EV X z e es s d s') (q : d = d1) : EV X z e es s d1 s' := q ▸ h
theorem EV.st (h : EV X z e es s d s') (q : s' = s1) : EV X z e es s d s1 := q ▸ h
theorem ET.is {b b' : Bool} (h : ET X z e es s b s') (q : b = b') : ET X z e es s b' s' := q ▸ h
theorem ev_int {i : Int} {j} : EV X z (.Constant (.int i) j pos) es s (.int i) s := .mk pe_int fun _ H _ at_ _ q => q _ H (.refl H) at_ (.int i)
theorem ev_bl {i : Bool} {j} : EV X z (.Constant (.bool i) j pos) es s (.bool i) s := .mk pe_bl fun _ H _ at_ _ q => q _ H (.refl H) at_ (.bl i)
theorem ev_str {i : Str} {j} : EV X z (.Constant (.str i) j pos) es s (.str i) s := .mk pe_str fun _ H _ at_ _ q => q _ H (.refl H) at_ (.str i)
theorem ev_non {j} : EV X z (.Constant .none j pos) es s .none s := .mk pe_non fun _ H _ at_ _ q => q _ H (.refl H) at_ .non
theorem ev_var (i : Nat) {x : Str} (h : es[i]? = some (.val d) := by rfl) (hN : X.N[i]? = some x := by rfl) (hv : Vis X.env.scope x := by first | exact Or.inl rfl | exact Or.inr (Or.inl rfl) | exact Or.inr (Or.inr rfl))
    (hd : (x == ("__debug__" : Str)) = false := by decide) (hcd : (x == ("__classdict__" : Str)) = false := by decide) : EV X z (.Name x pos) es s d s :=
  .mk (pe_var hN hv hd hcd) fun σ H en at_ Q q => by
    obtain ⟨v, e1, e2⟩ := en.get h
    exact ⟨v, e1, q v H (.refl H) at_ e2⟩
theorem ev_glob {x : Str} {i : Int} {u : Value} (hg : Gl X x) (hm : X.mg x = some u) (r : ∃ t, u = .int i t) (hd : (x == ("__debug__" : Str)) = false := by decide) : EV X z (.Name x pos) es s (.int i) s :=
  .mk (pe_glob (v := .int i) hg hm r hd) fun _ H _ at_ _ q => q _ H (.refl H) at_ (.int i)

/-! ### operators -/
/-- what an operation on values does to data -/
def RD (z : Z) (s : S) (r : R2) (d1 d2 d : PyData) : Prop := ∀ x y H, At z H s → Da z H x d1 → Da z H y d2 → ∀ Q : VK, (∀ v H2, Ez z H H2 → At z H2 s → Da z H2 v d → Q v H2) → r x y H Q
theorem ev_opR {r : R2} {f : Value → Value → Sem Value} {op : Operator} (ho : OpR X (binaryOp op) r) (hr : RD z s2 r d1 d2 d) (ha : EV X z a es s d1 s1) (hb : EV X z b es s1 d2 s2) : EV X z (.BinOp a op b pos) es s d s2 :=
  .mk (pe_op ho wE_ok wE_ok) fun σ H en at_ Q q => ha σ H en at_ _ fun x H1 e1 a1 x1 => hb σ H1 (en.mono e1) a1 _ fun y H2 e2 a2 y2 => hr x y H2 a2 (x1.mono e2) y2 Q fun v H3 e3 a3 v3 => q v H3 ((e1.trans e2).trans e3) a3 v3
theorem ev_cmpR {r : R2} {op : CmpOp} (ho : OpR X (compareOp op) r) (hr : RD z s2 r d1 d2 d) (ha : EV X z a es s d1 s1) (hb : EV X z b es s1 d2 s2) (hm : behindInMarks op b = false) : EV X z (.Compare a [op] [b] pos) es s d s2 :=
  .mk (pe_cmpR ho wE_ok wE_ok hm) fun σ H en at_ Q q => ha σ H en at_ _ fun x H1 e1 a1 x1 => hb σ H1 (en.mono e1) a1 _ fun y H2 e2 a2 y2 => hr x y H2 a2 (x1.mono e2) y2 Q fun v H3 e3 a3 v3 => q v H3 ((e1.trans e2).trans e3) a3 v3
theorem et_cmpR {r : R2} {op : CmpOp} {k : Bool} (ho : OpR X (compareOp op) r) (hr : RD z s2 r d1 d2 (.bool k)) (ha : EV X z a es s d1 s1) (hb : EV X z b es s1 d2 s2) (hm : behindInMarks op b = false) : ET X z (.Compare a [op] [b] pos) es s k s2 :=
  fun σ H en at_ Q q => ⟨_, pt_cmpR ho wE_ok wE_ok hm, ha σ H en at_ _ fun x H1 e1 a1 x1 => hb σ H1 (en.mono e1) a1 _ fun y H2 e2 a2 y2 => hr x y H2 a2 (x1.mono e2) y2 _ fun v H3 e3 a3 v3 => by
    cases v3
    exact ⟨k, rfl, q H3 ((e1.trans e2).trans e3) a3⟩⟩
theorem rd_I0 {g : Int → Int → V} {i j : Int} {d : PyData} (h : ∀ H, Da z H (g i j) d) : RD z s (rI0 g) (.int i) (.int j) d := fun x y H at_ hx hy Q q => by
  cases hx
  cases hy
  exact ⟨i, j, rfl, rfl, q _ H (.refl H) at_ (h H)⟩
theorem rd_I {C : Int → Int → Prop} {g : Int → Int → V} {i j : Int} {d : PyData} (hc : C i j) (h : ∀ H, Da z H (g i j) d) : RD z s (rI C g) (.int i) (.int j) d := fun x y H at_ hx hy Q q => by
  cases hx
  cases hy
  exact ⟨i, j, rfl, rfl, hc, q _ H (.refl H) at_ (h H)⟩
theorem ev_add {i j : Int} (ha : EV X z a es s (.int i) s1) (hb : EV X z b es s1 (.int j) s2) : EV X z (.BinOp a .Add b pos) es s (.int (i + j)) s2 := ev_opR (f := binaryOp .Add) op_add (rd_I0 fun _ => .int _) ha hb
theorem ev_sub {i j : Int} (ha : EV X z a es s (.int i) s1) (hb : EV X z b es s1 (.int j) s2) : EV X z (.BinOp a .Sub b pos) es s (.int (i - j)) s2 := ev_opR (f := binaryOp .Sub) op_sub (rd_I0 fun _ => .int _) ha hb
theorem ev_mul {i j : Int} (hc : CMulW i j) (ha : EV X z a es s (.int i) s1) (hb : EV X z b es s1 (.int j) s2) : EV X z (.BinOp a .Mult b pos) es s (.int (i * j)) s2 := ev_opR (f := binaryOp .Mult) op_mulW (rd_I hc fun _ => .int _) ha hb
theorem ev_mod {i j : Int} (hc : j ≠ 0) (ha : EV X z a es s (.int i) s1) (hb : EV X z b es s1 (.int j) s2) : EV X z (.BinOp a .Mod b pos) es s (.int (i.fmod j)) s2 := ev_opR (f := binaryOp .Mod) op_modN (rd_I hc fun _ => .int _) ha hb
theorem ev_pow {i j : Int} (hc : CPow i j) (ha : EV X z a es s (.int i) s1) (hb : EV X z b es s1 (.int j) s2) : EV X z (.BinOp a .Pow b pos) es s (.int (i ^ j.toNat)) s2 := ev_opR (f := binaryOp .Pow) op_pow (rd_I hc fun _ => .int _) ha hb
/-- // by any divisor but 0 below 2 ^ 9000 -/
def CDivZ (_ j : Int) : Prop := j ≠ 0 ∧ j.natAbs.log2 < 9000
theorem op_fdivZ : OpR X (binaryOp .FloorDiv) (rI CDivZ fun i j => .int (i.fdiv j)) := opI fun _ _ _ _ _ _ _ hc q => floordiv_int hc.1 q (.inl (PyProof.noPylong_of_log2 hc.2))
theorem ev_div {i j : Int} (hc : CDivZ i j) (ha : EV X z a es s (.int i) s1) (hb : EV X z b es s1 (.int j) s2) : EV X z (.BinOp a .FloorDiv b pos) es s (.int (i.fdiv j)) s2 := ev_opR (f := binaryOp .FloorDiv) op_fdivZ (rd_I hc fun _ => .int _) ha hb
theorem ev_neg {i : Int} (ha : EV X z a es s (.int i) s1) : EV X z (.UnaryOp .USub a pos) es s (.int (-i)) s1 :=
  .mk (pe_un un_neg wE_ok) fun σ H en at_ Q q => ha σ H en at_ _ fun x H1 e1 a1 x1 => by
    cases x1
    exact ⟨i, rfl, q _ H1 e1 a1 (.int _)⟩
theorem ev_addS {x y : Str} (hl : x.length + y.length ≤ sizeLine) (ha : EV X z a es s (.str x) s1) (hb : EV X z b es s1 (.str y) s2) : EV X z (.BinOp a .Add b pos) es s (.str (x ++ y)) s2 :=
  ev_opR (f := binaryOp .Add) op_add_str (fun u v H at_ hu hv Q q => by
    cases hu
    cases hv
    exact ⟨x, y, rfl, rfl, hl, q _ H (.refl H) at_ (.str _)⟩) ha hb
theorem ev_catT {ds fs : List PyData} (h0 : ds ≠ []) (h1 : fs ≠ []) (hl : ds.length + fs.length ≤ 100000) (ha : EV X z a es s (.tuple ds) s1) (hb : EV X z b es s1 (.tuple fs) s2) : EV X z (.BinOp a .Add b pos) es s (.tuple (ds ++ fs)) s2 :=
  ev_opR (f := binaryOp .Add) op_catT (fun u v H at_ hu hv Q q => by
    cases hu with
    | tup n1 e1 r1 =>
      cases hv with
      | tup n2 e2 r2 =>
        refine ⟨_, _, _, _, rfl, rfl, .inl (.inl e1), .inl (.inl e2), fun w => ?_, ?_, fun w => ?_, fun w p hp => ?_⟩
        · subst w
          cases r1
          exact h0 rfl
        · rw [r1.length, r2.length]
          exact Nat.le_trans hl (by decide)
        · subst w
          cases r2
          exact absurd rfl h1
        · exact q _ _ (.new hp) (at_.new hp) (.tup (at_.fresh hp) upd_same ((r1.app r2).mono (.new hp)))) ha hb
theorem ev_cat {ds fs : List PyData} (hl : ds.length + fs.length ≤ 100000) (ha : EV X z a es s (.list ds) s1) (hb : EV X z b es s1 (.list fs) s2) : EV X z (.BinOp a .Add b pos) es s (.list (ds ++ fs)) s2 :=
  ev_opR (f := binaryOp .Add) op_cat (fun u v H at_ hu hv Q q => by
    cases hu with
    | lst n1 e1 r1 =>
      cases hv with
      | lst n2 e2 r2 =>
        refine ⟨_, _, _, _, rfl, rfl, e1, e2, ?_, fun p hp => ?_⟩
        · rw [r1.length, r2.length]
          exact Nat.le_trans hl (by decide)
        · exact q _ _ (.new hp) (at_.new hp) (.lst (at_.fresh hp) upd_same ((r1.app r2).mono (.new hp)))) ha hb

/-! ### comparisons -/
theorem ev_lt {i j : Int} (ha : EV X z a es s (.int i) s1) (hb : EV X z b es s1 (.int j) s2) : EV X z (.Compare a [.Lt] [b] pos) es s (.bool (decide (i < j))) s2 := ev_cmpR op_lt (rd_I0 fun _ => .bl _) ha hb (nomark _)
theorem ev_le {i j : Int} (ha : EV X z a es s (.int i) s1) (hb : EV X z b es s1 (.int j) s2) : EV X z (.Compare a [.LtE] [b] pos) es s (.bool (decide (i ≤ j))) s2 := ev_cmpR op_le (rd_I0 fun _ => .bl _) ha hb (nomark _)
theorem ev_gt {i j : Int} (ha : EV X z a es s (.int i) s1) (hb : EV X z b es s1 (.int j) s2) : EV X z (.Compare a [.Gt] [b] pos) es s (.bool (decide (j < i))) s2 := ev_cmpR op_gt (rd_I0 fun _ => .bl _) ha hb (nomark _)
theorem ev_ge {i j : Int} (ha : EV X z a es s (.int i) s1) (hb : EV X z b es s1 (.int j) s2) : EV X z (.Compare a [.GtE] [b] pos) es s (.bool (decide (j ≤ i))) s2 := ev_cmpR op_ge (rd_I0 fun _ => .bl _) ha hb (nomark _)
theorem et_lt {i j : Int} (ha : EV X z a es s (.int i) s1) (hb : EV X z b es s1 (.int j) s2) : ET X z (.Compare a [.Lt] [b] pos) es s (decide (i < j)) s2 := et_cmpR op_lt (rd_I0 fun _ => .bl _) ha hb (nomark _)
theorem et_le {i j : Int} (ha : EV X z a es s (.int i) s1) (hb : EV X z b es s1 (.int j) s2) : ET X z (.Compare a [.LtE] [b] pos) es s (decide (i ≤ j)) s2 := et_cmpR op_le (rd_I0 fun _ => .bl _) ha hb (nomark _)
theorem et_gt {i j : Int} (ha : EV X z a es s (.int i) s1) (hb : EV X z b es s1 (.int j) s2) : ET X z (.Compare a [.Gt] [b] pos) es s (decide (j < i)) s2 := et_cmpR op_gt (rd_I0 fun _ => .bl _) ha hb (nomark _)
theorem et_ge {i j : Int} (ha : EV X z a es s (.int i) s1) (hb : EV X z b es s1 (.int j) s2) : ET X z (.Compare a [.GtE] [b] pos) es s (decide (j ≤ i)) s2 := et_cmpR op_ge (rd_I0 fun _ => .bl _) ha hb (nomark _)
theorem rd_eqD {K : PySem.W.Frag} (n1 : nod d1 = true) (n2 : nod d2 = true) (h1 : SeqAt.shaped d1 = true) (h2 : SeqAt.shaped d2 = true) : RD z s (rEqD K) d1 d2 (.bool (PyData.eqv d1 d2)) := fun x y H at_ hx hy Q q =>
  ⟨d1, d2, hx.dp n1, hy.dp n2, h1, h2, q _ H (.refl H) at_ (.bl _)⟩
theorem rd_neD {K : PySem.W.Frag} (n1 : nod d1 = true) (n2 : nod d2 = true) (h1 : SeqAt.shaped d1 = true) (h2 : SeqAt.shaped d2 = true) : RD z s (rNeD K) d1 d2 (.bool (!PyData.eqv d1 d2)) := fun x y H at_ hx hy Q q =>
  ⟨d1, d2, hx.dp n1, hy.dp n2, h1, h2, q _ H (.refl H) at_ (.bl _)⟩
/-- plain data: no dict, of small depth -/
def Pl (d : PyData) : Prop := nod d = true ∧ SeqAt.shaped d = true
theorem ev_eq (hu : X.A.units + 64 < cLine) (p1 : Pl d1) (p2 : Pl d2) (ha : EV X z a es s d1 s1) (hb : EV X z b es s1 d2 s2) : EV X z (.Compare a [.Eq] [b] pos) es s (.bool (PyData.eqv d1 d2)) s2 := ev_cmpR (op_eqD hu) (rd_eqD p1.1 p2.1 p1.2 p2.2) ha hb (nomark _)
theorem ev_ne (hu : X.A.units + 64 < cLine) (p1 : Pl d1) (p2 : Pl d2) (ha : EV X z a es s d1 s1) (hb : EV X z b es s1 d2 s2) : EV X z (.Compare a [.NotEq] [b] pos) es s (.bool (!PyData.eqv d1 d2)) s2 := ev_cmpR (op_neD hu) (rd_neD p1.1 p2.1 p1.2 p2.2) ha hb (nomark _)
theorem et_eq (hu : X.A.units + 64 < cLine) (p1 : Pl d1) (p2 : Pl d2) (ha : EV X z a es s d1 s1) (hb : EV X z b es s1 d2 s2) : ET X z (.Compare a [.Eq] [b] pos) es s (PyData.eqv d1 d2) s2 := et_cmpR (op_eqD hu) (rd_eqD p1.1 p2.1 p1.2 p2.2) ha hb (nomark _)
theorem et_ne (hu : X.A.units + 64 < cLine) (p1 : Pl d1) (p2 : Pl d2) (ha : EV X z a es s d1 s1) (hb : EV X z b es s1 d2 s2) : ET X z (.Compare a [.NotEq] [b] pos) es s (!PyData.eqv d1 d2) s2 := et_cmpR (op_neD hu) (rd_neD p1.1 p2.1 p1.2 p2.2) ha hb (nomark _)
end

/-! ### 3. argument lists, displays, calls -/
def ED (X : Cx) (z : Z) (xs : List Expr) (es : List Sl) (s : S) (ds : List PyData) (s' : S) : Prop := ∀ σ H, En z H σ es → At z H s → ∀ Q : List V → Hp → Prop, (∀ vs H2, Ez z H H2 → At z H2 s' → DaAll z H2 vs ds → Q vs H2) → wA X xs σ H Q
section
variable {X : Cx} {z : Z} {es : List Sl} {s s1 s2 s' : S} {a b c e : Expr} {xs : List Expr} {pos p : Pos} {d d1 d2 : PyData} {ds fs : List PyData} {as : List Sl}
theorem ed_nil : ED X z [] es s [] s := fun σ H en at_ Q q => ⟨tNil, pa_nil, q [] H (.refl H) at_ .nil⟩
theorem ed_cons (ha : EV X z a es s d s1) (hr : ED X z xs es s1 ds s2) (hs : starEach (a :: xs) X.env = (false, eval a X.env) :: starEach xs X.env := by rfl) : ED X z (a :: xs) es s (d :: ds) s2 := fun σ H en at_ Q q =>
  ⟨_, pa_cons wE_ok wA_ok hs, ha σ H en at_ _ fun v H1 e1 a1 v1 => hr σ H1 (en.mono e1) a1 _ fun vs H2 e2 a2 v2 => q (v :: vs) H2 (e1.trans e2) a2 (.cons (v1.mono e2) v2)⟩
theorem ea_nil : EA X z [] es s [] s := fun σ H en at_ Q q => ⟨tNil, pa_nil, q [] H (.refl H) at_ .nil⟩
theorem ea_cons (ha : EV X z a es s d s1) (hr : EA X z xs es s1 as s2) (hs : starEach (a :: xs) X.env = (false, eval a X.env) :: starEach xs X.env := by rfl) : EA X z (a :: xs) es s (.val d :: as) s2 := fun σ H en at_ Q q =>
  ⟨_, pa_cons wE_ok wA_ok hs, ha σ H en at_ _ fun v H1 e1 a1 v1 => hr σ H1 (en.mono e1) a1 _ fun vs H2 e2 a2 v2 => q (v :: vs) H2 (e1.trans e2) a2 (.cons (.val (v1.mono e2)) v2)⟩
/-- the state's list handed on -/
theorem ea_dice (i : Nat) {x : Str} (hr : EA X z xs es s as s2) (h : es[i]? = some .dice := by rfl) (hN : X.N[i]? = some x := by rfl) (hv : Vis X.env.scope x := by first | exact Or.inl rfl | exact Or.inr (Or.inl rfl) | exact Or.inr (Or.inr rfl))
    (hs : starEach ((.Name x pos) :: xs) X.env = (false, eval (.Name x pos) X.env) :: starEach xs X.env := by rfl) (hd : (x == ("__debug__" : Str)) = false := by decide) (hcd : (x == ("__classdict__" : Str)) = false := by decide) : EA X z (.Name x pos :: xs) es s (.dice :: as) s2 := fun σ H en at_ Q q => by
  obtain ⟨a, e1, e2⟩ := en.getD h
  exact ⟨_, pa_cons (pe_var hN hv hd hcd) wA_ok hs, .ref a, e1, hr σ H en at_ _ fun vs H2 k2 a2 v2 => q (.ref a :: vs) H2 k2 a2 (.cons (.dice e2) v2)⟩
theorem ev_tup {k : Nat} (h : ED X z xs es s ds s') (hl : ds.length ≤ 100000 := by exact Nat.le_of_ble_eq_true rfl) : EV X z (.Tuple xs k pos) es s (.tuple ds) s' := .mk (pe_tup wA_ok) fun σ H en at_ Q q =>
  h σ H en at_ _ fun vs H1 e1 a1 v1 => ⟨by rw [v1.length]; exact Nat.le_trans hl (by decide), fun p hp => q _ _ (e1.trans (.new hp)) (a1.new hp) (.tup (a1.fresh hp) upd_same (v1.mono (.new hp)))⟩
theorem ev_lst (h : ED X z xs es s ds s') (hl : ds.length ≤ 100000 := by exact Nat.le_of_ble_eq_true rfl) : EV X z (.List xs pos) es s (.list ds) s' := .mk (pe_lst wA_ok) fun σ H en at_ Q q =>
  h σ H en at_ _ fun vs H1 e1 a1 v1 => ⟨by rw [v1.length]; exact Nat.le_trans hl (by decide), fun p hp => q _ _ (e1.trans (.new hp)) (a1.new hp) (.lst (a1.fresh hp) upd_same (v1.mono (.new hp)))⟩
theorem ev_emptyDict : EV X z (.Dict [] [] pos) es s (.dict []) s := .mk pe_dnewK fun σ H en at_ Q q => fun p hp => q _ _ (.new hp) (at_.new hp) (.dct (at_.fresh hp) upd_same)
/-- a def of the text by what it does to data: from the arguments and the state ahead to the result and the state behind -/
abbrev Rel := List Sl → S → PyData → S → Prop
def spD (R : Rel) : Sp := fun vs H Q _ => ∃ z as s d s', R as s d s' ∧ En z H (vs.map some) as ∧ At z H s ∧ ∀ v H', Ez z H H' → At z H' s' → Da z H' v d → Q v H'
/-- the name x stands for such a def -/
def Dn (P : Program) (w : World) (K : PySem.W.Frag) (mg : Str → Option Value) (base : Heap) (k : Nat) (x : Str) (R : Rel) : Prop :=
  ∃ f fd ps, FnOk P w K mg base CX0 k f fd ps (spD R) ∧ mg x = some (.ref f) ∧ PySem.W.keepIn K (.ref f) = true ∧ Binds K fd ps []
theorem ev_call {k : Nat} {x : Str} {R : Rel} (G : Dn X.prog X.w X.K X.mg X.base k x R) (hr : Room k X.A) (ha : EA X z (e :: xs) es s as s1) (hR : R as s1 d s') (hg : Gl X x := by rfl) (hdb : (x == ("__debug__" : Str)) = false := by decide)
    (he : starEach (e :: xs) X.env = (false, eval e X.env) :: starEach xs X.env := by rfl) (hpl : (backTo pos (starEach xs X.env)).any (·.1) = false := by rfl) : EV X z (.Call (.Name x p) (e :: xs) [] pos) es s d s' := by
  obtain ⟨f, fd, ps, F, hm, hk, hb⟩ := G
  refine .mk (pe_call F hr hg hm hk hb .nil pass0 wA_ok hdb he hpl) fun σ H en at_ Q q => ?_
  refine ha σ H en at_ _ fun vs H1 e1 a1 v1 => ?_
  rw [List.append_nil]
  exact ⟨z, as, s1, d, s', hR, v1, a1, fun v H' e2 a2 v2 => q v H' (e1.trans e2) a2 v2⟩
/-- what a built-in's call does to data -/
def RB (z : Z) (s : S) (r : List V → Hp → VK → Prop) (ds : List PyData) (d : PyData) : Prop := ∀ vs H, At z H s → DaAll z H vs ds → ∀ Q : VK, (∀ v H2, Ez z H H2 → At z H2 s → Da z H2 v d → Q v H2) → r vs H Q
theorem ev_bltn {id : String} {x : Str} {r : List V → Hp → VK → Prop} (hc : CallR X (.builtin id) r) (hr : RB z s1 r ds d) (hm : X.mg x = none) (ha : ED X z (e :: xs) es s ds s1) (hv : bootBuiltins x = some (.builtin id) := by decide +kernel) (hg : Gl X x := by rfl)
    (hn : x ≠ "__name__" := by decide) (hdb : (x == ("__debug__" : Str)) = false := by decide) (he : starEach (e :: xs) X.env = (false, eval e X.env) :: starEach xs X.env := by rfl) (hpl : (backTo pos (starEach xs X.env)).any (·.1) = false := by rfl) : EV X z (.Call (.Name x p) (e :: xs) [] pos) es s d s1 :=
  .mk (pe_callB hc hg hm hv wA_ok hn hdb he hpl) fun σ H en at_ Q q => ha σ H en at_ _ fun vs H1 e1 a1 v1 => hr vs H1 a1 v1 Q fun v H2 e2 a2 v2 => q v H2 (e1.trans e2) a2 v2
theorem ev_bty {T : String} {x : Str} {r : List V → Hp → VK → Prop} (hc : CallR X (.type T) r) (hr : RB z s1 r ds d) (hm : X.mg x = none) (ha : ED X z (e :: xs) es s ds s1) (hv : bootBuiltins x = some (.type T) := by decide +kernel) (hg : Gl X x := by rfl)
    (hn : x ≠ "__name__" := by decide) (hdb : (x == ("__debug__" : Str)) = false := by decide) (he : starEach (e :: xs) X.env = (false, eval e X.env) :: starEach xs X.env := by rfl) (hpl : (backTo pos (starEach xs X.env)).any (·.1) = false := by rfl) : EV X z (.Call (.Name x p) (e :: xs) [] pos) es s d s1 :=
  .mk (pe_callTy hc hg hm hv wA_ok hn hdb he hpl) fun σ H en at_ Q q => ha σ H en at_ _ fun vs H1 e1 a1 v1 => hr vs H1 a1 v1 Q fun v H2 e2 a2 v2 => q v H2 (e1.trans e2) a2 v2
/-- a module's name for a built-in function (math.gcd ..) -/
theorem ev_bfun {id : String} {x : Str} {r : List V → Hp → VK → Prop} (hc : CallR X (.builtin id) r) (hr : RB z s1 r ds d) (hm : X.mg x = some (.builtin id)) (ha : ED X z (e :: xs) es s ds s1) (hg : Gl X x := by rfl)
    (hdb : (x == ("__debug__" : Str)) = false := by decide) (he : starEach (e :: xs) X.env = (false, eval e X.env) :: starEach xs X.env := by rfl) (hpl : (backTo pos (starEach xs X.env)).any (·.1) = false := by rfl) : EV X z (.Call (.Name x p) (e :: xs) [] pos) es s d s1 :=
  .mk (pe_callBfun hc hg hm wA_ok hdb he hpl) fun σ H en at_ Q q => ha σ H en at_ _ fun vs H1 e1 a1 v1 => hr vs H1 a1 v1 Q fun v H2 e2 a2 v2 => q v H2 (e1.trans e2) a2 v2
theorem rb_len : RB z s (fun xs H Q => ∃ x n, xs = [x] ∧ LenV X.K x H n ∧ Q (.int n) H) [.list ds] (.int ds.length) := fun vs H at_ h Q q => by
  cases h with
  | cons h r =>
    cases r
    cases h with
    | lst n e r =>
      refine ⟨_, ds.length, rfl, .inl ⟨_, .inl (.inl e), r.length.symm⟩, q _ H (.refl H) at_ (.int _)⟩
theorem rb_lenT : RB z s (fun xs H Q => ∃ x n, xs = [x] ∧ LenV X.K x H n ∧ Q (.int n) H) [.tuple ds] (.int ds.length) := fun vs H at_ h Q q => by
  cases h with
  | cons h r =>
    cases r
    cases h with
    | tup n e r =>
      refine ⟨_, ds.length, rfl, .inr ⟨_, .inl (.inl e), r.length.symm⟩, q _ H (.refl H) at_ (.int _)⟩
theorem rb_lenS {x : Str} (hl : x.length ≤ sizeLine) : RB z s (fun xs H Q => ∃ x n, xs = [x] ∧ LenV X.K x H n ∧ Q (.int n) H) [.str x] (.int x.length) := fun vs H at_ h Q q => by
  cases h with
  | cons h r =>
    cases r
    cases h
    exact ⟨_, x.length, rfl, ⟨hl, rfl⟩, q _ H (.refl H) at_ (.int _)⟩
theorem rb_int {i : Int} : RB z s (fun xs H Q => (∃ i, xs = [.int i] ∧ Q (.int i) H) ∨ ∃ k, xs = [.bl k] ∧ Q (.int (if k then 1 else 0)) H) [.int i] (.int i) := fun vs H at_ h Q q => by
  cases h with
  | cons h r =>
    cases r
    cases h
    exact .inl ⟨_, rfl, q _ H (.refl H) at_ (.int _)⟩
theorem rb_intB {k : Bool} : RB z s (fun xs H Q => (∃ i, xs = [.int i] ∧ Q (.int i) H) ∨ ∃ k, xs = [.bl k] ∧ Q (.int (if k then 1 else 0)) H) [.bool k] (.int (if k then 1 else 0)) := fun vs H at_ h Q q => by
  cases h with
  | cons h r =>
    cases r
    cases h
    exact .inr ⟨_, rfl, q _ H (.refl H) at_ (.int _)⟩
theorem rb_abs {i : Int} : RB z s (fun xs H Q => ∃ i, xs = [.int i] ∧ Q (.int (if i < 0 then -i else i)) H) [.int i] (.int i.natAbs) := fun vs H at_ h Q q => by
  cases h with
  | cons h r =>
    cases r
    cases h
    refine ⟨_, rfl, ?_⟩
    have e : (if i < 0 then -i else i) = (i.natAbs : Int) := by
      by_cases h : i < 0
      · rw [if_pos h]; omega
      · rw [if_neg h]; omega
    rw [e]
    exact q _ H (.refl H) at_ (.int _)
theorem rb_gcd {i j : Int} : RB z s rGcd [.int i, .int j] (.int (Nat.gcd i.natAbs j.natAbs : Nat)) := fun vs H at_ h Q q => by
  cases h with
  | cons h r =>
    cases h
    cases r with
    | cons h r =>
      cases h
      cases r
      exact ⟨i, j, rfl, q _ H (.refl H) at_ (.int _)⟩
/-- the class of a datum -/
def tyD : PyData → String
  | .none => "NoneType"
  | .bool _ => "bool"
  | .int _ => "int"
  | .str _ => "str"
  | .list _ => "list"
  | .tuple _ => "tuple"
  | .dict _ => "dict"
theorem Da.ty {K : PySem.W.Frag} {H : Hp} {v : V} {d : PyData} (h : Da z H v d) : TyX K H v (.type (tyD d)) := by
  cases h with
  | non => exact .base .non
  | bl b => exact .base (.bl b)
  | int i => exact .base (.int i)
  | str x => exact .base (.str x)
  | dct n e => exact .base (.dK e)
  | lst n e r => exact .base (.lst e)
  | tup n e r => exact .base (.tup e)
theorem pe_ty {x : Str} {T : String} (hm : X.mg x = none) (hv : bootBuiltins x = some (.type T) := by decide +kernel) (hg : Gl X x := by rfl) (hn : x ≠ "__name__" := by decide) (hd : (x == ("__debug__" : Str)) = false := by decide) : PE X (.Name x pos) (tC (.ty T)) :=
  ⟨fun pins s σ H Q I h => ld_blt I hg hm hv ⟨.ty T, H, I, rfl, h⟩ hn hd⟩
theorem ev_isi {x y : Str} {T : String} {k : Bool} (hm : X.mg x = none) (hm2 : X.mg y = none) (he : EV X z e es s d s1) (hk : kitB (tyD d) T = some k) (hx : x = "isinstance" := by rfl) (hv : bootBuiltins x = some (.builtin "isinstance") := by decide +kernel) (hg : Gl X x := by rfl) (hvy : bootBuiltins y = some (.type T) := by decide +kernel) (hgy : Gl X y := by rfl)
    (hn : x ≠ "__name__" := by decide) (hdb : (x == ("__debug__" : Str)) = false := by decide) (hny : y ≠ "__name__" := by decide) (hdy : (y == ("__debug__" : Str)) = false := by decide) (hs : starEach [e, .Name y p] X.env = (false, eval e X.env) :: starEach [.Name y p] X.env := by rfl) (hs2 : starEach [.Name y p] X.env = (false, eval (.Name y p) X.env) :: starEach [] X.env := by rfl) (hpl : (backTo pos (starEach [.Name y p] X.env)).any (·.1) = false := by rfl) {p0 : Pos} :
    EV X z (.Call (.Name x p0) [e, .Name y p] [] pos) es s (.bool k) s1 :=
  .mk (pe_callB call_isi hg hm hv (pa_cons wE_ok (pa_cons (pe_ty hm2 hvy hgy hny hdy) pa_nil hs2) hs) hn hdb hs hpl) fun σ H en at_ Q q => he σ H en at_ _ fun v H1 e1 a1 v1 =>
    ⟨v, .ty T, .type (tyD d), .type T, k, rfl, .ty T, v1.ty, kit_ty hk, q _ H1 e1 a1 (.bl k)⟩
theorem atI_rel {H : Hp} {vs : List V} {i : Int} (h : DaAll z H vs ds) (e : atI ds i = some d) : ∃ v, atI vs i = some v ∧ Da z H v d := by
  unfold atI at e ⊢
  rw [h.length]
  cases hj : ixN ds.length i with
  | none =>
    rw [hj] at e
    cases e
  | some j =>
    rw [hj] at e
    exact h.get j d e
theorem ev_ixL {i : Int} (ha : EV X z a es s (.list ds) s1) (hb : EV X z b es s1 (.int i) s2) (h : atI ds i = some d) (hs : PlainIx b := by intro _ _; rfl) : EV X z (.Subscript a b pos) es s d s2 :=
  .mk (pe_ix ix_list wE_ok wE_ok hs) fun σ H en at_ Q q => ha σ H en at_ _ fun v H1 e1 a1 v1 => hb σ H1 (en.mono e1) a1 _ fun u H2 e2 a2 v2 => by
    cases v2
    cases v1 with
    | lst n e r =>
      obtain ⟨v, k1, k2⟩ := atI_rel (r.mono e2) h
      exact ⟨_, _, i, v, rfl, rfl, .inl (.inl (e2 _ _ n e)), k1, q _ H2 (e1.trans e2) a2 k2⟩
theorem ev_ixT {i : Int} (ha : EV X z a es s (.tuple ds) s1) (hb : EV X z b es s1 (.int i) s2) (h : atI ds i = some d) (hs : PlainIx b := by intro _ _; rfl) : EV X z (.Subscript a b pos) es s d s2 :=
  .mk (pe_ix ix_tup wE_ok wE_ok hs) fun σ H en at_ Q q => ha σ H en at_ _ fun v H1 e1 a1 v1 => hb σ H1 (en.mono e1) a1 _ fun u H2 e2 a2 v2 => by
    cases v2
    cases v1 with
    | tup n e r =>
      obtain ⟨v, k1, k2⟩ := atI_rel (r.mono e2) h
      exact ⟨_, _, i, v, rfl, rfl, .inl (.inl (e2 _ _ n e)), k1, q _ H2 (e1.trans e2) a2 k2⟩

/-! ### conditions -/
theorem ev_ifT (hc : ET X z c es s true s1) (ha : EV X z a es s1 d s2) : EV X z (.IfExp c a b pos) es s d s2 := .mk (pe_ifExp wT_ok wE_ok wE_ok) fun σ H en at_ Q q =>
  hc σ H en at_ _ fun H1 e1 a1 => iteT (ha σ H1 (en.mono e1) a1 _ fun v H2 e2 a2 v2 => q v H2 (e1.trans e2) a2 v2)
theorem ev_ifF (hc : ET X z c es s false s1) (hb : EV X z b es s1 d s2) : EV X z (.IfExp c a b pos) es s d s2 := .mk (pe_ifExp wT_ok wE_ok wE_ok) fun σ H en at_ Q q =>
  hc σ H en at_ _ fun H1 e1 a1 => iteF (hb σ H1 (en.mono e1) a1 _ fun v H2 e2 a2 v2 => q v H2 (e1.trans e2) a2 v2)
theorem ev_andT (ha : EV X z a es s (.bool true) s1) (hb : EV X z (.BoolOp .And (b :: xs) pos) es s1 d s2) : EV X z (.BoolOp .And (a :: b :: xs) pos) es s d s2 := .mk (pe_and wE_ok wE_ok) fun σ H en at_ Q q =>
  ha σ H en at_ _ fun v H1 e1 a1 v1 => by
    cases v1
    exact ⟨true, rfl, iteT (hb σ H1 (en.mono e1) a1 _ fun v H2 e2 a2 v2 => q v H2 (e1.trans e2) a2 v2)⟩
theorem ev_andF (ha : EV X z a es s (.bool false) s1) : EV X z (.BoolOp .And (a :: b :: xs) pos) es s (.bool false) s1 := .mk (pe_and wE_ok wE_ok) fun σ H en at_ Q q =>
  ha σ H en at_ _ fun v H1 e1 a1 v1 => by
    cases v1
    exact ⟨false, rfl, iteF (q _ H1 e1 a1 (.bl false))⟩
theorem ev_orT (ha : EV X z a es s (.bool true) s1) : EV X z (.BoolOp .Or (a :: b :: xs) pos) es s (.bool true) s1 := .mk (pe_or wE_ok wE_ok) fun σ H en at_ Q q =>
  ha σ H en at_ _ fun v H1 e1 a1 v1 => by
    cases v1
    exact ⟨true, rfl, iteT (q _ H1 e1 a1 (.bl true))⟩
theorem ev_orF (ha : EV X z a es s (.bool false) s1) (hb : EV X z (.BoolOp .Or (b :: xs) pos) es s1 d s2) : EV X z (.BoolOp .Or (a :: b :: xs) pos) es s d s2 := .mk (pe_or wE_ok wE_ok) fun σ H en at_ Q q =>
  ha σ H en at_ _ fun v H1 e1 a1 v1 => by
    cases v1
    exact ⟨false, rfl, iteF (hb σ H1 (en.mono e1) a1 _ fun v H2 e2 a2 v2 => q v H2 (e1.trans e2) a2 v2)⟩
theorem ev_b1 {op : PySem.BoolOp} (ha : EV X z a es s d s1) : EV X z (.BoolOp op [a] pos) es s d s1 := .mk (pe_one wE_ok) fun σ H en at_ Q q => ha σ H en at_ Q q
theorem ev_and {k1 k2 : Bool} (ha : EV X z a es s (.bool k1) s) (hb : k1 = true → EV X z (.BoolOp .And (b :: xs) pos) es s (.bool k2) s) : EV X z (.BoolOp .And (a :: b :: xs) pos) es s (.bool (k1 && k2)) s := by
  cases k1 with
  | true => exact ev_andT ha (hb rfl)
  | false => exact ev_andF ha
theorem ev_or {k1 k2 : Bool} (ha : EV X z a es s (.bool k1) s) (hb : k1 = false → EV X z (.BoolOp .Or (b :: xs) pos) es s (.bool k2) s) : EV X z (.BoolOp .Or (a :: b :: xs) pos) es s (.bool (k1 || k2)) s := by
  cases k1 with
  | true => exact ev_orT ha
  | false => exact ev_orF ha (hb rfl)
theorem ev_not {k : Bool} (ha : EV X z a es s (.bool k) s1) : EV X z (.UnaryOp .Not a pos) es s (.bool (!k)) s1 := .mk (pe_not wE_ok) fun σ H en at_ Q q =>
  ha σ H en at_ _ fun v H1 e1 a1 v1 => by
    cases v1
    exact ⟨k, rfl, q _ H1 e1 a1 (.bl _)⟩
theorem et_val {k : Bool} (h : EV X z e es s (.bool k) s1) (he : ∀ whole, isTrue e X.env whole = (do let v ← whole; standAt e.pos; holding [v] (truthy v)) := by intro _; rfl) : ET X z e es s k s1 := fun σ H en at_ Q q =>
  ⟨_, pt_val wE_ok he, h σ H en at_ _ fun v H1 e1 a1 v1 => by
    cases v1
    exact ⟨k, rfl, q H1 e1 a1⟩⟩
theorem et_not {k : Bool} (h : ET X z a es s k s1) : ET X z (.UnaryOp .Not a pos) es s (!k) s1 := fun σ H en at_ Q q => ⟨_, pt_not wT_ok, h σ H en at_ _ fun H1 e1 a1 => q H1 e1 a1⟩
def wW (X : Cx) (e : Expr) : TT := fun σ H Q => ∃ t, PW X e t ∧ t σ H Q
theorem wW_ok : PW X e (wW X e) := ⟨fun whole pins s σ H Q I ⟨_, h, q⟩ => h.run whole pins s σ H Q I q⟩
def EW (X : Cx) (z : Z) (e : Expr) (es : List Sl) (s : S) (b : Bool) (s' : S) : Prop := ∀ σ H, En z H σ es → At z H s → ∀ Q : Bool → Hp → Prop, (∀ H2, Ez z H H2 → At z H2 s' → Q b H2) → wW X e σ H Q
theorem et_w {k : Bool} (h : EW X z e es s k s1) : ET X z e es s k s1 := fun σ H en at_ Q q => ⟨_, PW.pt wW_ok, h σ H en at_ Q q⟩
theorem ew_andT {k : Bool} (ha : ET X z a es s true s1) (hb : EW X z (.BoolOp .And (b :: xs) pos) es s1 k s2) : EW X z (.BoolOp .And (a :: b :: xs) pos) es s k s2 := fun σ H en at_ Q q => ⟨_, pw_and wT_ok wW_ok,
  ha σ H en at_ _ fun H1 e1 a1 => iteT (hb σ H1 (en.mono e1) a1 _ fun H2 e2 a2 => q H2 (e1.trans e2) a2)⟩
theorem ew_andF (ha : ET X z a es s false s1) : EW X z (.BoolOp .And (a :: b :: xs) pos) es s false s1 := fun σ H en at_ Q q => ⟨_, pw_and wT_ok wW_ok, ha σ H en at_ _ fun H1 e1 a1 => iteF (q H1 e1 a1)⟩
theorem ew_orF {k : Bool} (ha : ET X z a es s false s1) (hb : EW X z (.BoolOp .Or (b :: xs) pos) es s1 k s2) : EW X z (.BoolOp .Or (a :: b :: xs) pos) es s k s2 := fun σ H en at_ Q q => ⟨_, pw_or wT_ok wW_ok,
  ha σ H en at_ _ fun H1 e1 a1 => iteF (hb σ H1 (en.mono e1) a1 _ fun H2 e2 a2 => q H2 (e1.trans e2) a2)⟩
theorem ew_orT (ha : ET X z a es s true s1) : EW X z (.BoolOp .Or (a :: b :: xs) pos) es s true s1 := fun σ H en at_ Q q => ⟨_, pw_or wT_ok wW_ok, ha σ H en at_ _ fun H1 e1 a1 => iteT (q H1 e1 a1)⟩
theorem ew_and1 {k : Bool} (ha : ET X z a es s k s1) : EW X z (.BoolOp .And [a] pos) es s k s1 := fun σ H en at_ Q q => ⟨_, pw_and1 wT_ok, ha σ H en at_ Q q⟩
theorem ew_or1 {k : Bool} (ha : ET X z a es s k s1) : EW X z (.BoolOp .Or [a] pos) es s k s1 := fun σ H en at_ Q q => ⟨_, pw_or1 wT_ok, ha σ H en at_ Q q⟩
theorem ew_and {k1 k2 : Bool} (ha : ET X z a es s k1 s) (hb : k1 = true → EW X z (.BoolOp .And (b :: xs) pos) es s k2 s) : EW X z (.BoolOp .And (a :: b :: xs) pos) es s (k1 && k2) s := by
  cases k1 with
  | true => exact ew_andT ha (hb rfl)
  | false => exact ew_andF ha
theorem ew_or {k1 k2 : Bool} (ha : ET X z a es s k1 s) (hb : k1 = false → EW X z (.BoolOp .Or (b :: xs) pos) es s k2 s) : EW X z (.BoolOp .Or (a :: b :: xs) pos) es s (k1 || k2) s := by
  cases k1 with
  | true => exact ew_orT ha
  | false => exact ew_orF ha (hb rfl)
theorem et_chain {i j l : Int} {s3 : S} (ha : EV X z a es s (.int i) s1) (hb : EV X z b es s1 (.int j) s2) (hc : EV X z c es s2 (.int l) s2) (hm : lastMarks [.LtE, .LtE] [b, c] = false := by with_unfolding_all rfl) : EV X z (.Compare a [.LtE, .LtE] [b, c] pos) es s (.bool (decide (i ≤ j) && decide (j ≤ l))) s2 :=
  .mk (pe_chain op_le op_le wE_ok wE_ok wE_ok hm) fun σ H en at_ Q q => ha σ H en at_ _ fun x H1 e1 a1 x1 => hb σ H1 (en.mono e1) a1 _ fun y H2 e2 a2 y2 => by
    cases x1
    cases y2
    refine ⟨i, j, rfl, rfl, decide (i ≤ j), rfl, ?_⟩
    cases hk : decide (i ≤ j) with
    | true =>
      refine iteT (hc σ H2 (en.mono (e1.trans e2)) a2 _ fun w H3 e3 a3 w3 => ?_)
      cases w3
      exact ⟨j, l, rfl, rfl, by rw [hk] at q; exact q _ H3 ((e1.trans e2).trans e3) a3 (.bl _)⟩
    | false => exact iteF (by rw [hk] at q; exact q _ H2 (e1.trans e2) a2 (.bl _))
theorem et_chainLt {i j l : Int} (ha : EV X z a es s (.int i) s1) (hb : EV X z b es s1 (.int j) s2) (hc : EV X z c es s2 (.int l) s2) (hm : lastMarks [.Lt, .Lt] [b, c] = false := by with_unfolding_all rfl) : EV X z (.Compare a [.Lt, .Lt] [b, c] pos) es s (.bool (decide (i < j) && decide (j < l))) s2 :=
  .mk (pe_chain op_lt op_lt wE_ok wE_ok wE_ok hm) fun σ H en at_ Q q => ha σ H en at_ _ fun x H1 e1 a1 x1 => hb σ H1 (en.mono e1) a1 _ fun y H2 e2 a2 y2 => by
    cases x1
    cases y2
    refine ⟨i, j, rfl, rfl, decide (i < j), rfl, ?_⟩
    cases hk : decide (i < j) with
    | true =>
      refine iteT (hc σ H2 (en.mono (e1.trans e2)) a2 _ fun w H3 e3 a3 w3 => ?_)
      cases w3
      exact ⟨j, l, rfl, rfl, by rw [hk] at q; exact q _ H3 ((e1.trans e2).trans e3) a3 (.bl _)⟩
    | false => exact iteF (by rw [hk] at q; exact q _ H2 (e1.trans e2) a2 (.bl _))
end

/-! ### 4. statements -/
inductive Out | nx (es : List Sl) (s : S) | rt (d : PyData) (s : S)
def Meets (z : Z) (H : Hp) (D : Ends) : Out → Prop
  | .nx es s => ∀ σ' H', Ez z H H' → At z H' s → En z H' σ' es → D.nx σ' H'
  | .rt d s => ∀ v H', Ez z H H' → At z H' s → Da z H' v d → D.rt v H'
theorem Meets.mono {z : Z} {H H1 : Hp} {D : Ends} (e : Ez z H H1) : ∀ {o : Out}, Meets z H D o → Meets z H1 D o
  | .nx es s, h => fun σ' H' k a n => h σ' H' (e.trans k) a n
  | .rt d s, h => fun v H' k a n => h v H' (e.trans k) a n
/-- a block: from what the slots hold and the state ahead to how it ends -/
def SR (X : Cx) (z : Z) (st : List Stmt) (es : List Sl) (s : S) (o : Out) : Prop := ∀ σ H, En z H σ es → At z H s → ∀ D : Ends, Meets z H D o → wB X st D σ H
section
variable {X : Cx} {z : Z} {es es1 es2 fs : List Sl} {s s1 s2 s' : S} {a b c e : Expr} {xs : List Expr} {pos p p1 p2 p3 p4 : Pos} {d d1 d2 : PyData} {ds : List PyData} {as : List Sl} {o : Out} {st : Stmt} {rest body els : List Stmt}
theorem sr_nil : SR X z [] es s (.nx es s) := fun σ H en at_ D q => ⟨_, pss_nil, q σ H (.refl H) at_ en⟩
theorem sr_le (h : SR X z body es s (.nx es1 s1)) (l : Le es1 es2) : SR X z body es s (.nx es2 s1) := fun σ H en at_ D q => h σ H en at_ D fun σ' H' k a n => q σ' H' k a (n.le l)
theorem sr_pre (l : Le es fs) (h : SR X z body fs s o) : SR X z body es s o := fun σ H en at_ D q => h σ H (en.le l) at_ D q
theorem sr_is {o' : Out} (h : SR X z body es s o) (q : o = o') : SR X z body es s o' := q ▸ h
theorem sr_ret (h : EV X z e es s d s1) : SR X z (.Return (some e) pos :: rest) es s (.rt d s1) := fun σ H en at_ D q =>
  ⟨_, pss_cons (ps_ret wE_ok) wB_never, h σ H en at_ _ fun v H1 e1 a1 v1 => q v H1 e1 a1 v1⟩
theorem sr_retN : SR X z (.Return none pos :: rest) es s (.rt .none s) := fun σ H en at_ D q =>
  ⟨_, pss_cons ps_retN wB_never, q _ H (.refl H) at_ .non⟩
theorem sr_asg (i : Nat) {x : Str} (hN : X.N.Nodup) (h : EV X z e es s d s1) (k : SR X z rest (es.set i (.val d)) s1 o) (hi : X.N[i]? = some x := by rfl) (hx : Loc X.env.scope x := by first | exact Or.inl rfl | exact Or.inr rfl)
    (hs : swapsWith e (some (.Name x p)) pos.line X.env = pure false := by rfl) (hf : X.fn x = true ∨ X.env.scope.names.lookup x = some .local := by first | exact .inl rfl | exact .inr rfl) : SR X z (.Assign [.Name x p] e pos :: rest) es s o := fun σ H en at_ D q =>
  ⟨_, pss_cons (ps_set hN hi hx wE_ok hs hf) wB_ok, h σ H en at_ _ fun v H1 e1 a1 v1 => k _ H1 ((en.mono e1).set i (.val v1)) a1 D (q.mono e1)⟩
theorem sr_expr (h : EV X z e es s d s1) (k : SR X z rest es s1 o) (hs : swapsWith e none pos.line X.env = pure false := by rfl) : SR X z (.Expr e pos :: rest) es s o := fun σ H en at_ D q =>
  ⟨_, pss_cons (ps_expr wE_ok hs) wB_ok, h σ H en at_ _ fun v H1 e1 a1 v1 => k _ H1 (en.mono e1) a1 D (q.mono e1)⟩
/-- x, y = e1, e2 -/
theorem sr_par (i j : Nat) {x y : Str} {kt k2 : Nat} (hc : X.calm = true) (hN : X.N.Nodup) (h : ED X z [a, b] es s [d1, d2] s1) (k : SR X z rest ((es.set i (.val d1)).set j (.val d2)) s1 o)
    (hi : X.N[i]? = some x := by rfl) (hj : X.N[j]? = some y := by rfl) (hij : i ≠ j := by decide) (hx : X.env.scope.names.lookup x = some .local := by rfl) (hy : X.env.scope.names.lookup y = some .local := by rfl)
    (hw : swappedStores [.Tuple [.Name x p1, .Name y p2] kt p3] (.Tuple [a, b] k2 p4) X.env = pure (some [x, y]) := by rfl) (hs : swapsWithSole [.Tuple [.Name x p1, .Name y p2] kt p3] (.Tuple [a, b] k2 p4) pos.line X.env = pure false := by rfl) :
    SR X z (.Assign [.Tuple [.Name x p1, .Name y p2] kt p3] (.Tuple [a, b] k2 p4) pos :: rest) es s o := fun σ H en at_ D q =>
  ⟨_, pss_cons (ps_par hc hN hi hj hij hx hy wA_ok hw hs) wB_ok, h σ H en at_ _ fun vs H1 e1 a1 v1 => by
    cases v1 with
    | cons h1 r =>
      cases r with
      | cons h2 r =>
        cases r
        exact ⟨_, _, rfl, k _ H1 (((en.mono e1).set i (.val h1)).set j (.val h2)) a1 D (q.mono e1)⟩⟩
/-- x, y = e, e a tuple -/
theorem sr_unp2 (i j : Nat) {x y : Str} {kt : Nat} (hc : X.calm = true) (hN : X.N.Nodup) (h : EV X z e es s (.tuple [d1, d2]) s1) (k : SR X z rest ((es.set i (.val d1)).set j (.val d2)) s1 o)
    (hi : X.N[i]? = some x := by rfl) (hj : X.N[j]? = some y := by rfl) (hx : Loc X.env.scope x := by first | exact Or.inl rfl | exact Or.inr rfl) (hy : Loc X.env.scope y := by first | exact Or.inl rfl | exact Or.inr rfl)
    (fx : X.fn x = true ∨ X.env.scope.names.lookup x = some .local := by first | exact .inl rfl | exact .inr rfl) (fy : X.fn y = true ∨ X.env.scope.names.lookup y = some .local := by first | exact .inl rfl | exact .inr rfl)
    (hs : swapsWithSole [.Tuple [.Name x p1, .Name y p2] kt p3] e pos.line X.env = pure false := by rfl) (hw : swappedStores [.Tuple [.Name x p1, .Name y p2] kt p3] e X.env = pure none := by rfl) 
    (hn : (assignEach [.Name x p1, .Name y p2] X.env).length = 2 := by rfl) (hst : (assignEach [.Name x p1, .Name y p2] X.env).findIdx? (·.1) = none := by rfl)
    (h1 : (assignEach (.Name x p1 :: [.Name y p2]) X.env).map (·.2) = assign (.Name x p1) X.env :: (assignEach [.Name y p2] X.env).map (·.2) := by rfl) (h2 : (assignEach (.Name y p2 :: []) X.env).map (·.2) = assign (.Name y p2) X.env :: (assignEach [] X.env).map (·.2) := by rfl) :
    SR X z (.Assign [.Tuple [.Name x p1, .Name y p2] kt p3] e pos :: rest) es s o := fun σ H en at_ D q =>
  ⟨_, pss_cons (ps_asg wE_ok (pg_tup hc (pgs_cons (pg_name hN hi hx fx) (pgs_cons (pg_name hN hj hy fy) pgs_nil h2) h1) hn hst) hs hw) wB_ok, h σ H en at_ _ fun v H1 e1 a1 v1 => by
    cases v1 with
    | tup n e r =>
      cases r with
      | cons v1 r =>
        cases r with
        | cons v2 r =>
          cases r
          exact ⟨_, _, rfl, .inl (.inl e), rfl, _, _, rfl, _, _, rfl, rfl, k _ H1 (((en.mono e1).set i (.val v1)).set j (.val v2)) a1 D (q.mono e1)⟩⟩
theorem sr_unp3 (i j l : Nat) {x y w : Str} {kt : Nat} {d3 : PyData} {p5 : Pos} (hc : X.calm = true) (hN : X.N.Nodup) (h : EV X z e es s (.tuple [d1, d2, d3]) s1) (k : SR X z rest (((es.set i (.val d1)).set j (.val d2)).set l (.val d3)) s1 o)
    (hi : X.N[i]? = some x := by rfl) (hj : X.N[j]? = some y := by rfl) (hl : X.N[l]? = some w := by rfl) (hx : Loc X.env.scope x := by first | exact Or.inl rfl | exact Or.inr rfl) (hy : Loc X.env.scope y := by first | exact Or.inl rfl | exact Or.inr rfl) (hw' : Loc X.env.scope w := by first | exact Or.inl rfl | exact Or.inr rfl)
    (fx : X.fn x = true ∨ X.env.scope.names.lookup x = some .local := by first | exact .inl rfl | exact .inr rfl) (fy : X.fn y = true ∨ X.env.scope.names.lookup y = some .local := by first | exact .inl rfl | exact .inr rfl) (fw : X.fn w = true ∨ X.env.scope.names.lookup w = some .local := by first | exact .inl rfl | exact .inr rfl)
    (hs : swapsWithSole [.Tuple [.Name x p1, .Name y p2, .Name w p5] kt p3] e pos.line X.env = pure false := by rfl) (hw : swappedStores [.Tuple [.Name x p1, .Name y p2, .Name w p5] kt p3] e X.env = pure none := by rfl) 
    (hn : (assignEach [.Name x p1, .Name y p2, .Name w p5] X.env).length = 3 := by rfl) (hst : (assignEach [.Name x p1, .Name y p2, .Name w p5] X.env).findIdx? (·.1) = none := by rfl)
    (h1 : (assignEach (.Name x p1 :: [.Name y p2, .Name w p5]) X.env).map (·.2) = assign (.Name x p1) X.env :: (assignEach [.Name y p2, .Name w p5] X.env).map (·.2) := by rfl) (h2 : (assignEach (.Name y p2 :: [.Name w p5]) X.env).map (·.2) = assign (.Name y p2) X.env :: (assignEach [.Name w p5] X.env).map (·.2) := by rfl)
    (h3 : (assignEach (.Name w p5 :: []) X.env).map (·.2) = assign (.Name w p5) X.env :: (assignEach [] X.env).map (·.2) := by rfl) :
    SR X z (.Assign [.Tuple [.Name x p1, .Name y p2, .Name w p5] kt p3] e pos :: rest) es s o := fun σ H en at_ D q =>
  ⟨_, pss_cons (ps_asg wE_ok (pg_tup hc (pgs_cons (pg_name hN hi hx fx) (pgs_cons (pg_name hN hj hy fy) (pgs_cons (pg_name hN hl hw' fw) pgs_nil h3) h2) h1) hn hst) hs hw) wB_ok, h σ H en at_ _ fun v H1 e1 a1 v1 => by
    cases v1 with
    | tup n e r =>
      cases r with
      | cons v1 r =>
        cases r with
        | cons v2 r =>
          cases r with
          | cons v3 r =>
            cases r
            exact ⟨_, _, rfl, .inl (.inl e), rfl, _, _, rfl, _, _, rfl, _, _, rfl, rfl, k _ H1 ((((en.mono e1).set i (.val v1)).set j (.val v2)).set l (.val v3)) a1 D (q.mono e1)⟩⟩
theorem sr_unp4 (i j l m : Nat) {x y w u : Str} {kt : Nat} {d3 d4 : PyData} {p5 p6 : Pos} (hc : X.calm = true) (hN : X.N.Nodup) (h : EV X z e es s (.tuple [d1, d2, d3, d4]) s1) (k : SR X z rest ((((es.set i (.val d1)).set j (.val d2)).set l (.val d3)).set m (.val d4)) s1 o)
    (hi : X.N[i]? = some x := by rfl) (hj : X.N[j]? = some y := by rfl) (hl : X.N[l]? = some w := by rfl) (hm : X.N[m]? = some u := by rfl) (hx : Loc X.env.scope x := by first | exact Or.inl rfl | exact Or.inr rfl) (hy : Loc X.env.scope y := by first | exact Or.inl rfl | exact Or.inr rfl) (hw' : Loc X.env.scope w := by first | exact Or.inl rfl | exact Or.inr rfl) (hu : Loc X.env.scope u := by first | exact Or.inl rfl | exact Or.inr rfl)
    (fx : X.fn x = true ∨ X.env.scope.names.lookup x = some .local := by first | exact .inl rfl | exact .inr rfl) (fy : X.fn y = true ∨ X.env.scope.names.lookup y = some .local := by first | exact .inl rfl | exact .inr rfl) (fw : X.fn w = true ∨ X.env.scope.names.lookup w = some .local := by first | exact .inl rfl | exact .inr rfl) (fu : X.fn u = true ∨ X.env.scope.names.lookup u = some .local := by first | exact .inl rfl | exact .inr rfl)
    (hs : swapsWithSole [.Tuple [.Name x p1, .Name y p2, .Name w p5, .Name u p6] kt p3] e pos.line X.env = pure false := by rfl) (hw : swappedStores [.Tuple [.Name x p1, .Name y p2, .Name w p5, .Name u p6] kt p3] e X.env = pure none := by rfl) 
    (hn : (assignEach [.Name x p1, .Name y p2, .Name w p5, .Name u p6] X.env).length = 4 := by rfl) (hst : (assignEach [.Name x p1, .Name y p2, .Name w p5, .Name u p6] X.env).findIdx? (·.1) = none := by rfl)
    (h1 : (assignEach (.Name x p1 :: [.Name y p2, .Name w p5, .Name u p6]) X.env).map (·.2) = assign (.Name x p1) X.env :: (assignEach [.Name y p2, .Name w p5, .Name u p6] X.env).map (·.2) := by rfl) (h2 : (assignEach (.Name y p2 :: [.Name w p5, .Name u p6]) X.env).map (·.2) = assign (.Name y p2) X.env :: (assignEach [.Name w p5, .Name u p6] X.env).map (·.2) := by rfl)
    (h3 : (assignEach (.Name w p5 :: [.Name u p6]) X.env).map (·.2) = assign (.Name w p5) X.env :: (assignEach [.Name u p6] X.env).map (·.2) := by rfl) (h4 : (assignEach (.Name u p6 :: []) X.env).map (·.2) = assign (.Name u p6) X.env :: (assignEach [] X.env).map (·.2) := by rfl) :
    SR X z (.Assign [.Tuple [.Name x p1, .Name y p2, .Name w p5, .Name u p6] kt p3] e pos :: rest) es s o := fun σ H en at_ D q =>
  ⟨_, pss_cons (ps_asg wE_ok (pg_tup hc (pgs_cons (pg_name hN hi hx fx) (pgs_cons (pg_name hN hj hy fy) (pgs_cons (pg_name hN hl hw' fw) (pgs_cons (pg_name hN hm hu fu) pgs_nil h4) h3) h2) h1) hn hst) hs hw) wB_ok, h σ H en at_ _ fun v H1 e1 a1 v1 => by
    cases v1 with
    | tup n e r =>
      cases r with
      | cons v1 r =>
        cases r with
        | cons v2 r =>
          cases r with
          | cons v3 r =>
            cases r with
            | cons v4 r =>
              cases r
              exact ⟨_, _, rfl, .inl (.inl e), rfl, _, _, rfl, _, _, rfl, _, _, rfl, _, _, rfl, rfl, k _ H1 (((((en.mono e1).set i (.val v1)).set j (.val v2)).set l (.val v3)).set m (.val v4)) a1 D (q.mono e1)⟩⟩
/-- if: the branch returns | goes on -/
theorem sr_ifT (hc : ET X z c es s true s1) (h : SR X z body es s1 (.rt d s2)) : SR X z (.If c body els pos :: rest) es s (.rt d s2) := fun σ H en at_ D q =>
  ⟨_, pss_cons (ps_if wT_ok wB_ok wB_never) wB_never, hc σ H en at_ _ fun H1 e1 a1 => iteT (h σ H1 (en.mono e1) a1 _ fun v H2 e2 a2 v2 => q v H2 (e1.trans e2) a2 v2)⟩
theorem sr_ifTn (hc : ET X z c es s true s1) (h : SR X z body es s1 (.nx es2 s2)) (k : SR X z rest es2 s2 o) : SR X z (.If c body els pos :: rest) es s o := fun σ H en at_ D q =>
  ⟨_, pss_cons (ps_if wT_ok wB_ok wB_never) wB_ok, hc σ H en at_ _ fun H1 e1 a1 => iteT (h σ H1 (en.mono e1) a1 _ fun σ' H2 e2 a2 n2 => k σ' H2 n2 a2 D (q.mono (e1.trans e2)))⟩
theorem sr_ifF (hc : ET X z c es s false s1) (k : SR X z rest es s1 o) : SR X z (.If c body [] pos :: rest) es s o := fun σ H en at_ D q =>
  ⟨_, pss_cons (ps_if wT_ok wB_never pss_nil) wB_ok, hc σ H en at_ _ fun H1 e1 a1 => iteF (k σ H1 (en.mono e1) a1 D (q.mono e1))⟩
theorem sr_elF (hc : ET X z c es s false s1) (h : SR X z els es s1 (.rt d s2)) : SR X z (.If c body els pos :: rest) es s (.rt d s2) := fun σ H en at_ D q =>
  ⟨_, pss_cons (ps_if wT_ok wB_never wB_ok) wB_never, hc σ H en at_ _ fun H1 e1 a1 => iteF (h σ H1 (en.mono e1) a1 _ fun v H2 e2 a2 v2 => q v H2 (e1.trans e2) a2 v2)⟩
theorem sr_elFn (hc : ET X z c es s false s1) (h : SR X z els es s1 (.nx es2 s2)) (k : SR X z rest es2 s2 o) : SR X z (.If c body els pos :: rest) es s o := fun σ H en at_ D q =>
  ⟨_, pss_cons (ps_if wT_ok wB_never wB_ok) wB_ok, hc σ H en at_ _ fun H1 e1 a1 => iteF (h σ H1 (en.mono e1) a1 _ fun σ' H2 e2 a2 n2 => k σ' H2 n2 a2 D (q.mono (e1.trans e2)))⟩
/-- the state's list read and written by place -/
def comp (s : S) : Nat → Int
  | 0 => s.1
  | 1 => s.2.1
  | _ => s.2.2
def putc (s : S) (k : Nat) (i : Int) : S := match k with
  | 0 => (i, s.2.1, s.2.2)
  | 1 => (s.1, i, s.2.2)
  | _ => (s.1, s.2.1, i)
theorem ev_dice (i k : Nat) {x : Str} {j} (hk : k < 3 := by decide) (h : es[i]? = some .dice := by rfl) (hN : X.N[i]? = some x := by rfl) (hv : Vis X.env.scope x := by first | exact Or.inl rfl | exact Or.inr (Or.inl rfl) | exact Or.inr (Or.inr rfl))
    (hd : (x == ("__debug__" : Str)) = false := by decide) (hcd : (x == ("__classdict__" : Str)) = false := by decide) : EV X z (.Subscript (.Name x p) (.Constant (.int (k : Int)) j p2) pos) es s (.int (comp s k)) s :=
  .mk (pe_ix ix_list (pe_var hN hv hd hcd) pe_int (by intro _ _; rfl)) fun σ H en at_ Q q => by
    obtain ⟨a, e1, e2⟩ := en.getD h
    refine ⟨_, e1, a, _, (k : Int), .int (comp s k), rfl, rfl, .inl (.inl (at_.d a e2)), ?_, q _ H (.refl H) at_ (.int _)⟩
    match k, hk with
    | 0, _ => exact atI_nat (j := 0) rfl
    | 1, _ => exact atI_nat (j := 1) rfl
    | 2, _ => exact atI_nat (j := 2) rfl
theorem sr_put (i k : Nat) {x : Str} {j} {n : Int} (h : EV X z e es s (.int n) s1) (kk : SR X z rest es (putc s1 k n) o) (hk : k < 3 := by decide) (hi : es[i]? = some .dice := by rfl) (hN : X.N[i]? = some x := by rfl) (hv : Vis X.env.scope x := by first | exact Or.inl rfl | exact Or.inr (Or.inl rfl) | exact Or.inr (Or.inr rfl))
    (hd : (x == ("__debug__" : Str)) = false := by decide) (hcd : (x == ("__classdict__" : Str)) = false := by decide)
    (hs : swapsWithSole [.Subscript (.Name x p) (.Constant (.int (k : Int)) j p2) p3] e pos.line X.env = pure false := by rfl) (hw : swappedStores [.Subscript (.Name x p) (.Constant (.int (k : Int)) j p2) p3] e X.env = pure none := by rfl) :
    SR X z (.Assign [.Subscript (.Name x p) (.Constant (.int (k : Int)) j p2) p3] e pos :: rest) es s o := fun σ H en at_ D q =>
  ⟨_, pss_cons (ps_asg wE_ok (pg_sub (pe_var hN hv hd hcd) pe_int set_list) hs hw) wB_ok, h σ H en at_ _ fun v H1 e1 a1 v1 => by
    cases v1
    obtain ⟨a, k1, k2⟩ := en.getD hi
    have hE : Ez z H1 (upd H1 a (dv (putc s1 k n))) := .set k2
    have go : wB X rest D σ (upd H1 a (dv (putc s1 k n))) := kk σ _ ((en.mono e1).mono hE) (a1.set k2) D (q.mono (e1.trans hE))
    refine ⟨_, k1, a, _, (k : Int), k, rfl, rfl, a1.d a k2, ?_, ?_⟩
    · match k, hk with
      | 0, _ => rfl
      | 1, _ => rfl
      | 2, _ => rfl
    · match k, hk, go with
      | 0, _, go => exact go
      | 1, _, go => exact go
      | 2, _, go => exact go⟩

/-! ### loops -/
theorem sr_for1 (l : Nat) {x : Str} {n : Int} (hp : PassesOwn (model X.prog X.w) X.A X.env X.xe) (hc : X.calm = true) (hN : X.N.Nodup) (hm : X.mg "range" = none) (h : ED X z [a] es s [.int n] s1) (hn : n < 2 ^ 60) (hn0 : -(2 ^ 60) < n) (E : Nat → List Sl) (T : Nat → S) (h0 : Le es (E 0)) (t0 : T 0 = s1)
    (hb : ∀ i : Nat, (i : Int) < n → SR X z body ((E i).set l (.val (.int (i : Int)))) (T i) (.nx (E (i + 1)) (T (i + 1)))) (k : SR X z rest (E n.toNat) (T n.toNat) o)
    (hi : X.N[l]? = some x := by rfl) (hx : Loc X.env.scope x := by first | exact Or.inl rfl | exact Or.inr rfl) (hg : Gl X "range" := by rfl) (hs : starEach [a] X.env = [(false, eval a X.env)] := by rfl)
    (hf : X.fn x = true ∨ X.env.scope.names.lookup x = some .local := by first | exact .inl rfl | exact .inr rfl) (hfo : ∀ x, foldedSetIterable (.Call (.Name "range" p2) [a] [] p3) X.env x = pure x := by intro _; rfl) :
    SR X z (.For (.Name x p) (.Call (.Name "range" p2) [a] [] p3) body [] pos :: rest) es s o := fun σ H en at_ D q =>
  ⟨_, pss_cons (ps_for hp hc (pi_range1 hg hm wA_ok hs) (pg_name hN hi hx hf) wB_ok hfo) wB_ok, h σ H en at_ _ fun vs H1 e1 a1 v1 => by
    cases v1 with
    | cons v1 r =>
      cases r
      cases v1
      refine ⟨n, rfl, by omega, by omega, for_range (lo := 0) (n := n.toNat) (fun i σ' H' => Ez z H H' ∧ At z H' (T i) ∧ En z H' σ' (E i)) ⟨e1, t0 ▸ a1, (en.mono e1).le h0⟩ (fun i σ' H' hi w => ?_) fun σ' H' w => k σ' H' w.2.2 w.2.1 D (q.mono w.1)⟩
      have e0 : (0 : Int) + (i : Int) = (i : Int) := Int.zero_add _
      show wB X body _ (σ'.set l (some (.int ((0 : Int) + (i : Int))))) H'
      rw [e0]
      exact hb i (by omega) _ H' (w.2.2.set l (.val (.int _))) w.2.1 _ fun σ2 H2 e2 a2 n2 => ⟨w.1.trans e2, a2, n2⟩⟩
theorem sr_for2 (l : Nat) {x : Str} {lo n : Int} (hp : PassesOwn (model X.prog X.w) X.A X.env X.xe) (hc : X.calm = true) (hN : X.N.Nodup) (hm : X.mg "range" = none) (h : ED X z [a, b] es s [.int lo, .int n] s1) (hl : -(2 ^ 60) < lo ∧ lo < 2 ^ 60) (hn : n < 2 ^ 60) (hn0 : -(2 ^ 60) < n) (E : Nat → List Sl) (T : Nat → S) (h0 : Le es (E 0)) (t0 : T 0 = s1)
    (hb : ∀ i : Nat, lo + (i : Int) < n → SR X z body ((E i).set l (.val (.int (lo + (i : Int))))) (T i) (.nx (E (i + 1)) (T (i + 1)))) (k : SR X z rest (E (n - lo).toNat) (T (n - lo).toNat) o)
    (hi : X.N[l]? = some x := by rfl) (hx : Loc X.env.scope x := by first | exact Or.inl rfl | exact Or.inr rfl) (hg : Gl X "range" := by rfl) (hs : starEach [a, b] X.env = [(false, eval a X.env), (false, eval b X.env)] := by rfl) (hs2 : starEach [b] X.env = [(false, eval b X.env)] := by rfl)
    (hf : X.fn x = true ∨ X.env.scope.names.lookup x = some .local := by first | exact .inl rfl | exact .inr rfl) (hfo : ∀ x, foldedSetIterable (.Call (.Name "range" p2) [a, b] [] p3) X.env x = pure x := by intro _; rfl) :
    SR X z (.For (.Name x p) (.Call (.Name "range" p2) [a, b] [] p3) body [] pos :: rest) es s o := fun σ H en at_ D q =>
  ⟨_, pss_cons (ps_for hp hc (pi_range2 hg hm wA_ok hs hs2) (pg_name hN hi hx hf) wB_ok hfo) wB_ok, h σ H en at_ _ fun vs H1 e1 a1 v1 => by
    cases v1 with
    | cons v1 r =>
      cases v1
      cases r with
      | cons v1 r =>
        cases v1
        cases r
        refine ⟨lo, n, rfl, by omega, for_range (lo := lo) (n := (n - lo).toNat) (fun i σ' H' => Ez z H H' ∧ At z H' (T i) ∧ En z H' σ' (E i)) ⟨e1, t0 ▸ a1, (en.mono e1).le h0⟩ (fun i σ' H' hi w => ?_) fun σ' H' w => k σ' H' w.2.2 w.2.1 D (q.mono w.1)⟩
        exact hb i (by omega) _ H' (w.2.2.set l (.val (.int _))) w.2.1 _ fun σ2 H2 e2 a2 n2 => ⟨w.1.trans e2, a2, n2⟩⟩
theorem sr_while (hp : PassesOwn (model X.prog X.w) X.A X.env X.xe) (E : Nat → List Sl) (T : Nat → S) (n : Nat) (h0 : Le es (E 0)) (t0 : T 0 = s) (hc : ∀ i, i < n → ET X z c (E i) (T i) true (T i)) (hb : ∀ i, i < n → SR X z body (E i) (T i) (.nx (E (i + 1)) (T (i + 1))))
    (hz : ET X z c (E n) (T n) false (T n)) (k : SR X z rest (E n) (T n) o) : SR X z (.While c body [] pos :: rest) es s o := fun σ H en at_ D q =>
  ⟨_, pss_cons (ps_while hp wT_ok wB_ok) wB_ok, fun m σ' H' => ∃ i, i ≤ n ∧ m = n - i ∧ Ez z H H' ∧ At z H' (T i) ∧ En z H' σ' (E i), ⟨n, 0, Nat.zero_le _, rfl, .refl H, t0 ▸ at_, en.le h0⟩, fun m σ' H' w => by
    obtain ⟨i, hi, rfl, e1, a1, n1⟩ := w
    by_cases hl : i < n
    · refine hc i hl σ' H' n1 a1 _ fun H1 e2 a2 => iteT ⟨fun σ2 H2 => Ez z H H2 ∧ At z H2 (T (i + 1)) ∧ En z H2 σ2 (E (i + 1)), fun σ2 H2 w => ⟨n - (i + 1), by omega, i + 1, hl, rfl, w.1, w.2.1, w.2.2⟩, ?_⟩
      exact hb i hl σ' H1 (n1.mono e2) a2 _ fun σ2 H2 e3 a3 n3 => ⟨(e1.trans e2).trans e3, a3, n3⟩
    · have : i = n := by omega
      subst this
      exact hz σ' H' n1 a1 _ fun H1 e2 a2 => iteF (k σ' H1 (n1.mono e2) a2 D (q.mono (e1.trans e2)))⟩
end

/-! ### 5. a def by its block -/
section
variable {P : Program} {w : World} {K : PySem.W.Frag} {mg : Str → Option Value} {base : Heap}
/-- what stands around a def's body -/
structure Ctx (X : Cx) (k : Nat) (N : List Str) : Prop where
  nd : X.N.Nodup
  calm : X.calm = true
  hp : PassesOwn (model X.prog X.w) X.A X.env X.xe
  hr : Room k X.A
  hu : X.A.units + 64 < cLine
theorem okD {x qual : Str} {st : Stmt} {f : Addr} {fd : FuncData} {N ps : List Str} {k : Nat} {R : Rel} (F : Fun K x qual st f fd) (Sc : FnScope N ps (defScope st)) (hl : ∀ as s d s', R as s d s' → as.length = ps.length)
    (hb : ∀ cdv A outer s0 H0 E, Ctx (cxOf CX0 P w K mg base N qual (defScope st) f cdv A outer s0 H0 E).nox k N → ∀ z as s d s', R as s d s' → SR (cxOf CX0 P w K mg base N qual (defScope st) f cdv A outer s0 H0 E).nox z (defBody st) (as ++ List.replicate (N.length - as.length) .un) s (.rt d s')) :
    FnOk P w K mg base CX0 (k + 1) f fd ps (spD R) := by
  refine F.ok Sc (fun vs H Q E h => ?_) (fun cdv A outer s0 H0 vs Q E hr h => ?_)
  · obtain ⟨z, as, s, d, s', hR, en, _⟩ := h
    have := en.length
    rw [List.length_map] at this
    rw [this]
    exact hl _ _ _ _ hR
  · obtain ⟨z, as, s, d, s', hR, en, at_, q⟩ := h
    have e1 : vs.length = as.length := by
      have := en.length
      rwa [List.length_map] at this
    have C : Ctx (cxOf CX0 P w K mg base N qual (defScope st) f cdv A outer s0 H0 E).nox k N := ⟨Sc.nd, rfl, PassesOwn.never, hr, hr.units⟩
    have g := hb cdv A outer s0 H0 E C z as s d s' hR (L2.start N vs) H0 (by
      unfold L2.start
      rw [e1]
      exact en.app (.uns _)) at_ { nx := fun _ H' => Q .non H', rt := Q } (fun v H' e a n => q v H' e a n)
    exact ⟨_, wB_ok, g⟩
theorem dn_of {x qual : Str} {st : Stmt} {f : Addr} {fd : FuncData} {ps : List Str} {k : Nat} {R : Rel} (F : Fun K x qual st f fd) (O : FnOk P w K mg base CX0 k f fd ps (spD R)) (hm : mg x = some (.ref f)) (hb : Binds K fd ps []) : Dn P w K mg base k x R := ⟨f, fd, ps, O, hm, F.kp, hb⟩
end

/-! ### 6. more -/
section
variable {X : Cx} {z : Z} {es es1 es2 fs : List Sl} {s s1 s2 s' : S} {a b c e : Expr} {xs : List Expr} {pos p p1 p2 p3 p4 : Pos} {d d1 d2 : PyData} {ds : List PyData} {as : List Sl} {o : Out} {st : Stmt} {rest body els : List Stmt}
theorem et_notT (h : ET X z a es s false s1) : ET X z (.UnaryOp .Not a pos) es s true s1 := et_not h
theorem et_notF (h : ET X z a es s true s1) : ET X z (.UnaryOp .Not a pos) es s false s1 := et_not h
theorem pl_int {i : Int} : Pl (.int i) := ⟨rfl, rfl⟩
theorem et_eqI {i j : Int} (hu : X.A.units + 64 < cLine) (ha : EV X z a es s (.int i) s1) (hb : EV X z b es s1 (.int j) s2) : ET X z (.Compare a [.Eq] [b] pos) es s (decide (i = j)) s2 :=
  ET.is (et_eq hu pl_int pl_int ha hb) rfl
theorem et_neI {i j : Int} (hu : X.A.units + 64 < cLine) (ha : EV X z a es s (.int i) s1) (hb : EV X z b es s1 (.int j) s2) : ET X z (.Compare a [.NotEq] [b] pos) es s (!decide (i = j)) s2 :=
  ET.is (et_ne hu pl_int pl_int ha hb) rfl
theorem ev_eqI {i j : Int} (hu : X.A.units + 64 < cLine) (ha : EV X z a es s (.int i) s1) (hb : EV X z b es s1 (.int j) s2) : EV X z (.Compare a [.Eq] [b] pos) es s (.bool (decide (i = j))) s2 :=
  EV.is (ev_eq hu pl_int pl_int ha hb) rfl
end
section
variable {P : Program} {w : World} {K : PySem.W.Frag} {mg : Str → Option Value} {base : Heap}
/-- a def whose block ends without a return -/
theorem okN {x qual : Str} {st : Stmt} {f : Addr} {fd : FuncData} {N ps : List Str} {k : Nat} {R : Rel} (F : Fun K x qual st f fd) (Sc : FnScope N ps (defScope st)) (hl : ∀ as s d s', R as s d s' → as.length = ps.length)
    (hb : ∀ cdv A outer s0 H0 E, Ctx (cxOf CX0 P w K mg base N qual (defScope st) f cdv A outer s0 H0 E).nox k N → ∀ z as s d s', R as s d s' → d = .none ∧ ∃ es', SR (cxOf CX0 P w K mg base N qual (defScope st) f cdv A outer s0 H0 E).nox z (defBody st) (as ++ List.replicate (N.length - as.length) .un) s (.nx es' s')) :
    FnOk P w K mg base CX0 (k + 1) f fd ps (spD R) := by
  refine F.ok Sc (fun vs H Q E h => ?_) (fun cdv A outer s0 H0 vs Q E hr h => ?_)
  · obtain ⟨z, as, s, d, s', hR, en, _⟩ := h
    have := en.length
    rw [List.length_map] at this
    rw [this]
    exact hl _ _ _ _ hR
  · obtain ⟨z, as, s, d, s', hR, en, at_, q⟩ := h
    have e1 : vs.length = as.length := by
      have := en.length
      rwa [List.length_map] at this
    have C : Ctx (cxOf CX0 P w K mg base N qual (defScope st) f cdv A outer s0 H0 E).nox k N := ⟨Sc.nd, rfl, PassesOwn.never, hr, hr.units⟩
    obtain ⟨rfl, es', hb'⟩ := hb cdv A outer s0 H0 E C z as s d s' hR
    have g := hb' (L2.start N vs) H0 (by
      unfold L2.start
      rw [e1]
      exact en.app (.uns _)) at_ { nx := fun _ H' => Q .non H', rt := Q } (fun σ' H' e a n => q .non H' e a .non)
    exact ⟨_, wB_ok, g⟩
end

/-! ### 7. while by a word; isqrt, comb; texts -/
section
variable {X : Cx} {z : Z} {es es1 es2 fs : List Sl} {s s1 s2 s' : S} {a b c e : Expr} {xs : List Expr} {pos p p1 p2 p3 p4 apos : Pos} {d d1 d2 : PyData} {ds : List PyData} {as : List Sl} {o : Out} {st : Stmt} {rest body els : List Stmt}
theorem sr_whileW (hp : PassesOwn (model X.prog X.w) X.A X.env X.xe) (W : Nat → List Sl → S → Prop) {m0 : Nat} (h0 : W m0 es s)
    (hs : ∀ m es s, W m es s → (ET X z c es s false s ∧ SR X z rest es s o) ∨ (ET X z c es s true s ∧ ∃ es' s' m', m' < m ∧ W m' es' s' ∧ SR X z body es s (.nx es' s'))) : SR X z (.While c body [] pos :: rest) es s o := fun σ H en at_ D q =>
  ⟨_, pss_cons (ps_while hp wT_ok wB_ok) wB_ok, fun m σ' H' => ∃ es' s', W m es' s' ∧ Ez z H H' ∧ At z H' s' ∧ En z H' σ' es', ⟨m0, es, s, h0, .refl H, at_, en⟩, fun m σ' H' w => by
    obtain ⟨es', s', w1, e1, a1, n1⟩ := w
    rcases hs m es' s' w1 with ⟨h1, h2⟩ | ⟨h1, es2, s2, m', hl, w2, h2⟩
    · exact h1 σ' H' n1 a1 _ fun H1 e2 a2 => iteF (h2 σ' H1 (n1.mono e2) a2 D (q.mono (e1.trans e2)))
    · refine h1 σ' H' n1 a1 _ fun H1 e2 a2 => iteT ⟨fun σ2 H2 => Ez z H H2 ∧ At z H2 s2 ∧ En z H2 σ2 es2, fun σ2 H2 w => ⟨m', hl, es2, s2, w2, w.1, w.2.1, w.2.2⟩, ?_⟩
      exact h2 σ' H1 (n1.mono e2) a2 _ fun σ2 H2 e3 a3 n3 => ⟨(e1.trans e2).trans e3, a3, n3⟩⟩
def rSqrt : List V → Hp → VK → Prop := fun vs H Q => ∃ n : Nat, vs = [.int (n : Int)] ∧ n.log2 < 13000 ∧ Q (.int ((Float64.isqrt n : Nat) : Int)) H
theorem cr_isqrt : CallR X (.builtin "math.isqrt") rSqrt := by
  intro pins s σ H vs us Q I r h
  obtain ⟨n, rfl, hn, q⟩ := h
  obtain ⟨u, rfl, t, rfl⟩ := vals1 r
  have g := PySem.W.mg_run_isqrt (n : Int) t (by omega) (by rw [Int.toNat_natCast]; omega) (by rw [Int.toNat_natCast]; omega)
  exact call_function_meets PySem.W.MGF.kind_isqrt PySem.W.MGF.plain_isqrt PySem.W.MGF.entry_isqrt (PySem.W.MGF.args_isqrt _) g.meets ⟨.int _, H, I.tok _, ⟨_, by rw [Int.toNat_natCast]⟩, q⟩
theorem rb_sqrt {i : Int} (h0 : 0 ≤ i) (h : i.natAbs.log2 < 13000) : RB z s rSqrt [.int i] (.int ((Float64.isqrt i.toNat : Nat) : Int)) := fun vs H at_ h Q q => by
  cases h with
  | cons h r =>
    cases r
    cases h
    exact ⟨i.toNat, by rw [Int.toNat_of_nonneg h0], by rw [show i.toNat = i.natAbs by omega]; assumption, q _ H (.refl H) at_ (.int _)⟩
theorem combEntry : entryFor table "math.comb" = some Builtin.«math.comb» := entryFor_of_tree (by kernel_rfl)
theorem combKind : builtinKind "math.comb" = none := by kernel_rfl
theorem combPlain : plainId "math.comb" = true := by decide +kernel
theorem combArgs (x y : Value) : argsOk "math.comb" ⟨[x, y], []⟩ := by unfold argsOk; kernel_rfl
theorem combOver (n : Int) (t : Tok) (k : Int) (u : Tok) (h0 : ¬ n < 0) (h1 : ¬ k < 0) (h2 : k > n) : Gives (Builtin.«math.comb» ⟨[.int n t, .int k u], []⟩) (.int 0) :=
  .of_wp fun M A E s Q h => by
    obtain ⟨hp, g, d, tk, os⟩ := s
    wp_walk
    exact ⟨_, rfl, h⟩
theorem combRun (n : Int) (t : Tok) (k : Int) (u : Tok) (h0 : ¬ n < 0) (h1 : ¬ k < 0) (h2 : ¬ k > n) (h3 : ¬ min k (n - k) > Builtin.Math.maxSsize) (h4 : ¬ min k (n - k) > Builtin.Math.manyFactors) (h5 : ¬ min k (n - k) > 9000)
    (hsz : (Builtin.Math.fallingProduct n (min k (n - k)).toNat / Builtin.Math.fallingProduct (min k (n - k)) (min k (n - k)).toNat).natAbs.log2 < bitsLine) :
    Gives (Builtin.«math.comb» ⟨[.int n t, .int k u], []⟩) (.int (Builtin.Math.fallingProduct n (min k (n - k)).toNat / Builtin.Math.fallingProduct (min k (n - k)) (min k (n - k)).toNat)) :=
  .of_wp fun M A E s Q h => by
    obtain ⟨hp, g, d, tk, os⟩ := s
    wp_walk
    (try (refine wpAny_ite_false (decide_eq_false (Nat.not_le.mpr hsz)) ?_; wp_walk))
    exact ⟨_, rfl, h⟩
end
def combV (n k : Int) : Int := if k > n then 0 else Builtin.Math.fallingProduct n (min k (n - k)).toNat / Builtin.Math.fallingProduct (min k (n - k)) (min k (n - k)).toNat
def rComb : List V → Hp → VK → Prop := fun vs H Q => ∃ n k : Int, vs = [.int n, .int k] ∧ 0 ≤ n ∧ n ≤ 1000 ∧ 0 ≤ k ∧ k ≤ 1000 ∧ (combV n k).natAbs.log2 < bitsLine ∧ Q (.int (combV n k)) H
section
variable {X : Cx} {z : Z} {es es1 es2 fs : List Sl} {s s1 s2 s' : S} {a b c e f : Expr} {xs : List Expr} {pos p p1 p2 p3 p4 apos : Pos} {d d1 d2 : PyData} {ds : List PyData} {as : List Sl} {o : Out} {st : Stmt} {rest body els : List Stmt}
theorem cr_comb : CallR X (.builtin "math.comb") rComb := by
  intro pins s σ H vs us Q I r h
  obtain ⟨n, k, rfl, n0, n1, k0, k1, hz, q⟩ := h
  obtain ⟨t, u, rfl⟩ := Vals.int2 r
  have hm : Builtin.Math.maxSsize > 100000 := by decide
  have hf : (9000 : Int) < Builtin.Math.manyFactors := by decide
  unfold combV at hz q
  by_cases hk : k > n
  · rw [if_pos hk] at q
    exact call_function_meets combKind combPlain combEntry (combArgs _ _) (combOver n t k u (by omega) (by omega) hk).meets ⟨.int _, H, I.tok _, ⟨_, rfl⟩, q⟩
  · rw [if_neg hk] at hz q
    exact call_function_meets combKind combPlain combEntry (combArgs _ _) (combRun n t k u (by omega) (by omega) hk (by omega) (by omega) (by omega) hz).meets ⟨.int _, H, I.tok _, ⟨_, rfl⟩, q⟩
theorem rb_comb {n k : Int} (n0 : 0 ≤ n) (n1 : n ≤ 1000) (k0 : 0 ≤ k) (k1 : k ≤ 1000) (hz : (combV n k).natAbs.log2 < bitsLine) : RB z s rComb [.int n, .int k] (.int (combV n k)) := fun vs H at_ h Q q => by
  cases h with
  | cons h r =>
    cases h
    cases r with
    | cons h r =>
      cases h
      cases r
      exact ⟨n, k, rfl, n0, n1, k0, k1, hz, q _ H (.refl H) at_ (.int _)⟩
/-- a method of a text -/
def RM (z : Z) (s : S) (r : V → List V → Hp → VK → Prop) (x : Str) (ds : List PyData) (d : PyData) : Prop := ∀ vs H, At z H s → DaAll z H vs ds → ∀ Q : VK, (∀ v H2, Ez z H H2 → At z H2 s → Da z H2 v d → Q v H2) → r (.str x) vs H Q
theorem ev_m0 {id : String} {name x : Str} {r : V → List V → Hp → VK → Prop} (slot : Slot "str" name id) (ty : typeOf (.builtin id) = pure (.type "method_descriptor")) (rule : MtR X id r) (hr : RM z s1 r x [] d) (ho : EV X z a es s (.str x) s1)
    (hbase : attributeBase a name X.env (eval a X.env) = eval a X.env := by rfl) (hline : (apos.endLine == pos.line) = true := by rfl) : EV X z (.Call (.Attribute a name apos) [] [] pos) es s d s1 :=
  .mk (pe_m0 slot ty rule wE_ok hbase hline) fun σ H en at_ Q q => ho σ H en at_ _ fun v H1 e1 a1 v1 => by
    cases v1
    exact ⟨⟨x, rfl⟩, hr [] H1 a1 .nil Q fun v H2 e2 a2 v2 => q v H2 (e1.trans e2) a2 v2⟩
theorem ev_m1 {id : String} {name x : Str} {r : V → List V → Hp → VK → Prop} (slot : Slot "str" name id) (ty : typeOf (.builtin id) = pure (.type "method_descriptor")) (rule : MtR X id r) (hr : RM z s2 r x [d1] d) (ho : EV X z a es s (.str x) s1) (he : EV X z e es s1 d1 s2)
    (hs : starEach [e] X.env = [(false, eval e X.env)] := by rfl) (hbase : attributeBase a name X.env (eval a X.env) = eval a X.env := by rfl) (hline : (apos.endLine == pos.line) = true := by rfl) : EV X z (.Call (.Attribute a name apos) [e] [] pos) es s d s2 :=
  .mk (pe_m1 slot ty rule wE_ok wE_ok hs hbase hline) fun σ H en at_ Q q => ho σ H en at_ _ fun v H1 e1 a1 v1 => by
    cases v1
    refine ⟨⟨x, rfl⟩, he σ H1 (en.mono e1) a1 _ fun y H2 e2 a2 y2 => ?_⟩
    exact hr [y] H2 a2 (.cons y2 .nil) Q fun v H3 e3 a3 v3 => q v H3 ((e1.trans e2).trans e3) a3 v3
/-- the text of an int -/
def itx (i : Int) : Str := Str.ofString (toString i)
theorem ev_fmtI {i : Int} (hz : i.natAbs.log2 < 1920) (h : EV X z e es s (.int i) s1) : EV X z (.FormattedValue e (-1) none pos) es s (.str (itx i)) s1 := .mk (pe_fmt wE_ok) fun σ H en at_ Q q => h σ H en at_ _ fun v H1 e1 a1 v1 => by
  cases v1
  exact .inr ⟨i, rfl, hz, q _ H1 e1 a1 (.str _)⟩
theorem ev_fstr1 (h : EV X z e es s d s1) : EV X z (.JoinedStr [e] pos) es s d s1 := .mk (pe_joined1 wE_ok) fun σ H en at_ Q q => h σ H en at_ Q q
theorem ev_fstr3 {x y w : Str} (hl : x.length + y.length + w.length ≤ 100000) (ha : EV X z a es s (.str x) s) (hb : EV X z b es s (.str y) s) (hc : EV X z c es s (.str w) s) : EV X z (.JoinedStr [a, b, c] pos) es s (.str (x ++ y ++ w)) s :=
  .mk (pe_joined (.cons wE_ok (.cons wE_ok (.cons wE_ok .nil)))) fun σ H en at_ Q q => ha σ H en at_ _ fun v H1 e1 a1 v1 => by
    have hL : (100000 : Nat) ≤ sizeLine := by decide
    have e0 : ∀ t : Str, Str.empty ++ t = t := fun t => TL.ext_tl (by
      rw [TL.tl_append]
      rfl)
    cases v1
    refine ⟨x, rfl, by rw [e0]; omega, hb σ H1 (en.mono e1) a1 _ fun v H2 e2 a2 v2 => ?_⟩
    cases v2
    refine ⟨y, rfl, by rw [e0, Str.length_append]; omega, hc σ H2 (en.mono (e1.trans e2)) a2 _ fun v H3 e3 a3 v3 => ?_⟩
    cases v3
    refine ⟨w, rfl, by rw [e0, Str.length_append, Str.length_append]; omega, ?_⟩
    rw [e0]
    exact q _ H3 ((e1.trans e2).trans e3) a3 (.str _)
theorem rb_str {i : Int} (hz : i.natAbs.log2 < 1920) : RB z s (fun xs H Q => ∃ i : Int, xs = [.int i] ∧ i.natAbs.log2 < 1920 ∧ Q (.str (toString i)) H) [.int i] (.str (itx i)) := fun vs H at_ h Q q => by
  cases h with
  | cons h r =>
    cases r
    cases h
    exact ⟨i, rfl, hz, q _ H (.refl H) at_ (.str _)⟩
theorem rb_intS {x : Str} {n : Int} (h : PySem.intText? x = some n) (hl : x.length ≤ 640) : RB z s (fun xs H Q => ∃ a n, xs = [.str a] ∧ PySem.intText? a = some n ∧ a.length ≤ 640 ∧ Q (.int n) H) [.str x] (.int n) := fun vs H at_ k Q q => by
  cases k with
  | cons k r =>
    cases r
    cases k
    exact ⟨x, n, rfl, h, hl, q _ H (.refl H) at_ (.int _)⟩
end
/-- a loop's body -/
def loopB (st : Option Stmt) : List Stmt := match st with
  | some (Stmt.While _ b _ _) => b
  | some (Stmt.For _ _ b _ _) => b
  | _ => []
section
variable {X : Cx} {z : Z} {es : List Sl} {s s1 s2 : S} {a b : Expr} {pos : Pos}
/-- * with a small left factor -/
theorem ev_mulL {i j : Int} (hc : -(2 ^ 64) < i ∧ i < 2 ^ 64) (ha : EV X z a es s (.int i) s1) (hb : EV X z b es s1 (.int j) s2) : EV X z (.BinOp a .Mult b pos) es s (.int (i * j)) s2 := ev_opR (f := binaryOp .Mult) op_mul (rd_I (.inl hc) fun _ => .int _) ha hb
end
end DL


set_option Elab.async false
set_option linter.all false
set_option maxRecDepth 100000
namespace DL
open PySem PySem.Spec PyProof.Rows L2
/-! ### 8. list comprehensions -/
def Z.add (z : Z) (D : Addr) (o : HO) : Z := ⟨z.dice, (D, o) :: z.vol⟩
theorem Fz.of_add {z : Z} {D a : Addr} {o : HO} (h : Fz (z.add D o) a) : Fz z a ∧ a ≠ D := ⟨⟨h.1, fun u hu => h.2 u (List.mem_cons_of_mem _ hu)⟩, fun e => h.2 o (by rw [e]; exact List.mem_cons_self ..)⟩
theorem Fz.to_add {z : Z} {D a : Addr} {o : HO} (h : Fz z a) (n : a ≠ D) : Fz (z.add D o) a := ⟨h.1, fun u hu => by
  rcases List.mem_cons.mp hu with e | e
  · exact n (congrArg Prod.fst e)
  · exact h.2 u e⟩
mutual
theorem Da.re {z z' : Z} {H H' : Hp} (k : ∀ a o, Fz z a → H a = some o → Fz z' a ∧ H' a = some o) : ∀ {v : V} {d : PyData}, Da z H v d → Da z' H' v d
  | _, _, .non => .non
  | _, _, .bl b => .bl b
  | _, _, .int i => .int i
  | _, _, .str x => .str x
  | _, _, .dct n h => .dct (k _ _ n h).1 (k _ _ n h).2
  | _, _, .lst n h r => .lst (k _ _ n h).1 (k _ _ n h).2 (DaAll.re k r)
  | _, _, .tup n h r => .tup (k _ _ n h).1 (k _ _ n h).2 (DaAll.re k r)
theorem DaAll.re {z z' : Z} {H H' : Hp} (k : ∀ a o, Fz z a → H a = some o → Fz z' a ∧ H' a = some o) : ∀ {vs : List V} {ds : List PyData}, DaAll z H vs ds → DaAll z' H' vs ds
  | _, _, .nil => .nil
  | _, _, .cons h r => .cons (Da.re k h) (DaAll.re k r)
end
theorem En.re {z z' : Z} {H H' : Hp} (hd : z'.dice = z.dice) (hv : ∀ q ∈ z.vol, q ∈ z'.vol) (k : ∀ a o, Fz z a → H a = some o → Fz z' a ∧ H' a = some o) : ∀ {σ : L2.St} {es : List Sl}, En z H σ es → En z' H' σ es
  | _, _, .nil => .nil
  | _, _, .cons h r => .cons (by
      cases h with
      | un => exact .un
      | val d => exact .val (d.re k)
      | dice e => exact .dice (hd.trans e)
      | raw => exact .raw
      | own m q => exact .own (hv _ m) (q.re k)) (En.re hd hv k r)
section
variable {X : Cx} {z : Z} {es : List Sl} {s s1 : S} {iter elt cond : Expr} {ds : List PyData}
/-- the turns of a comprehension over anything that walks, with any target -/
theorem lc_all {te : TE} {tt : TT} {g : TG} {ws : List Nat} {n : Nat} {J : It} {G : Hp → Prop} {Y : Nat → Hp → V → Hp → Prop} (wk : Walk J n G Y) {σ : L2.St} {H1 : Hp} {D : Addr} (T U : Nat → S) (a1 : At z H1 (T 0)) (hD : H1 D = none) (esT : Nat → List Sl)
    (hG : ∀ H', Ez z H1 H' → G H') (turn : ∀ (i : Nat) (x : V) (H' H2 : Hp) (o : HO), i < n → Ez z H1 H' → Y i H' x H2 → At (z.add D o) H' (T i) → ∀ Q : L2.St → Hp → Prop, (∀ σ2 H3, wipe σ2 ws = wipe σ ws → Ez (z.add D o) H' H3 → At (z.add D o) H3 (T i) → En (z.add D o) H3 σ2 (esT i) → Q σ2 H3) → g x (wipe σ ws) H2 Q) (hl : n ≤ 100000) (kb : Nat → Bool) (A : Nat → List PyData) (hA0 : A 0 = [])
    (Ht : ∀ (z' : Z) (i : Nat), i < n → ∀ σ H, En z' H σ (esT i) → At z' H (T i) → ∀ Q : Bool → Hp → Prop, (∀ H2, Ez z' H H2 → At z' H2 (U i) → Q (kb i) H2) → tt σ H Q)
    (He : ∀ (z' : Z) (i : Nat), i < n → kb i = true → ∃ y, A (i + 1) = A i ++ [y] ∧ ∀ σ H, En z' H σ (esT i) → At z' H (U i) → ∀ Q : VK, (∀ v H2, Ez z' H H2 → At z' H2 (T (i + 1)) → Da z' H2 v y → Q v H2) → te σ H Q)
    (hn : ∀ (i : Nat), i < n → kb i = false → A (i + 1) = A i ∧ T (i + 1) = U i) {Qd : Hp → Prop} (hQ : ∀ H', Ez z H1 H' → At z H' (T n) → Da z H' (.ref D) (.list (A n)) → Qd H') :
    ∃ W : Nat → Nat → Hp → Prop, (∃ m, W 0 m (upd H1 D (.lst []))) ∧ ∀ i m H, W i m H → (J.stop i H ∧ Qd H) ∨ (J.go i H ∧ ∃ Nx : Hp → Prop, (∀ H', Nx H' → ∃ m', m' < m ∧ W (i + 1) m' H') ∧ ∀ x H', J.yld i H x H' → g x (wipe σ ws) H' fun σ2 H2 => wipe σ2 ws = wipe σ ws ∧ tt σ2 H2 fun b H3 =>
        if b = true then te σ2 H3 fun y H4 => ∃ acc, H4 D = some (.lst acc) ∧ acc.length < sizeLine ∧ Nx (upd H4 D (.lst (acc ++ [y]))) else Nx H3) := by
  have lA : ∀ i, i ≤ n → (A i).length ≤ i := by
    intro i
    induction i with
    | zero => intro _; rw [hA0]; exact Nat.le_refl _
    | succ i ih =>
      intro hi
      cases hk : kb i with
      | true =>
        obtain ⟨y, hy, _⟩ := He z i (by omega) hk
        rw [hy, List.length_append]
        have := ih (by omega)
        simp
        omega
      | false =>
        rw [(hn i (by omega) hk).1]
        have := ih (by omega)
        omega
  have reach : ∀ {H' : Hp} {o : HO}, Ez z H1 H' → ∀ (b : Addr) (u : HO), Fz z b → H1 b = some u → Fz (z.add D o) b ∧ H' b = some u := fun e b u fb hb => ⟨fb.to_add (ne_of_none hb hD), e b u fb hb⟩
  have up : ∀ {H' H2 : Hp} {o : HO}, Ez z H1 H' → Ez (z.add D o) H' H2 → Ez z H1 H2 := fun e e2 b u fb hb => e2 b u (fb.to_add (ne_of_none hb hD)) (e b u fb hb)
  refine lc_it wk (fun i H' => Ez z H1 H' ∧ ∃ acc, H' D = some (.lst acc) ∧ At (z.add D (.lst acc)) H' (T i) ∧ DaAll (z.add D (.lst acc)) H' acc (A i)) ?_ (fun i H' _ w => hG H' w.1) ?_ ?_
  · refine ⟨.new hD, [], upd_same, ⟨?_, ?_, ?_⟩, ?_⟩
    · intro b hb
      rw [upd_ne (ne_of_none (a1.d b hb) hD)]
      exact a1.d b hb
    · intro p hp
      rcases List.mem_cons.mp hp with e | e
      · rw [e]
        exact upd_same
      · rw [upd_ne (ne_of_none (a1.v p e) hD)]
        exact a1.v p e
    · intro p hp e2
      rcases List.mem_cons.mp hp with e | e
      · rw [e] at e2
        have := a1.d D e2
        rw [this] at hD
        cases hD
      · exact a1.n p e e2
    · rw [hA0]
      exact .nil
  · intro i x H0 H' hi w hy
    obtain ⟨e2, acc, hDa, a2, rA⟩ := w
    refine turn i x H0 H' (.lst acc) hi e2 hy a2 _ fun σ2 H5 hw e5 a5 en2 => ⟨hw, ?_⟩
    refine Ht _ i hi _ H5 en2 a5 _ fun H3 e30 a3 => ?_
    have e3 := e5.trans e30
    have hD3 : H3 D = some (.lst acc) := a3.v (D, .lst acc) (List.mem_cons_self ..)
    cases hk : kb i with
    | false =>
      obtain ⟨n1, n2⟩ := hn i hi hk
      refine iteF ⟨up e2 e3, acc, hD3, by rw [n2]; exact a3, by rw [n1]; exact rA.mono e3⟩
    | true =>
      obtain ⟨y, hy, go⟩ := He (z.add D (.lst acc)) i hi hk
      refine iteT (go _ H3 (en2.mono e30) a3 _ fun v H4 e4 a4 v4 => ?_)
      have hD4 : H4 D = some (.lst acc) := a4.v (D, .lst acc) (List.mem_cons_self ..)
      have rA4 := (rA.mono e3).mono e4
      have la := rA4.length
      have := lA i (by omega)
      have far : ∀ (b : Addr) (u : HO), Fz (z.add D (.lst acc)) b → H4 b = some u → Fz (z.add D (.lst (acc ++ [v]))) b ∧ upd H4 D (.lst (acc ++ [v])) b = some u := fun b u fb hb => by
        obtain ⟨f1, f2⟩ := fb.of_add
        exact ⟨f1.to_add f2, by rw [upd_ne f2]; exact hb⟩
      refine ⟨acc, hD4, Nat.lt_of_lt_of_le (show acc.length < 100001 by omega) (by decide), ?_, acc ++ [v], upd_same, ⟨?_, ?_, ?_⟩, ?_⟩
      · intro b u fb hb
        rw [upd_ne (ne_of_none hb hD)]
        exact up (up e2 e3) e4 b u fb hb
      · intro b hb
        rw [upd_ne (fun e => a4.n (D, .lst acc) (List.mem_cons_self ..) (by rw [← e]; exact hb))]
        exact a4.d b hb
      · intro p hp
        rcases List.mem_cons.mp hp with e | e
        · rw [e]
          exact upd_same
        · have h1 := a1.v p e
          rw [upd_ne (ne_of_none h1 hD)]
          exact a4.v p (List.mem_cons_of_mem _ e)
      · intro p hp
        rcases List.mem_cons.mp hp with e | e
        · rw [e]
          exact a4.n (D, .lst acc) (List.mem_cons_self ..)
        · exact a4.n p (List.mem_cons_of_mem _ e)
      · rw [hy]
        exact (rA4.re far).app (.cons (v4.re far) .nil)
  · intro H' w
    obtain ⟨e2, acc, hDa, a2, rA⟩ := w
    have fD : Fz z D := a1.fresh hD
    exact hQ H' e2 ⟨a2.d, fun p hp => a2.v p (List.mem_cons_of_mem _ hp), fun p hp => a2.n p (List.mem_cons_of_mem _ hp)⟩ (.lst fD hDa (rA.re fun b u fb hb => ⟨fb.of_add.1, hb⟩))
/-- the same with a name as the target, over what leaves the heap alone -/
theorem lc_gen {te : TE} {tt : TT} {j n : Nat} {J : It} {G : Hp → Prop} {Y : Nat → Hp → V → Hp → Prop} (wk : Walk J n G Y) {σ : L2.St} {H1 : Hp} {D : Addr} (T U : Nat → S) (en1 : En z H1 σ es) (a1 : At z H1 (T 0)) (hD : H1 D = none) (items : Nat → PyData)
    (hG : ∀ H', Ez z H1 H' → G H') (hY : ∀ i x H' H2, i < n → Y i H' x H2 → H2 = H' ∧ Da z H1 x (items i)) (hl : n ≤ 100000) (kb : Nat → Bool) (A : Nat → List PyData) (hA0 : A 0 = [])
    (Ht : ∀ (z' : Z) (i : Nat), i < n → ∀ σ H, En z' H σ (es.set j (.val (items i))) → At z' H (T i) → ∀ Q : Bool → Hp → Prop, (∀ H2, Ez z' H H2 → At z' H2 (U i) → Q (kb i) H2) → tt σ H Q)
    (He : ∀ (z' : Z) (i : Nat), i < n → kb i = true → ∃ y, A (i + 1) = A i ++ [y] ∧ ∀ σ H, En z' H σ (es.set j (.val (items i))) → At z' H (U i) → ∀ Q : VK, (∀ v H2, Ez z' H H2 → At z' H2 (T (i + 1)) → Da z' H2 v y → Q v H2) → te σ H Q)
    (hn : ∀ (i : Nat), i < n → kb i = false → A (i + 1) = A i ∧ T (i + 1) = U i) {Qd : Hp → Prop} (hQ : ∀ H', Ez z H1 H' → At z H' (T n) → Da z H' (.ref D) (.list (A n)) → Qd H') :
    ∃ W : Nat → Nat → Hp → Prop, (∃ m, W 0 m (upd H1 D (.lst []))) ∧ ∀ i m H, W i m H → (J.stop i H ∧ Qd H) ∨ (J.go i H ∧ ∃ Nx : Hp → Prop, (∀ H', Nx H' → ∃ m', m' < m ∧ W (i + 1) m' H') ∧ ∀ x H', J.yld i H x H' → gName j x (wipe σ [j]) H' fun σ2 H2 => wipe σ2 [j] = wipe σ [j] ∧ tt σ2 H2 fun b H3 =>
        if b = true then te σ2 H3 fun y H4 => ∃ acc, H4 D = some (.lst acc) ∧ acc.length < sizeLine ∧ Nx (upd H4 D (.lst (acc ++ [y]))) else Nx H3) := by
  refine lc_all (g := gName j) (ws := [j]) wk T U a1 hD (fun i => es.set j (.val (items i))) hG (fun i x H' H2 o hi e2 hy a2 Q q => ?_) hl kb A hA0 Ht He hn hQ
  obtain ⟨rfl, hxd⟩ := hY i x H' H2 hi hy
  have reach : ∀ (b : Addr) (u : HO), Fz z b → H1 b = some u → Fz (z.add D o) b ∧ H2 b = some u := fun b u fb hb => ⟨fb.to_add (ne_of_none hb hD), e2 b u fb hb⟩
  have es2 : (wipe σ [j]).set j (some x) = σ.set j (some x) := by
    show (σ.set j none).set j (some x) = _
    rw [List.set_set]
  show Q ((wipe σ [j]).set j (some x)) H2
  rw [es2]
  have en0 : En (z.add D o) H2 σ es := En.re (z := z) (z' := z.add D o) rfl (fun q h => List.mem_cons_of_mem _ h) reach en1
  exact q _ H2 (by
    show (σ.set j (some x)).set j none = σ.set j none
    rw [List.set_set]) (.refl _) a2 (en0.set j (.val (hxd.re reach)))
/-- the same with two names as the target, each turn's pair being at hand as a tuple -/
theorem lc_two {te : TE} {tt : TT} {K : PySem.W.Frag} {j k n : Nat} {J : It} {G : Hp → Prop} {Y : Nat → Hp → V → Hp → Prop} (wk : Walk J n G Y) {σ : L2.St} {H1 : Hp} {D : Addr} (T U : Nat → S) (en1 : En z H1 σ es) (a1 : At z H1 (T 0)) (hD : H1 D = none) (hjk : j ≠ k) (items other : Nat → PyData)
    (hG : ∀ H', Ez z H1 H' → G H') (hY : ∀ i x H' H2, i < n → Ez z H1 H' → Y i H' x H2 → ∃ t u v, x = .ref t ∧ SqT K H2 t [u, v] ∧ (H2 = H' ∨ (H' t = none ∧ H2 = upd H' t (.tup [u, v]))) ∧ Da z H1 u (items i) ∧ Da z H1 v (other i)) (hl : n ≤ 100000) (kb : Nat → Bool) (A : Nat → List PyData) (hA0 : A 0 = [])
    (Ht : ∀ (z' : Z) (i : Nat), i < n → ∀ σ H, En z' H σ ((es.set j (.val (items i))).set k (.val (other i))) → At z' H (T i) → ∀ Q : Bool → Hp → Prop, (∀ H2, Ez z' H H2 → At z' H2 (U i) → Q (kb i) H2) → tt σ H Q)
    (He : ∀ (z' : Z) (i : Nat), i < n → kb i = true → ∃ y, A (i + 1) = A i ++ [y] ∧ ∀ σ H, En z' H σ ((es.set j (.val (items i))).set k (.val (other i))) → At z' H (U i) → ∀ Q : VK, (∀ v H2, Ez z' H H2 → At z' H2 (T (i + 1)) → Da z' H2 v y → Q v H2) → te σ H Q)
    (hn : ∀ (i : Nat), i < n → kb i = false → A (i + 1) = A i ∧ T (i + 1) = U i) {Qd : Hp → Prop} (hQ : ∀ H', Ez z H1 H' → At z H' (T n) → Da z H' (.ref D) (.list (A n)) → Qd H') :
    ∃ W : Nat → Nat → Hp → Prop, (∃ m, W 0 m (upd H1 D (.lst []))) ∧ ∀ i m H, W i m H → (J.stop i H ∧ Qd H) ∨ (J.go i H ∧ ∃ Nx : Hp → Prop, (∀ H', Nx H' → ∃ m', m' < m ∧ W (i + 1) m' H') ∧ ∀ x H', J.yld i H x H' → gTup K 2 (gCons (gName j) (gCons (gName k) gNil)) x (wipe σ [j, k]) H' fun σ2 H2 => wipe σ2 [j, k] = wipe σ [j, k] ∧ tt σ2 H2 fun b H3 =>
        if b = true then te σ2 H3 fun y H4 => ∃ acc, H4 D = some (.lst acc) ∧ acc.length < sizeLine ∧ Nx (upd H4 D (.lst (acc ++ [y]))) else Nx H3) := by
  refine lc_all (g := gTup K 2 (gCons (gName j) (gCons (gName k) gNil))) (ws := [j, k]) wk T U a1 hD (fun i => (es.set j (.val (items i))).set k (.val (other i))) hG (fun i x H' H2 o hi e2 hy a2 Q q => ?_) hl kb A hA0 Ht He hn hQ
  obtain ⟨t, u, v, rfl, ht, hH, hu, hv⟩ := hY i x H' H2 hi e2 hy
  have e3 : Ez (z.add D o) H' H2 := by
    rcases hH with rfl | ⟨nt, rfl⟩
    · exact .refl _
    · exact .new nt
  have a3 : At (z.add D o) H2 (T i) := by
    rcases hH with rfl | ⟨nt, rfl⟩
    · exact a2
    · exact a2.new nt
  have reach : ∀ (b : Addr) (w : HO), Fz z b → H1 b = some w → Fz (z.add D o) b ∧ H2 b = some w := fun b w fb hb => by
    have f := fb.to_add (o := o) (ne_of_none hb hD)
    exact ⟨f, e3 b w f (e2 b w fb hb)⟩
  have w0 : wipe σ [j, k] = (σ.set k none).set j none := rfl
  have es2 : ((wipe σ [j, k]).set j (some u)).set k (some v) = (σ.set j (some u)).set k (some v) := by
    rw [w0, List.set_set, List.set_comm _ _ hjk, List.set_set, List.set_comm _ _ hjk.symm]
  refine ⟨t, [u, v], rfl, ht, rfl, u, [v], rfl, v, [], rfl, rfl, ?_⟩
  rw [es2]
  have en0 : En (z.add D o) H2 σ es := En.re (z := z) (z' := z.add D o) rfl (fun q h => List.mem_cons_of_mem _ h) reach en1
  refine q _ H2 ?_ e3 a3 ((en0.set j (.val (hu.re reach))).set k (.val (hv.re reach)))
  show (((σ.set j (some u)).set k (some v)).set k none).set j none = (σ.set k none).set j none
  rw [List.set_set, List.set_comm _ _ hjk, List.set_set, List.set_comm _ _ hjk.symm]
theorem lc_read {te : TE} {tt : TT} {j : Nat} (hit : EV X z iter es s (.list ds) s1) (hl : ds.length ≤ 100000) (kb : Nat → Bool) (A : Nat → List PyData) (T U : Nat → S) (hA0 : A 0 = []) (t0 : T 0 = s1)
    (Ht : ∀ (z' : Z) (i : Nat) d, ds[i]? = some d → ∀ σ H, En z' H σ (es.set j (.val d)) → At z' H (T i) → ∀ Q : Bool → Hp → Prop, (∀ H2, Ez z' H H2 → At z' H2 (U i) → Q (kb i) H2) → tt σ H Q)
    (He : ∀ (z' : Z) (i : Nat) d, ds[i]? = some d → kb i = true → ∃ y, A (i + 1) = A i ++ [y] ∧ ∀ σ H, En z' H σ (es.set j (.val d)) → At z' H (U i) → ∀ Q : VK, (∀ v H2, Ez z' H H2 → At z' H2 (T (i + 1)) → Da z' H2 v y → Q v H2) → te σ H Q)
    (hn : ∀ (i : Nat) d, ds[i]? = some d → kb i = false → A (i + 1) = A i ∧ T (i + 1) = U i) :
    ∀ σ H, En z H σ es → At z H s → ∀ Q : VK, (∀ v H2, Ez z H H2 → At z H2 (T ds.length) → Da z H2 v (.list (A ds.length)) → Q v H2) → tLc (iList X.K (wE X iter)) (gName j) tt te [j] σ H Q := fun σ H en at_ Q q => by
  refine hit σ H en at_ _ fun v H1 e1 a1 v1 => ?_
  cases v1 with
  | @lst a xs _ fa ha r =>
    have hx : xs.length = ds.length := r.length
    have g : ∀ i, i < xs.length → ds[i]? = some (ds.getD i .none) := fun i hi => by
      rw [List.getD_eq_getElem?_getD, List.getElem?_eq_getElem (by omega)]
      rfl
    refine ⟨a, rfl, ⟨xs, .inl (.inl ha)⟩, fun D hD => ?_⟩
    refine lc_gen (walk_list (K := X.K) (a := a) (xs := xs)) T U (en.mono e1) (t0 ▸ a1) hD (fun i => ds.getD i .none) (fun H' e => .inl (.inl (e a _ fa ha))) (fun i x H' H2 hi hy => ⟨hy.1, ?_⟩) (by omega) kb A hA0 (fun z' i hi => Ht z' i _ (g i hi)) (fun z' i hi => He z' i _ (g i hi)) (fun i hi => hn i _ (g i hi)) (fun H' e a2 d2 => ?_)
    · obtain ⟨d, hd, hv⟩ := r.getV i x hy.2
      have := g i hi
      rw [hd] at this
      rw [← Option.some.inj this]
      exact hv
    · rw [hx] at a2 d2
      exact q _ H' (e1.trans e) a2 d2
/-- over the signs of a text -/
theorem lc_readS {te : TE} {tt : TT} {j : Nat} {t : Str} (hit : EV X z iter es s (.str t) s1) (hl : t.cps.size ≤ 100000) (kb : Nat → Bool) (A : Nat → List PyData) (T U : Nat → S) (hA0 : A 0 = []) (t0 : T 0 = s1)
    (Ht : ∀ (z' : Z) (i c : Nat), t.cps[i]? = some c → ∀ σ H, En z' H σ (es.set j (.val (.str ⟨#[c]⟩))) → At z' H (T i) → ∀ Q : Bool → Hp → Prop, (∀ H2, Ez z' H H2 → At z' H2 (U i) → Q (kb i) H2) → tt σ H Q)
    (He : ∀ (z' : Z) (i c : Nat), t.cps[i]? = some c → kb i = true → ∃ y, A (i + 1) = A i ++ [y] ∧ ∀ σ H, En z' H σ (es.set j (.val (.str ⟨#[c]⟩))) → At z' H (U i) → ∀ Q : VK, (∀ v H2, Ez z' H H2 → At z' H2 (T (i + 1)) → Da z' H2 v y → Q v H2) → te σ H Q)
    (hn : ∀ (i c : Nat), t.cps[i]? = some c → kb i = false → A (i + 1) = A i ∧ T (i + 1) = U i) :
    ∀ σ H, En z H σ es → At z H s → ∀ Q : VK, (∀ v H2, Ez z H H2 → At z H2 (T t.cps.size) → Da z H2 v (.list (A t.cps.size)) → Q v H2) → tLc (iStr (wE X iter)) (gName j) tt te [j] σ H Q := fun σ H en at_ Q q => by
  refine hit σ H en at_ _ fun v H1 e1 a1 v1 => ?_
  cases v1
  have g : ∀ i, i < t.cps.size → t.cps[i]? = some (t.cps.getD i 0) := fun i hi => by
    rw [Array.getD_eq_getD_getElem?, Array.getElem?_eq_getElem hi]
    rfl
  refine ⟨t, rfl, fun D hD => ?_⟩
  refine lc_gen (walk_str (z := t)) T U (en.mono e1) (t0 ▸ a1) hD (fun i => .str ⟨#[t.cps.getD i 0]⟩) (fun H' e => trivial) (fun i x H' H2 hi hy => ⟨hy.1, ?_⟩) hl kb A hA0 (fun z' i hi => Ht z' i _ (g i hi)) (fun z' i hi => He z' i _ (g i hi)) (fun i hi => hn i _ (g i hi)) (fun H' e a2 d2 => q _ H' (e1.trans e) a2 d2)
  obtain ⟨c, hc, rfl⟩ := hy.2
  have := g i hi
  rw [hc] at this
  rw [← Option.some.inj this]
  exact .str _
/-- in the block of a comprehension -/
abbrev Blk (X : Cx) (scope : Scope) (p : Cx → Prop) : Prop := ∀ (s0 : Shared) (H0 : Hp) (C : Addr) (cl : List (Str × Addr)) (fp : List Addr), p (X.blk s0 H0 scope (compEnvC scope cl C X.env) fp)
def tEl (X : Cx) (scope : Scope) (elt : Expr) : TE := fun σ H Q => ∀ (s0 : Shared) (H0 : Hp) (C : Addr) (cl : List (Str × Addr)) (fp : List Addr), wE (X.blk s0 H0 scope (compEnvC scope cl C X.env) fp) elt σ H Q
def tTs (X : Cx) (scope : Scope) (cond : Expr) : TT := fun σ H Q => ∀ (s0 : Shared) (H0 : Hp) (C : Addr) (cl : List (Str × Addr)) (fp : List Addr), wT (X.blk s0 H0 scope (compEnvC scope cl C X.env) fp) cond σ H Q
theorem tEl_ok {scope : Scope} (s0 : Shared) (H0 : Hp) (C : Addr) (cl : List (Str × Addr)) (fp : List Addr) : PE (X.blk s0 H0 scope (compEnvC scope cl C X.env) fp) elt (tEl X scope elt) := ⟨fun pins s σ H Q I h => wE_ok.run pins s σ H Q I (h s0 H0 C cl fp)⟩
theorem tTs_ok {scope : Scope} (s0 : Shared) (H0 : Hp) (C : Addr) (cl : List (Str × Addr)) (fp : List Addr) : PTs (X.blk s0 H0 scope (compEnvC scope cl C X.env) fp) [cond] (tTs X scope cond) := pts_one ⟨fun pins s σ H Q I h => wT_ok.run pins s σ H Q I (h s0 H0 C cl fp)⟩
theorem ev_lcIf {j : Nat} {x : Str} {scope : Scope} {p pos : Pos} (hc : X.calm = true) (hN : X.N.Nodup) (hit : EV X z iter es s (.list ds) s1) (hl : ds.length ≤ 100000) (kb : Nat → Bool) (A : Nat → List PyData) (T U : Nat → S) (hA0 : A 0 = []) (t0 : T 0 = s1)
    (hB : BlkOk X.N X.env.scope scope [(x, j)]) (hg : ∀ (s : Shared) (H : Hp) (C : Addr) (cl : List (Str × Addr)) (fp : List Addr), PG (X.blk s H scope (compEnvC scope cl C X.env) fp) (.Name x p) (gName j))
    (Ht : ∀ (z' : Z) (i : Nat) d, ds[i]? = some d → Blk X scope fun Y => ET Y z' cond (es.set j (.val d)) (T i) (kb i) (U i))
    (He : ∀ (i : Nat) d, ds[i]? = some d → kb i = true → ∃ y, A (i + 1) = A i ++ [y] ∧ ∀ z' : Z, Blk X scope fun Y => EV Y z' elt (es.set j (.val d)) (U i) y (T (i + 1)))
    (hn : ∀ (i : Nat) d, ds[i]? = some d → kb i = false → A (i + 1) = A i ∧ T (i + 1) = U i) (hs : ∀ x, foldedSetIterable iter X.env x = pure x := by intro _; rfl) :
    EV X z (.ListComp elt [{ target := .Name x p, iter := iter, ifs := [cond], is_async := 0 }] scope pos) es s (.list (A ds.length)) (T ds.length) :=
  .mk (pe_lc (own := [(x, j)]) hc hN (pi_list wE_ok) hB hg tTs_ok tEl_ok hs)
    (lc_read hit hl kb A T U hA0 t0 (fun z' i d hd σ H en at_ Q q s0 H0 C cl fp => Ht z' i d hd s0 H0 C cl fp σ H en at_ Q q)
      (fun z' i d hd hk => by
        obtain ⟨y, hy, go⟩ := He i d hd hk
        exact ⟨y, hy, fun σ H en at_ Q q s0 H0 C cl fp => go z' s0 H0 C cl fp σ H en at_ Q q⟩) hn)
/-- y = [.. if ..] -/
theorem sr_lcIf {j k : Nat} {x y : Str} {scope : Scope} {p py pos spos : Pos} {rest : List Stmt} {o : Out} (hc : X.calm = true) (hN : X.N.Nodup) (hit : EV X z iter es s (.list ds) s1) (hl : ds.length ≤ 100000) (kb : Nat → Bool) (A : Nat → List PyData) (T U : Nat → S) (hA0 : A 0 = []) (t0 : T 0 = s1)
    (hB : BlkOk X.N X.env.scope scope [(x, j)]) (hg : ∀ (s : Shared) (H : Hp) (C : Addr) (cl : List (Str × Addr)) (fp : List Addr), PG (X.blk s H scope (compEnvC scope cl C X.env) fp) (.Name x p) (gName j))
    (Ht : ∀ (z' : Z) (i : Nat) d, ds[i]? = some d → Blk X scope fun Y => ET Y z' cond (es.set j (.val d)) (T i) (kb i) (U i))
    (He : ∀ (i : Nat) d, ds[i]? = some d → kb i = true → ∃ y, A (i + 1) = A i ++ [y] ∧ ∀ z' : Z, Blk X scope fun Y => EV Y z' elt (es.set j (.val d)) (U i) y (T (i + 1)))
    (hn : ∀ (i : Nat) d, ds[i]? = some d → kb i = false → A (i + 1) = A i ∧ T (i + 1) = U i) (kk : SR X z rest (es.set k (.val (.list (A ds.length)))) (T ds.length) o)
    (hi : X.N[k]? = some y := by rfl) (hy : List.lookup y X.env.scope.names = some NameKind.local := by rfl)
    (hsw : swapsWith (.ListComp elt [{ target := .Name x p, iter := iter, ifs := [cond], is_async := 0 }] scope pos) (some (.Name y py)) spos.line X.env = pure true := by exact sw_true rfl rfl rfl (by decide +kernel)) (hs : ∀ x, foldedSetIterable iter X.env x = pure x := by intro _; rfl) :
    SR X z (.Assign [.Name y py] (.ListComp elt [{ target := .Name x p, iter := iter, ifs := [cond], is_async := 0 }] scope pos) spos :: rest) es s o := fun σ H en at_ D q =>
  ⟨_, pss_cons (ps_setLc (i := k) (own := [(x, j)]) hc hN hi hy hsw (pi_list wE_ok) hB hg tTs_ok tEl_ok hs) wB_ok, by
    show tLc (iList X.K (wE X iter)) (gName j) (tTs X scope cond) (tEl X scope elt) [j] σ H (fun v H1 => wB X rest D (σ.set k (some v)) H1)
    exact lc_read hit hl kb A T U hA0 t0 (fun z' i d hd σ H en at_ Q q s0 H0 C cl fp => Ht z' i d hd s0 H0 C cl fp σ H en at_ Q q)
      (fun z' i d hd hk => by
        obtain ⟨y, hy, go⟩ := He i d hd hk
        exact ⟨y, hy, fun σ H en at_ Q q s0 H0 C cl fp => go z' s0 H0 C cl fp σ H en at_ Q q⟩) hn σ H en at_ _ fun v H2 e2 a2 v2 => kk _ H2 ((en.mono e2).set k (.val v2)) a2 D (q.mono e2)⟩
theorem ev_lcStr {j : Nat} {t : Str} {x : Str} {scope : Scope} {p pos : Pos} (hc : X.calm = true) (hN : X.N.Nodup) (hit : EV X z iter es s (.str t) s) (hl : t.cps.size ≤ 100000) (f : Nat → PyData)
    (hB : BlkOk X.N X.env.scope scope [(x, j)]) (hg : ∀ (s : Shared) (H : Hp) (C : Addr) (cl : List (Str × Addr)) (fp : List Addr), PG (X.blk s H scope (compEnvC scope cl C X.env) fp) (.Name x p) (gName j))
    (He : ∀ (c : Nat), ∀ z' : Z, Blk X scope fun Y => EV Y z' elt (es.set j (.val (.str ⟨#[c]⟩))) s (f c) s) (hs : ∀ x, foldedSetIterable iter X.env x = pure x := by intro _; rfl) :
    EV X z (.ListComp elt [{ target := .Name x p, iter := iter, ifs := [], is_async := 0 }] scope pos) es s (.list (t.cps.toList.map f)) s :=
  .mk (pe_lc (own := [(x, j)]) hc hN (pi_str wE_ok) hB hg (fun _ _ _ _ _ => pts_nil) tEl_ok hs) (by
    have g := lc_readS (X := X) (te := tEl X scope elt) (tt := tYes) (j := j) hit hl (fun _ => true) (fun i => (t.cps.toList.take i).map f) (fun _ => s) (fun _ => s) rfl rfl (fun z' i c hc σ H en at_ Q q => q H (.refl H) at_)
      (fun z' i c hc _ => ⟨f c, by rw [List.take_add_one, List.map_append, Array.getElem?_toList, hc]; rfl, fun σ H en at_ Q q s0 H0 C cl fp => He c z' s0 H0 C cl fp σ H en at_ Q q⟩) (fun i c _ h => by cases h)
    rw [show (t.cps.toList.take t.cps.size) = t.cps.toList from List.take_of_length_le (by simp)] at g
    exact g)
theorem rb_all {bs : List Bool} {K : PySem.W.Frag} : RB z s (rAll K) [.list (bs.map .bool)] (.bool (bs.all id)) := fun vs H at_ h Q q => by
  cases h with
  | cons h r =>
    cases r
    cases h with
    | lst n e r =>
      have : ∀ {xs : List V} {bs : List Bool}, DaAll z H xs (bs.map .bool) → xs = bs.map V.bl := by
        intro xs bs
        induction bs generalizing xs with
        | nil => intro h; cases h; rfl
        | cons b bs ih =>
          intro h
          cases h with
          | cons h r =>
            cases h
            rw [ih r]
            rfl
      rw [this r] at e
      exact ⟨_, bs, rfl, .inl (.inl e), q _ H (.refl H) at_ (.bl _)⟩
end
end DL


set_option Elab.async false
set_option linter.all false
set_option maxRecDepth 100000
namespace DL
open PySem PySem.Spec PyProof.Rows L2
/-! ### 9. lists of a def's own, written in place -/
theorem En.slot {z : Z} {H : Hp} : ∀ {σ : L2.St} {es : List Sl}, En z H σ es → ∀ {i : Nat} {e : Sl}, es[i]? = some e → ∃ x, σ[i]? = some x ∧ SlR z H x e
  | _, _, .nil, i, e, h => by simp at h
  | _, _, .cons h r, 0, e, q => by
    cases Option.some.inj q
    exact ⟨_, rfl, h⟩
  | _, _, .cons h r, i + 1, e, q => En.slot r (i := i) q
theorem En.by_slots {z : Z} {H : Hp} : ∀ {σ : List (Option V)} {es : List Sl}, σ.length = es.length → (∀ (i : Nat) (x : Option V) (e : Sl), σ[i]? = some x → es[i]? = some e → SlR z H x e) → En z H σ es
  | [], [], _, _ => .nil
  | [], _ :: _, h, _ => by simp at h
  | _ :: _, [], h, _ => by simp at h
  | x :: σ, e :: es, h, k => .cons (k 0 x e rfl rfl) (En.by_slots (by simpa using h) fun i x e h1 h2 => k (i + 1) x e h1 h2)
def Z.own (z : Z) (vol : List (Addr × HO)) : Z := ⟨z.dice, vol ++ z.vol⟩
/-- how a def's run stands: z: what its caller holds; Hc: the heap at its entry; vol: its own lists -/
structure OI (z : Z) (Hc H : Hp) (vol : List (Addr × HO)) (σ : L2.St) (es : List Sl) (s : S) : Prop where
  new : ∀ q ∈ vol, Hc q.1 = none
  nd : (vol.map (·.1)).Nodup
  base : ∀ q ∈ z.vol, Hc q.1 ≠ none
  at_ : At (z.own vol) H s
  en : En (z.own vol) H σ es
  ez : Ez z Hc H
  far : ∀ (i : Nat) (ds : List PyData) (p : Addr), es[i]? = some (Sl.own ds) → σ[i]? = some (some (V.ref p)) → Hc p = none
  two : ∀ (i j : Nat) (ds ds' : List PyData) (p : Addr), i ≠ j → es[i]? = some (Sl.own ds) → es[j]? = some (Sl.own ds') → σ[i]? = some (some (V.ref p)) → σ[j]? ≠ some (some (V.ref p))
theorem Fz.of_own {z : Z} {vol : List (Addr × HO)} {a : Addr} (h : Fz (z.own vol) a) : Fz z a ∧ ∀ o, (a, o) ∉ vol := ⟨⟨h.1, fun o m => h.2 o (List.mem_append_right _ m)⟩, fun o m => h.2 o (List.mem_append_left _ m)⟩
theorem Fz.to_own {z : Z} {vol : List (Addr × HO)} {a : Addr} (h : Fz z a) (n : ∀ o, (a, o) ∉ vol) : Fz (z.own vol) a := ⟨h.1, fun o m => by
  rcases List.mem_append.mp m with m | m
  · exact n o m
  · exact h.2 o m⟩
section
variable {z : Z} {Hc H H' : Hp} {vol : List (Addr × HO)} {σ : L2.St} {es : List Sl} {s s' : S}
/-- what was there at the entry is none of the def's own lists -/
theorem OI.old (I : OI z Hc H vol σ es s) {a : Addr} {o : HO} (h : Hc a = some o) : ∀ u, (a, u) ∉ vol := fun u m => by
  rw [I.new _ m] at h
  cases h
theorem OI.ezc (I : OI z Hc H vol σ es s) (e : Ez (z.own vol) H H') : Ez z Hc H' := fun a o f h => e a o (f.to_own (I.old h)) (I.ez a o f h)
theorem OI.atz (I : OI z Hc H vol σ es s) (a : At (z.own vol) H' s') : At z H' s' := ⟨a.d, fun p m => a.v p (List.mem_append_right _ m), fun p m => a.n p (List.mem_append_right _ m)⟩
/-- an expression's run, that changes no list of its own -/
theorem OI.step (I : OI z Hc H vol σ es s) (e : Ez (z.own vol) H H') (a : At (z.own vol) H' s') : OI z Hc H' vol σ es s' := ⟨I.new, I.nd, I.base, a, I.en.mono e, I.ezc e, I.far, I.two⟩
end
/-- how a block ends -/
def MO (z : Z) (Hc : Hp) (D : Ends) : Out → Prop
  | .nx es s => ∀ vol σ' H', OI z Hc H' vol σ' es s → D.nx σ' H'
  | .rt d s => ∀ v H', Ez z Hc H' → At z H' s → Da z H' v d → D.rt v H'
/-- a block that may hold lists of its own -/
def SO (X : Cx) (st : List Stmt) (es : List Sl) (s : S) (o : Out) : Prop := ∀ (z : Z) (Hc H : Hp) vol σ, OI z Hc H vol σ es s → ∀ D : Ends, MO z Hc D o → wB X st D σ H
section
variable {X : Cx} {es es1 es2 fs : List Sl} {s s1 s2 s' : S} {a b c e : Expr} {xs : List Expr} {pos p p1 p2 p3 p4 apos : Pos} {d d1 d2 : PyData} {ds : List PyData} {o : Out} {st : Stmt} {rest body els : List Stmt}
theorem so_nil : SO X [] es s (.nx es s) := fun z Hc H vol σ I D q => ⟨_, pss_nil, q vol σ H I⟩
theorem so_ret (h : ∀ z, EV X z e es s d s1) : SO X (.Return (some e) pos :: rest) es s (.rt d s1) := fun z Hc H vol σ I D q =>
  ⟨_, pss_cons (ps_ret wE_ok) wB_never, h _ σ H I.en I.at_ _ fun v H1 e1 a1 v1 => q v H1 (I.ezc e1) (I.atz a1) (v1.re fun a o f h => ⟨f.of_own.1, h⟩)⟩
/-- a list of one's own is handed back -/
theorem so_retO (i : Nat) {x : Str} (h : es[i]? = some (.own ds) := by rfl) (hN : X.N[i]? = some x := by rfl) (hv : Vis X.env.scope x := by first | exact Or.inl rfl | exact Or.inr (Or.inl rfl) | exact Or.inr (Or.inr rfl)) (hd : (x == ("__debug__" : Str)) = false := by decide) (hcd : (x == ("__classdict__" : Str)) = false := by decide) :
    SO X (.Return (some (.Name x p)) pos :: rest) es s (.rt (.list ds) s) := fun z Hc H vol σ I D q => by
  obtain ⟨y, hy, r⟩ := I.en.slot h
  cases r with
  | @own a vs _ m k =>
    have hc := I.far i ds a h hy
    have ha : H a = some (.lst vs) := I.at_.v _ m
    have f : Fz z a := ⟨fun e => I.at_.n _ m e, fun o mo => I.base _ mo hc⟩
    exact ⟨_, pss_cons (ps_ret (pe_var hN hv hd hcd)) wB_never, _, hy, q _ H I.ez (I.atz I.at_) (.lst f ha (k.re fun b u fb hb => ⟨fb.of_own.1, hb⟩))⟩
theorem OI.set {z : Z} {Hc H H' : Hp} {vol : List (Addr × HO)} {σ : L2.St} (I : OI z Hc H vol σ es s) (e : Ez (z.own vol) H H') (a : At (z.own vol) H' s1) (i : Nat) {v : V} (hv : Da (z.own vol) H' v d) : OI z Hc H' vol (σ.set i (some v)) (es.set i (.val d)) s1 := by
  refine ⟨I.new, I.nd, I.base, a, (I.en.mono e).set i (.val hv), I.ezc e, fun j ds p h1 h2 => ?_, fun j k ds ds' p n h1 h2 h3 => ?_⟩
  · by_cases hj : i = j
    · subst hj
      have : (es.set i (Sl.val d))[i]? = some (.val d) ∨ (es.set i (Sl.val d))[i]? = none := by
        by_cases hl : i < es.length
        · left; rw [List.getElem?_set_self hl]
        · right; rw [List.getElem?_eq_none (by rw [List.length_set]; omega)]
      rcases this with e | e <;> rw [e] at h1 <;> cases h1
    · rw [List.getElem?_set_ne hj] at h1 h2
      exact I.far j ds p h1 h2
  · have ne : ∀ {m : Nat} {ds : List PyData}, (es.set i (Sl.val d))[m]? = some (.own ds) → i ≠ m := fun {m ds} h e => by
      subst e
      by_cases hl : i < es.length
      · rw [List.getElem?_set_self hl] at h
        cases h
      · rw [List.getElem?_eq_none (by rw [List.length_set]; omega)] at h
        cases h
    have nj := ne h1
    have nk := ne h2
    rw [List.getElem?_set_ne nj] at h1 h3
    rw [List.getElem?_set_ne nk] at h2 ⊢
    exact I.two j k ds ds' p n h1 h2 h3
theorem so_asg (i : Nat) {x : Str} (hN : X.N.Nodup) (h : ∀ z, EV X z e es s d s1) (k : SO X rest (es.set i (.val d)) s1 o) (hi : X.N[i]? = some x := by rfl) (hx : Loc X.env.scope x := by first | exact Or.inl rfl | exact Or.inr rfl)
    (hs : swapsWith e (some (.Name x p)) pos.line X.env = pure false := by rfl) (hf : X.fn x = true ∨ X.env.scope.names.lookup x = some .local := by first | exact .inl rfl | exact .inr rfl) : SO X (.Assign [.Name x p] e pos :: rest) es s o := fun z Hc H vol σ I D q =>
  ⟨_, pss_cons (ps_set hN hi hx wE_ok hs hf) wB_ok, h _ σ H I.en I.at_ _ fun v H1 e1 a1 v1 => k z Hc H1 vol _ (I.set e1 a1 i v1) D q⟩
/-- a block that leaves the own lists alone, by the rules of part 4 -/
theorem so_of (h : ∀ z, SR X z body es s (.rt d s1)) : SO X body es s (.rt d s1) := fun z Hc H vol σ I D q =>
  h _ σ H I.en I.at_ D fun v H1 e1 a1 v1 => q v H1 (I.ezc e1) (I.atz a1) (v1.re fun a o f h => ⟨f.of_own.1, h⟩)
theorem so_ifT (hc : ∀ z, ET X z c es s true s1) (h : SO X body es s1 (.rt d s2)) : SO X (.If c body els pos :: rest) es s (.rt d s2) := fun z Hc H vol σ I D q =>
  ⟨_, pss_cons (ps_if wT_ok wB_ok wB_never) wB_never, hc _ σ H I.en I.at_ _ fun H1 e1 a1 => iteT (h z Hc H1 vol σ (I.step e1 a1) _ q)⟩
theorem so_ifTn (hc : ∀ z, ET X z c es s true s1) (h : SO X body es s1 (.nx es2 s2)) (k : SO X rest es2 s2 o) : SO X (.If c body els pos :: rest) es s o := fun z Hc H vol σ I D q =>
  ⟨_, pss_cons (ps_if wT_ok wB_ok wB_never) wB_ok, hc _ σ H I.en I.at_ _ fun H1 e1 a1 => iteT (h z Hc H1 vol σ (I.step e1 a1) _ fun vol' σ' H' I' => k z Hc H' vol' σ' I' D q)⟩
theorem so_ifF (hc : ∀ z, ET X z c es s false s1) (k : SO X rest es s1 o) : SO X (.If c body [] pos :: rest) es s o := fun z Hc H vol σ I D q =>
  ⟨_, pss_cons (ps_if wT_ok wB_never pss_nil) wB_ok, hc _ σ H I.en I.at_ _ fun H1 e1 a1 => iteF (k z Hc H1 vol σ (I.step e1 a1) D q)⟩
theorem so_elFn (hc : ∀ z, ET X z c es s false s1) (h : SO X els es s1 (.nx es2 s2)) (k : SO X rest es2 s2 o) : SO X (.If c body els pos :: rest) es s o := fun z Hc H vol σ I D q =>
  ⟨_, pss_cons (ps_if wT_ok wB_never wB_ok) wB_ok, hc _ σ H I.en I.at_ _ fun H1 e1 a1 => iteF (h z Hc H1 vol σ (I.step e1 a1) _ fun vol' σ' H' I' => k z Hc H' vol' σ' I' D q)⟩
theorem so_expr (h : ∀ z, EV X z e es s d s1) (k : SO X rest es s1 o) (hs : swapsWith e none pos.line X.env = pure false := by rfl) : SO X (.Expr e pos :: rest) es s o := fun z Hc H vol σ I D q =>
  ⟨_, pss_cons (ps_expr wE_ok hs) wB_ok, h _ σ H I.en I.at_ _ fun v H1 e1 a1 v1 => k z Hc H1 vol σ (I.step e1 a1) D q⟩
/-! a new list, not yet known to anybody -/
def EN (X : Cx) (z : Z) (e : Expr) (es : List Sl) (s : S) (ds : List PyData) (s' : S) : Prop := ∀ σ H, En z H σ es → At z H s → ∀ Q : VK, (∀ p vs H1, Ez z H H1 → At z H1 s' → H1 p = none → DaAll z H1 vs ds → Q (.ref p) (upd H1 p (.lst vs))) → wE X e σ H Q
theorem en_lst {z : Z} (h : ED X z xs es s ds s') (hl : ds.length ≤ 100000 := by exact Nat.le_of_ble_eq_true rfl) : EN X z (.List xs pos) es s ds s' := fun σ H en at_ Q q => ⟨_, pe_lst wA_ok,
  h σ H en at_ _ fun vs H1 e1 a1 v1 => ⟨by rw [v1.length]; exact Nat.le_trans hl (by decide), fun p hp => q p vs H1 e1 a1 hp v1⟩⟩
theorem so_new (i : Nat) {x : Str} (hN : X.N.Nodup) (h : ∀ z, EN X z e es s ds s1) (k : SO X rest (es.set i (.own ds)) s1 o) (hi : X.N[i]? = some x := by rfl) (hx : Loc X.env.scope x := by first | exact Or.inl rfl | exact Or.inr rfl)
    (hs : swapsWith e (some (.Name x p)) pos.line X.env = pure false := by rfl) (hf : X.fn x = true ∨ X.env.scope.names.lookup x = some .local := by first | exact .inl rfl | exact .inr rfl) : SO X (.Assign [.Name x p] e pos :: rest) es s o := fun z Hc H vol σ I D q =>
  ⟨_, pss_cons (ps_set hN hi hx wE_ok hs hf) wB_ok, h _ σ H I.en I.at_ _ fun a vs H1 e1 a1 ha r => k z Hc _ ((a, .lst vs) :: vol) _ (by
    have nc : Hc a = none := by
      cases hh : Hc a with
      | none => rfl
      | some u =>
        have f : Fz (z.own vol) a := a1.fresh ha
        rw [I.ezc e1 a u f.of_own.1 hh] at ha
        cases ha
    have fa := a1.fresh ha
    have e2 : Ez (z.own vol) H1 (upd H1 a (.lst vs)) := .new ha
    have re : ∀ (b : Addr) (u : HO), Fz (z.own vol) b → H1 b = some u → Fz (z.own ((a, .lst vs) :: vol)) b ∧ upd H1 a (.lst vs) b = some u := fun b u fb hb => by
      have nb := ne_of_none hb ha
      refine ⟨⟨fb.1, fun o m => ?_⟩, by rw [upd_ne nb]; exact hb⟩
      rcases List.mem_cons.mp m with e | m
      · exact nb (congrArg Prod.fst e)
      · exact fb.2 o m
    have notin : ∀ u, (a, u) ∉ vol := fun u m => fa.2 u (List.mem_append_left _ m)
    refine ⟨?_, ?_, I.base, ⟨?_, ?_, ?_⟩, ?_, (I.ezc e1).trans (.new ha), ?_, ?_⟩
    · intro q hq
      rcases List.mem_cons.mp hq with e | m
      · rw [e]
        exact nc
      · exact I.new q m
    · show ((a :: vol.map (·.1)) : List Addr).Nodup
      refine List.nodup_cons.mpr ⟨fun m => ?_, I.nd⟩
      obtain ⟨q, hq, e⟩ := List.mem_map.mp m
      exact notin q.2 (by rw [← e]; exact hq)
    · intro b hb
      have := a1.d b hb
      rw [upd_ne (ne_of_none this ha)]
      exact this
    · intro q hq
      rcases List.mem_cons.mp hq with e | m
      · rw [e]
        exact upd_same
      · have := a1.v q m
        rw [upd_ne (ne_of_none this ha)]
        exact this
    · intro q hq
      rcases List.mem_cons.mp hq with e | m
      · rw [e]
        exact fa.1
      · exact a1.n q m
    · exact (En.re (z := z.own vol) (z' := z.own ((a, .lst vs) :: vol)) rfl (fun q m => List.mem_cons_of_mem _ m) re (I.en.mono e1)).set i (.own (List.mem_cons_self ..) (r.re re))
    · intro j ds' b h1 h2
      by_cases hj : i = j
      · subst hj
        by_cases hl : i < σ.length
        · rw [List.getElem?_set_self hl] at h2
          cases h2
          exact nc
        · rw [List.getElem?_eq_none (by rw [List.length_set]; omega)] at h2
          cases h2
      · rw [List.getElem?_set_ne hj] at h1 h2
        exact I.far j ds' b h1 h2
    · intro j l ds1 ds2 b n h1 h2 h3 h4
      have own_ne : ∀ {m : Nat} {ds' : List PyData}, i ≠ m → (es.set i (Sl.own ds))[m]? = some (.own ds') → (σ.set i (some (.ref a)))[m]? = some (some (.ref b)) → b ≠ a := fun {m ds'} hm g1 g2 e => by
        rw [List.getElem?_set_ne hm] at g1 g2
        subst e
        obtain ⟨y, hy, r⟩ := I.en.slot g1
        rw [g2] at hy
        cases hy
        cases r with
        | own mm _ =>
          have := a1.v _ mm
          rw [show H1 b = _ from this] at ha
          cases ha
      have self : ∀ {m : Nat}, i = m → (σ.set i (some (.ref a)))[m]? = some (some (.ref b)) → b = a := fun {m} hm g => by
        subst hm
        by_cases hl : i < σ.length
        · rw [List.getElem?_set_self hl] at g
          cases g
          rfl
        · rw [List.getElem?_eq_none (by rw [List.length_set]; omega)] at g
          cases g
      by_cases hj : i = j
      · exact own_ne (fun e => n (hj.symm.trans e)) h2 h4 (self hj h3)
      · by_cases hl : i = l
        · exact own_ne hj h1 h3 (self hl h4)
        · rw [List.getElem?_set_ne hj] at h1 h3
          rw [List.getElem?_set_ne hl] at h2 h4
          exact I.two j l ds1 ds2 b n h1 h2 h3 h4) D q⟩
/-- the list in slot i changed in place -/
theorem OI.write {z : Z} {Hc H H' : Hp} {vol : List (Addr × HO)} {σ : L2.St} {a : Addr} {vs vs' : List V} {ds' : List PyData} {i : Nat} (I : OI z Hc H vol σ es s) (h : es[i]? = some (.own ds)) (hy : σ[i]? = some (some (.ref a))) (m : (a, HO.lst vs) ∈ (z.own vol).vol)
    (e1 : Ez (z.own vol) H H') (a1 : At (z.own vol) H' s1) (r : DaAll (z.own vol) H' vs' ds') : ∃ vol', OI z Hc (upd H' a (.lst vs')) vol' σ (es.set i (.own ds')) s1 := by
  have hc := I.far i ds a h hy
  have mv : (a, HO.lst vs) ∈ vol := by
    rcases List.mem_append.mp m with m | m
    · exact m
    · exact absurd hc (I.base _ m)
  have nz : ∀ q ∈ z.vol, q.1 ≠ a := fun q hq e => I.base q hq (by rw [e]; exact hc)
  let g : Addr × HO → Addr × HO := fun q => if q.1 = a then (a, .lst vs') else q
  have g1 : ∀ q, (g q).1 = q.1 := fun q => by
    show (if q.1 = a then (a, HO.lst vs') else q).1 = q.1
    by_cases e : q.1 = a
    · rw [if_pos e, e]
    · rw [if_neg e]
  have gm : vol.map (fun q => (g q).1) = vol.map (·.1) := by
    congr 1
    funext q
    exact g1 q
  have keep : ∀ {q : Addr × HO}, q.1 ≠ a → g q = q := fun {q} hn => if_neg hn
  have re : ∀ (b : Addr) (u : HO), Fz (z.own vol) b → H' b = some u → Fz (z.own (vol.map g)) b ∧ upd H' a (.lst vs') b = some u := fun b u fb hb => by
    have nb : b ≠ a := fun e => fb.2 (.lst vs) (by rw [e]; exact List.mem_append_left _ mv)
    refine ⟨⟨fb.1, fun o mo => ?_⟩, by rw [upd_ne nb]; exact hb⟩
    rcases List.mem_append.mp mo with mo | mo
    · obtain ⟨q, hq, e⟩ := List.mem_map.mp mo
      have q1 : q.1 = b := by rw [← g1 q, e]
      have : g q = q := keep (by rw [q1]; exact nb)
      rw [this] at e
      exact fb.2 o (List.mem_append_left _ (by rw [← e]; exact hq))
    · exact fb.2 o (List.mem_append_right _ mo)
  refine ⟨vol.map g, ⟨?_, ?_, I.base, ⟨?_, ?_, ?_⟩, ?_, ?_, ?_, ?_⟩⟩
  · intro q hq
    obtain ⟨q0, h0, e⟩ := List.mem_map.mp hq
    rw [← e, g1]
    exact I.new q0 h0
  · rw [List.map_map]
    show (vol.map fun q => (g q).1).Nodup
    rw [gm]
    exact I.nd
  · intro b hb
    rw [upd_ne (fun e => a1.n _ m (by rw [← e]; exact hb))]
    exact a1.d b hb
  · intro q hq
    rcases List.mem_append.mp hq with mo | mo
    · obtain ⟨q0, h0, e⟩ := List.mem_map.mp mo
      by_cases hn : q0.1 = a
      · have : g q0 = (a, .lst vs') := if_pos hn
        rw [← e, this]
        exact upd_same
      · rw [← e, keep hn, upd_ne hn]
        exact a1.v q0 (List.mem_append_left _ h0)
    · rw [upd_ne (nz q mo)]
      exact a1.v q (List.mem_append_right _ mo)
  · intro q hq
    rcases List.mem_append.mp hq with mo | mo
    · obtain ⟨q0, h0, e⟩ := List.mem_map.mp mo
      rw [← e, g1]
      exact a1.n q0 (List.mem_append_left _ h0)
    · exact a1.n q (List.mem_append_right _ mo)
  · have en1 := I.en.mono e1
    have ma : (a, HO.lst vs') ∈ vol.map g := List.mem_map.mpr ⟨_, mv, if_pos rfl⟩
    refine En.by_slots (by rw [List.length_set, en1.length]) fun j x e hx he => ?_
    by_cases hj : i = j
    · subst hj
      have hl : i < es.length := (List.getElem?_eq_some_iff.mp h).1
      rw [List.getElem?_set_self hl] at he
      cases he
      rw [hy] at hx
      cases hx
      exact .own (List.mem_append_left _ ma) (r.re re)
    · rw [List.getElem?_set_ne hj] at he
      obtain ⟨y, hy2, rr⟩ := en1.slot he
      rw [hx] at hy2
      cases hy2
      cases rr with
      | un => exact .un
      | val d => exact .val (d.re re)
      | dice e => exact .dice e
      | raw => exact .raw
      | @own b ws es' mm k =>
        have nb : b ≠ a := fun e => I.two i j _ _ a hj h he hy (by rw [← e]; exact hx)
        refine .own ?_ (k.re re)
        rcases List.mem_append.mp mm with mm | mm
        · exact List.mem_append_left _ (List.mem_map.mpr ⟨_, mm, keep nb⟩)
        · exact List.mem_append_right _ mm
  · intro b u fb hb
    have nb : b ≠ a := fun e => by
      rw [e, hc] at hb
      cases hb
    rw [upd_ne nb]
    exact I.ezc e1 b u fb hb
  · intro j ds2 b h1 h2
    by_cases hj : i = j
    · subst hj
      rw [hy] at h2
      cases h2
      exact hc
    · rw [List.getElem?_set_ne hj] at h1
      exact I.far j ds2 b h1 h2
  · intro j l ds1 ds2 b n h1 h2 h3
    have back : ∀ {m : Nat} {ds2 : List PyData}, (es.set i (Sl.own ds'))[m]? = some (.own ds2) → ∃ ds3, es[m]? = some (.own ds3) := fun {m ds2} hm => by
      by_cases e : i = m
      · subst e
        exact ⟨ds, h⟩
      · rw [List.getElem?_set_ne e] at hm
        exact ⟨_, hm⟩
    obtain ⟨d3, h1'⟩ := back h1
    obtain ⟨d4, h2'⟩ := back h2
    exact I.two j l d3 d4 b n h1' h2' h3
end
end DL


set_option Elab.async false
set_option linter.all false
set_option maxRecDepth 100000
namespace DL
open PySem PySem.Spec PyProof.Rows L2
/-! ### 10. comprehensions without a test -/
section
variable {X : Cx} {z : Z} {es es1 es2 : List Sl} {s s1 s2 : S} {iter elt cond a b e : Expr} {ds fs : List PyData} {d d1 d2 : PyData} {o : Out} {rest body els : List Stmt} {pos p p1 p2 p3 p4 : Pos}
abbrev PgIn (X : Cx) (scope : Scope) (t : Expr) (g : TG) : Prop := ∀ (s : Shared) (H : Hp) (C : Addr) (cl : List (Str × Addr)) (fp : List Addr), PG (X.blk s H scope (compEnvC scope cl C X.env) fp) t g
theorem take_succ {ds : List PyData} {f : PyData → PyData} {i : Nat} {d : PyData} (h : ds[i]? = some d) : (ds.take (i + 1)).map f = (ds.take i).map f ++ [f d] := by
  rw [List.take_add_one, h, List.map_append]
  rfl
/-- [e for x in a list] -/
theorem ev_lcF {j : Nat} {x : Str} {scope : Scope} (hc : X.calm = true) (hN : X.N.Nodup) (f : PyData → PyData) (hit : EV X z iter es s (.list ds) s) (hl : ds.length ≤ 100000) (hB : BlkOk X.N X.env.scope scope [(x, j)]) (hg : PgIn X scope (.Name x p) (gName j))
    (He : ∀ d ∈ ds, ∀ z' : Z, Blk X scope fun Y => EV Y z' elt (es.set j (.val d)) s (f d) s) (hs : ∀ x, foldedSetIterable iter X.env x = pure x := by intro _; rfl) :
    EV X z (.ListComp elt [{ target := .Name x p, iter := iter, ifs := [], is_async := 0 }] scope pos) es s (.list (ds.map f)) s :=
  .mk (pe_lc (own := [(x, j)]) hc hN (pi_list wE_ok) hB hg (fun _ _ _ _ _ => pts_nil) tEl_ok hs) (by
    have g := lc_read (X := X) (te := tEl X scope elt) (tt := tYes) (j := j) hit hl (fun _ => true) (fun i => (ds.take i).map f) (fun _ => s) (fun _ => s) rfl rfl (fun z' i d hd σ H en at_ Q q => q H (.refl H) at_)
      (fun z' i d hd _ => ⟨f d, take_succ hd, fun σ H en at_ Q q s0 H0 C cl fp => He d (List.mem_of_getElem? hd) z' s0 H0 C cl fp σ H en at_ Q q⟩) (fun i d _ h => by cases h)
    rw [List.take_length] at g
    exact g)
/-- [e for x in a tuple] -/
theorem ev_lcFT {j : Nat} {x : Str} {scope : Scope} (hc : X.calm = true) (hN : X.N.Nodup) (f : PyData → PyData) (hit : EV X z iter es s (.tuple ds) s) (hl : ds.length ≤ 100000) (hB : BlkOk X.N X.env.scope scope [(x, j)]) (hg : PgIn X scope (.Name x p) (gName j))
    (He : ∀ d ∈ ds, ∀ z' : Z, Blk X scope fun Y => EV Y z' elt (es.set j (.val d)) s (f d) s) (hs : ∀ x, foldedSetIterable iter X.env x = pure x := by intro _; rfl) :
    EV X z (.ListComp elt [{ target := .Name x p, iter := iter, ifs := [], is_async := 0 }] scope pos) es s (.list (ds.map f)) s :=
  .mk (pe_lc (own := [(x, j)]) hc hN (pi_tup wE_ok) hB hg (fun _ _ _ _ _ => pts_nil) tEl_ok hs) fun σ H en at_ Q q => by
    refine hit σ H en at_ _ fun v H1 e1 a1 v1 => ?_
    cases v1 with
    | @tup a xs _ fa ha r =>
      have hx : xs.length = ds.length := r.length
      have g : ∀ i, i < xs.length → ds[i]? = some (ds.getD i .none) := fun i hi => by
        rw [List.getD_eq_getElem?_getD, List.getElem?_eq_getElem (by omega)]
        rfl
      refine ⟨a, rfl, ⟨xs, .inl (.inl ha)⟩, fun D hD => ?_⟩
      refine lc_gen (walk_tup (K := X.K) (a := a) (xs := xs)) (fun _ => s) (fun _ => s) (en.mono e1) a1 hD (fun i => ds.getD i .none) (fun H' e => .inl (.inl (e a _ fa ha))) (fun i x H' H2 hi hy => ⟨hy.1, ?_⟩) (by omega) (fun _ => true) (fun i => (ds.take i).map f) rfl (fun z' i hi σ H en at_ Q q => q H (.refl H) at_)
        (fun z' i hi _ => ⟨f (ds.getD i .none), take_succ (g i hi), fun σ H en at_ Q q s0 H0 C cl fp => He _ (List.mem_of_getElem? (g i hi)) z' s0 H0 C cl fp σ H en at_ Q q⟩) (fun i _ h => by cases h) (fun H' e a2 d2 => ?_)
      · obtain ⟨d, hd, hv⟩ := r.getV i x hy.2
        have := g i hi
        rw [hd] at this
        rw [← Option.some.inj this]
        exact hv
      · rw [hx, List.take_length] at d2
        exact q _ H' (e1.trans e) a2 d2
/-- [e for x in range(n)], the state going along -/
theorem ev_lcFR {j : Nat} {x : Str} {scope : Scope} {n : Nat} (hc : X.calm = true) (hN : X.N.Nodup) (hm : X.mg "range" = none) (f : Nat → PyData) (T : Nat → S) (hit : ED X z [a] es s [.int (n : Int)] s1) (t0 : T 0 = s1) (hl : n ≤ 100000) (hB : BlkOk X.N X.env.scope scope [(x, j)]) (hg : PgIn X scope (.Name x p) (gName j))
    (He : ∀ i : Nat, i < n → ∀ z' : Z, Blk X scope fun Y => EV Y z' elt (es.set j (.val (.int (i : Int)))) (T i) (f i) (T (i + 1))) (hgl : Gl X "range" := by rfl) (hst : starEach [a] X.env = [(false, eval a X.env)] := by rfl) (hs : ∀ x, foldedSetIterable (.Call (.Name "range" p1) [a] [] p2) X.env x = pure x := by intro _; rfl) :
    EV X z (.ListComp elt [{ target := .Name x p, iter := .Call (.Name "range" p1) [a] [] p2, ifs := [], is_async := 0 }] scope pos) es s (.list ((List.range n).map f)) (T n) :=
  .mk (pe_lc (own := [(x, j)]) hc hN (pi_range1 hgl hm wA_ok hst) hB hg (fun _ _ _ _ _ => pts_nil) tEl_ok hs) fun σ H en at_ Q q => by
    refine hit σ H en at_ _ fun vs H1 e1 a1 v1 => ?_
    cases v1 with
    | cons h r =>
      cases r
      cases h
      refine ⟨(n : Int), rfl, by omega, by omega, fun D hD => ?_⟩
      rw [Int.toNat_natCast]
      refine lc_gen (walk_range (lo := 0) (n := n)) T T (en.mono e1) (t0 ▸ a1) hD (fun i => .int (i : Int)) (fun H' e => trivial) (fun i x H' H2 hi hy => ⟨hy.1, ?_⟩) hl (fun _ => true) (fun i => (List.range i).map f) rfl (fun z' i hi σ H en at_ Q q => q H (.refl H) at_)
        (fun z' i hi _ => ⟨f i, by rw [List.range_succ, List.map_append]; rfl, fun σ H en at_ Q q s0 H0 C cl fp => He i hi z' s0 H0 C cl fp σ H en at_ Q q⟩) (fun i _ h => by cases h) (fun H' e a2 d2 => q _ H' (e1.trans e) a2 d2)
      rw [hy.2]
      show Da z H1 (.int (0 + (i : Int))) _
      rw [Int.zero_add]
      exact .int _
/-- [e for x, y in a list of pairs] -/
theorem ev_lcP {j k : Nat} {x y : Str} {scope : Scope} {kt : Nat} (hc : X.calm = true) (hN : X.N.Nodup) (hjk : j ≠ k) (ps : List (PyData × PyData)) (f : PyData × PyData → PyData) (hit : EV X z iter es s (.list (ps.map fun q => .tuple [q.1, q.2])) s) (hl : ps.length ≤ 100000) (hB : BlkOk X.N X.env.scope scope [(x, j), (y, k)])
    (hg : PgIn X scope (.Tuple [.Name x p, .Name y p1] kt p2) (gTup X.K 2 (gCons (gName j) (gCons (gName k) gNil))))
    (He : ∀ q ∈ ps, ∀ z' : Z, Blk X scope fun Y => EV Y z' elt ((es.set j (.val q.1)).set k (.val q.2)) s (f q) s) (hs : ∀ x, foldedSetIterable iter X.env x = pure x := by intro _; rfl) :
    EV X z (.ListComp elt [{ target := .Tuple [.Name x p, .Name y p1] kt p2, iter := iter, ifs := [], is_async := 0 }] scope pos) es s (.list (ps.map f)) s :=
  .mk (pe_lc (own := [(x, j), (y, k)]) hc hN (pi_list wE_ok) hB hg (fun _ _ _ _ _ => pts_nil) tEl_ok hs) fun σ H en at_ Q q => by
    refine hit σ H en at_ _ fun v H1 e1 a1 v1 => ?_
    cases v1 with
    | @lst a xs _ fa ha r =>
      have hx : xs.length = ps.length := by rw [r.length, List.length_map]
      have g : ∀ i, i < xs.length → ps[i]? = some (ps.getD i (.none, .none)) := fun i hi => by
        rw [List.getD_eq_getElem?_getD, List.getElem?_eq_getElem (by omega)]
        rfl
      refine ⟨a, rfl, ⟨xs, .inl (.inl ha)⟩, fun D hD => ?_⟩
      refine lc_two (K := X.K) (walk_list (K := X.K) (a := a) (xs := xs)) (fun _ => s) (fun _ => s) (en.mono e1) a1 hD hjk (fun i => (ps.getD i (.none, .none)).1) (fun i => (ps.getD i (.none, .none)).2) (fun H' e => .inl (.inl (e a _ fa ha))) (fun i x H' H2 hi eH hy => ?_) (by omega) (fun _ => true) (fun i => (ps.take i).map f) rfl
        (fun z' i hi σ H en at_ Q q => q H (.refl H) at_) (fun z' i hi _ => ⟨f (ps.getD i (.none, .none)), by rw [List.take_add_one, g i hi, List.map_append]; rfl, fun σ H en at_ Q q s0 H0 C cl fp => He _ (List.mem_of_getElem? (g i hi)) z' s0 H0 C cl fp σ H en at_ Q q⟩) (fun i _ h => by cases h) (fun H' e a2 d2 => ?_)
      · obtain ⟨d, hd, hv⟩ := r.getV i x hy.2
        rw [List.getElem?_map, g i hi] at hd
        have e0 : PyData.tuple [(ps.getD i (.none, .none)).1, (ps.getD i (.none, .none)).2] = d := Option.some.inj hd
        subst e0
        cases hv with
        | @tup t us _ ft ht rt =>
          cases rt with
          | cons h1 rt =>
            cases rt with
            | cons h2 rt =>
              cases rt
              exact ⟨t, _, _, rfl, .inl (.inl (by rw [hy.1]; exact eH t _ ft ht)), .inl hy.1, h1, h2⟩
      · rw [hx, List.take_length] at d2
        exact q _ H' (e1.trans e) a2 d2
/-- [e for x, y in zip(a, b)], two lists of one length -/
theorem ev_lcZ {j k : Nat} {x y : Str} {scope : Scope} {kt : Nat} (hc : X.calm = true) (hN : X.N.Nodup) (hm : X.mg "zip" = none) (hjk : j ≠ k) (f : PyData → PyData → PyData) (hit : ED X z [a, b] es s [.list ds, .list fs] s) (hlen : ds.length = fs.length) (hl : ds.length ≤ 100000) (hB : BlkOk X.N X.env.scope scope [(x, j), (y, k)])
    (hg : PgIn X scope (.Tuple [.Name x p, .Name y p1] kt p2) (gTup X.K 2 (gCons (gName j) (gCons (gName k) gNil))))
    (He : ∀ (i : Nat) (d1 d2 : PyData), ds[i]? = some d1 → fs[i]? = some d2 → ∀ z' : Z, Blk X scope fun Y => EV Y z' elt ((es.set j (.val d1)).set k (.val d2)) s (f d1 d2) s) (hgl : Gl X "zip" := by rfl) (hst : starEach [a, b] X.env = (false, eval a X.env) :: starEach [b] X.env := by rfl) (hpl : (backTo p4 (starEach [b] X.env)).any (·.1) = false := by rfl)
    (hs : ∀ x, foldedSetIterable (.Call (.Name "zip" p3) [a, b] [] p4) X.env x = pure x := by intro _; rfl) :
    EV X z (.ListComp elt [{ target := .Tuple [.Name x p, .Name y p1] kt p2, iter := .Call (.Name "zip" p3) [a, b] [] p4, ifs := [], is_async := 0 }] scope pos) es s (.list (List.zipWith f ds fs)) s :=
  .mk (pe_lc (own := [(x, j), (y, k)]) hc hN (pi_zip hgl hm wA_ok hst hpl) hB hg (fun _ _ _ _ _ => pts_nil) tEl_ok hs) fun σ H en at_ Q q => by
    refine hit σ H en at_ _ fun vs H1 e1 a1 v1 => ?_
    cases v1 with
    | cons h1 r =>
      cases r with
      | cons h2 r =>
        cases r
        cases h1 with
        | @lst a1' xs _ fa ha r1 =>
          cases h2 with
          | @lst b1' ys _ fb hb r2 =>
            have hx : xs.length = ds.length := r1.length
            have hy : ys.length = fs.length := r2.length
            have g1 : ∀ i, i < ds.length → ds[i]? = some (ds.getD i .none) := fun i hi => by
              rw [List.getD_eq_getElem?_getD, List.getElem?_eq_getElem hi]
              rfl
            have g2 : ∀ i, i < ds.length → fs[i]? = some (fs.getD i .none) := fun i hi => by
              rw [List.getD_eq_getElem?_getD, List.getElem?_eq_getElem (by omega)]
              rfl
            have zl : (List.zipWith f ds fs).length = ds.length := by rw [List.length_zipWith]; omega
            refine ⟨a1', b1', xs, ys, rfl, .inl (.inl ha), .inl (.inl hb), fun D hD => ?_⟩
            refine lc_two (K := X.K) (walk_zip (K := X.K) (a := a1') (b := b1') (xs := xs) (ys := ys) (n := ds.length) (by omega)) (fun _ => s) (fun _ => s) (en.mono e1) a1 hD hjk (fun i => ds.getD i .none) (fun i => fs.getD i .none) (fun H' e => ⟨.inl (.inl (e _ _ fa ha)), .inl (.inl (e _ _ fb hb))⟩) (fun i x H' H2 hi eH hY => ?_) hl (fun _ => true) (fun i => (List.zipWith f ds fs).take i) rfl
              (fun z' i hi σ H en at_ Q q => q H (.refl H) at_) (fun z' i hi _ => ⟨f (ds.getD i .none) (fs.getD i .none), by
                rw [List.take_add_one, List.getElem?_zipWith, g1 i hi, g2 i hi]
                rfl, fun σ H en at_ Q q s0 H0 C cl fp => He i _ _ (g1 i hi) (g2 i hi) z' s0 H0 C cl fp σ H en at_ Q q⟩) (fun i _ h => by cases h) (fun H' e a2 d2 => ?_)
            · obtain ⟨T, u, v, rfl, nT, rfl, hu, hv⟩ := hY
              obtain ⟨d, hd, hdu⟩ := r1.getV i u hu
              obtain ⟨d', hd', hdv⟩ := r2.getV i v hv
              rw [g1 i hi] at hd
              rw [g2 i hi] at hd'
              exact ⟨T, u, v, rfl, .inl (.inl upd_same), .inr ⟨nT, rfl⟩, by rw [Option.some.inj hd]; exact hdu, by rw [Option.some.inj hd']; exact hdv⟩
            · have : (List.zipWith f ds fs).take ds.length = List.zipWith f ds fs := List.take_of_length_le (by omega)
              rw [this] at d2
              exact q _ H' (e1.trans e) a2 d2
/-- [e for i, x in enumerate(a list)] -/
theorem ev_lcE {j k : Nat} {x y : Str} {scope : Scope} {kt : Nat} (hc : X.calm = true) (hN : X.N.Nodup) (hm : X.mg "enumerate" = none) (hjk : j ≠ k) (f : Nat → PyData → PyData) (hit : ED X z [a] es s [.list ds] s) (hl : ds.length ≤ 100000) (hB : BlkOk X.N X.env.scope scope [(x, j), (y, k)])
    (hg : PgIn X scope (.Tuple [.Name x p, .Name y p1] kt p2) (gTup X.K 2 (gCons (gName j) (gCons (gName k) gNil))))
    (He : ∀ (i : Nat) d, ds[i]? = some d → ∀ z' : Z, Blk X scope fun Y => EV Y z' elt ((es.set j (.val (.int (i : Int)))).set k (.val d)) s (f i d) s) (hgl : Gl X "enumerate" := by rfl) (hst : starEach [a] X.env = [(false, eval a X.env)] := by rfl)
    (hs : ∀ x, foldedSetIterable (.Call (.Name "enumerate" p3) [a] [] p4) X.env x = pure x := by intro _; rfl) :
    EV X z (.ListComp elt [{ target := .Tuple [.Name x p, .Name y p1] kt p2, iter := .Call (.Name "enumerate" p3) [a] [] p4, ifs := [], is_async := 0 }] scope pos) es s (.list (ds.mapIdx f)) s :=
  .mk (pe_lc (own := [(x, j), (y, k)]) hc hN (pi_enum hgl hm wA_ok hst) hB hg (fun _ _ _ _ _ => pts_nil) tEl_ok hs) fun σ H en at_ Q q => by
    refine hit σ H en at_ _ fun vs H1 e1 a1 v1 => ?_
    cases v1 with
    | cons h1 r =>
      cases r
      cases h1 with
      | @lst a1' xs _ fa ha r1 =>
        have hx : xs.length = ds.length := r1.length
        have g1 : ∀ i, i < xs.length → ds[i]? = some (ds.getD i .none) := fun i hi => by
          rw [List.getD_eq_getElem?_getD, List.getElem?_eq_getElem (by omega)]
          rfl
        refine ⟨a1', xs, rfl, .inl (.inl ha), fun D hD => ?_⟩
        refine lc_two (K := X.K) (walk_enum (K := X.K) (a := a1') (xs := xs)) (fun _ => s) (fun _ => s) (en.mono e1) a1 hD hjk (fun i => .int (i : Int)) (fun i => ds.getD i .none) (fun H' e => .inl (.inl (e _ _ fa ha))) (fun i x H' H2 hi eH hY => ?_) (by omega) (fun _ => true) (fun i => (ds.mapIdx f).take i) rfl
          (fun z' i hi σ H en at_ Q q => q H (.refl H) at_) (fun z' i hi _ => ⟨f i (ds.getD i .none), by
            rw [List.take_add_one, List.getElem?_mapIdx, g1 i hi]
            rfl, fun σ H en at_ Q q s0 H0 C cl fp => He i _ (g1 i hi) z' s0 H0 C cl fp σ H en at_ Q q⟩) (fun i _ h => by cases h) (fun H' e a2 d2 => ?_)
        · obtain ⟨T, u, v, rfl, nT, rfl, hu, hv⟩ := hY
          cases hu
          obtain ⟨d, hd, hdv⟩ := r1.getV i v hv
          rw [g1 i hi] at hd
          exact ⟨T, _, v, rfl, .inl (.inl upd_same), .inr ⟨nT, rfl⟩, .int _, by rw [Option.some.inj hd]; exact hdv⟩
        · have : (ds.mapIdx f).take xs.length = ds.mapIdx f := List.take_of_length_le (by rw [List.length_mapIdx]; omega)
          rw [this] at d2
          exact q _ H' (e1.trans e) a2 d2
end
end DL


set_option Elab.async false
set_option linter.all false
set_option maxRecDepth 100000
namespace DL
open PySem PySem.Spec PyProof.Rows L2
/-! ### 11. slices, repeats, tuples of lists; loops over lists -/
section
variable {X : Cx} {z : Z} {es es1 es2 : List Sl} {s s1 s2 s3 : S} {iter elt cond a b e : Expr} {ds fs : List PyData} {d d1 d2 : PyData} {o : Out} {rest body els : List Stmt} {pos p p1 p2 p3 p4 : Pos}
theorem DaAll.take {H : Hp} : ∀ {vs : List V} {ds : List PyData}, DaAll z H vs ds → ∀ n : Nat, DaAll z H (vs.take n) (ds.take n)
  | _, _, .nil, n => by simp only [List.take_nil]; exact .nil
  | _, _, .cons h r, 0 => .nil
  | _, _, .cons h r, n + 1 => .cons h (DaAll.take r n)
theorem DaAll.drop {H : Hp} : ∀ {vs : List V} {ds : List PyData}, DaAll z H vs ds → ∀ n : Nat, DaAll z H (vs.drop n) (ds.drop n)
  | _, _, .nil, n => by simp only [List.drop_nil]; exact .nil
  | _, _, .cons h r, 0 => .cons h r
  | _, _, .cons h r, n + 1 => DaAll.drop r n
theorem DaAll.rev {H : Hp} : ∀ {vs : List V} {ds : List PyData}, DaAll z H vs ds → DaAll z H vs.reverse ds.reverse
  | _, _, .nil => .nil
  | _, _, .cons h r => by
    rw [List.reverse_cons, List.reverse_cons]
    exact (DaAll.rev r).app (.cons h .nil)
theorem DaAll.rep {H : Hp} {vs : List V} {ds : List PyData} (h : DaAll z H vs ds) : ∀ n : Nat, DaAll z H (List.replicate n vs).flatten (List.replicate n ds).flatten
  | 0 => .nil
  | n + 1 => by
    rw [List.replicate_succ, List.replicate_succ, List.flatten_cons, List.flatten_cons]
    exact h.app (DaAll.rep h n)
/-- what a slice picks -/
def cutD (ds : List PyData) (lo hi : Option Int) : List PyData := (ds.drop (HT.sIx ds.length 0 lo)).take (HT.sIx ds.length ds.length hi - HT.sIx ds.length 0 lo)
theorem DaAll.cut {H : Hp} {vs : List V} {ds : List PyData} (h : DaAll z H vs ds) (lo hi : Option Int) : DaAll z H (cutV vs lo hi) (cutD ds lo hi) := by
  unfold cutV cutD
  rw [h.length]
  exact (h.drop _).take _
/-- xs[:n], xs[n:] of a list -/
theorem ev_slTo {i : Int} (ha : EV X z a es s (.list ds) s1) (hb : EV X z b es s1 (.int i) s2) : EV X z (.Subscript a (.Slice none (some b) none p) pos) es s (.list (cutD ds none (some i))) s2 :=
  .mk (pe_slice sl_list wE_ok po_none (po_some wE_ok)) fun σ H en at_ Q q => ha σ H en at_ _ fun v H1 e1 a1 v1 => hb σ H1 (en.mono e1) a1 _ fun u H2 e2 a2 v2 => by
    cases v2
    cases v1 with
    | lst n e r => exact ⟨i, rfl, _, _, rfl, .inl (.inl (e2 _ _ n e)), fun p hp => q _ _ ((e1.trans e2).trans (.new hp)) (a2.new hp) (.lst (a2.fresh hp) upd_same (((r.cut none (some i)).mono e2).mono (.new hp)))⟩
theorem ev_slFrom {i : Int} (ha : EV X z a es s (.list ds) s1) (hb : EV X z b es s1 (.int i) s2) : EV X z (.Subscript a (.Slice (some b) none none p) pos) es s (.list (cutD ds (some i) none)) s2 :=
  .mk (pe_slice sl_list wE_ok (po_some wE_ok) po_none) fun σ H en at_ Q q => ha σ H en at_ _ fun v H1 e1 a1 v1 => hb σ H1 (en.mono e1) a1 _ fun u H2 e2 a2 v2 => by
    cases v2
    cases v1 with
    | lst n e r => exact ⟨i, rfl, _, _, rfl, .inl (.inl (e2 _ _ n e)), fun p hp => q _ _ ((e1.trans e2).trans (.new hp)) (a2.new hp) (.lst (a2.fresh hp) upd_same (((r.cut (some i) none).mono e2).mono (.new hp)))⟩
theorem ev_rev {k : Nat} (ha : EV X z a es s (.list ds) s1) : EV X z (.Subscript a (.Slice none none (some (.UnaryOp .USub (.Constant (.int 1) k p1) p2)) p3) pos) es s (.list ds.reverse) s1 :=
  .mk (pe_revL wE_ok) fun σ H en at_ Q q => ha σ H en at_ _ fun v H1 e1 a1 v1 => by
    cases v1 with
    | lst n e r => exact ⟨_, _, rfl, .inl (.inl e), fun p hp => q _ _ (e1.trans (.new hp)) (a1.new hp) (.lst (a1.fresh hp) upd_same (r.rev.mono (.new hp)))⟩
/-- [..] * n -/
theorem ev_rep {n : Int} (hn : n < 100000) (hn0 : -100000 < n) (hl : ds.length * n.toNat ≤ 100000) (ha : EV X z a es s (.list ds) s1) (hb : EV X z b es s1 (.int n) s2) : EV X z (.BinOp a .Mult b pos) es s (.list (List.replicate n.toNat ds).flatten) s2 :=
  ev_opR (f := binaryOp .Mult) op_rep (fun u v H at_ hu hv Q q => by
    cases hv
    cases hu with
    | lst n1 e1 r1 =>
      exact ⟨_, n, _, rfl, rfl, e1, by omega, by omega, by rw [r1.length]; exact Nat.le_trans hl (by decide), fun p hp => q _ _ (.new hp) (at_.new hp) (.lst (at_.fresh hp) upd_same ((r1.rep n.toNat).mono (.new hp)))⟩) ha hb
/-- tuple(a list), list(a tuple), list(a list) -/
theorem rb_tuple {K : PySem.W.Frag} : RB z s (fun xs H Q => ∃ p ys, xs = [.ref p] ∧ ((SqL K H p ys ∧ ∀ l, H l = none → Q (.ref l) (upd H l (.tup ys))) ∨ (SqT K H p ys ∧ Q (.ref p) H))) [.list ds] (.tuple ds) := fun vs H at_ h Q q => by
  cases h with
  | cons h r =>
    cases r
    cases h with
    | lst n e r => exact ⟨_, _, rfl, .inl ⟨.inl (.inl e), fun l hl => q _ _ (.new hl) (at_.new hl) (.tup (at_.fresh hl) upd_same (r.mono (.new hl)))⟩⟩
theorem rb_listT {K : PySem.W.Frag} : RB z s (fun xs H Q => ∃ p ys, xs = [.ref p] ∧ (SqL K H p ys ∨ SqT K H p ys) ∧ ∀ l, H l = none → Q (.ref l) (upd H l (.lst ys))) [.tuple ds] (.list ds) := fun vs H at_ h Q q => by
  cases h with
  | cons h r =>
    cases r
    cases h with
    | tup n e r => exact ⟨_, _, rfl, .inr (.inl (.inl e)), fun l hl => q _ _ (.new hl) (at_.new hl) (.lst (at_.fresh hl) upd_same (r.mono (.new hl)))⟩
theorem rb_listL {K : PySem.W.Frag} : RB z s (fun xs H Q => ∃ p ys, xs = [.ref p] ∧ (SqL K H p ys ∨ SqT K H p ys) ∧ ∀ l, H l = none → Q (.ref l) (upd H l (.lst ys))) [.list ds] (.list ds) := fun vs H at_ h Q q => by
  cases h with
  | cons h r =>
    cases r
    cases h with
    | lst n e r => exact ⟨_, _, rfl, .inl (.inl (.inl e)), fun l hl => q _ _ (.new hl) (at_.new hl) (.lst (at_.fresh hl) upd_same (r.mono (.new hl)))⟩
/-- for x in a list -/
theorem sr_forL (l : Nat) {x : Str} (hp : PassesOwn (model X.prog X.w) X.A X.env X.xe) (hc : X.calm = true) (hN : X.N.Nodup) (h : EV X z iter es s (.list ds) s1) (E : Nat → List Sl) (T : Nat → S) (h0 : Le es (E 0)) (t0 : T 0 = s1)
    (hb : ∀ (i : Nat) d, ds[i]? = some d → SR X z body ((E i).set l (.val d)) (T i) (.nx (E (i + 1)) (T (i + 1)))) (k : SR X z rest (E ds.length) (T ds.length) o)
    (hi : X.N[l]? = some x := by rfl) (hx : Loc X.env.scope x := by first | exact Or.inl rfl | exact Or.inr rfl) (hf : X.fn x = true ∨ X.env.scope.names.lookup x = some .local := by first | exact .inl rfl | exact .inr rfl) (hfo : ∀ x, foldedSetIterable iter X.env x = pure x := by intro _; rfl) :
    SR X z (.For (.Name x p) iter body [] pos :: rest) es s o := fun σ H en at_ D q =>
  ⟨_, pss_cons (ps_for hp hc (pi_list wE_ok) (pg_name hN hi hx hf) wB_ok hfo) wB_ok, h σ H en at_ _ fun v H1 e1 a1 v1 => by
    cases v1 with
    | @lst a xs _ fa ha r =>
      have hx : xs.length = ds.length := r.length
      refine ⟨a, rfl, ⟨xs, .inl (.inl ha)⟩, for_list (xs := xs) (fun i σ' H' => Ez z H1 H' ∧ At z H' (T i) ∧ En z H' σ' (E i)) ⟨.refl _, t0 ▸ a1, (en.mono e1).le h0⟩ (fun i σ' H' _ w => .inl (.inl (w.1 a _ fa ha))) (fun i x σ' H' hi w => ?_) fun σ' H' w => ?_⟩
      · obtain ⟨d, hd, hv⟩ := r.getV i x hi
        exact hb i d hd _ H' (w.2.2.set l (.val (hv.mono w.1))) w.2.1 _ fun σ2 H2 e2 a2 n2 => ⟨w.1.trans e2, a2, n2⟩
      · rw [hx] at w
        exact k σ' H' w.2.2 w.2.1 D (q.mono (e1.trans w.1))⟩
/-- for x, y in a list of pairs -/
theorem sr_forP (l m : Nat) {x y : Str} {kt : Nat} (hp : PassesOwn (model X.prog X.w) X.A X.env X.xe) (hc : X.calm = true) (hN : X.N.Nodup) (ps : List (PyData × PyData)) (h : EV X z iter es s (.list (ps.map fun q => .tuple [q.1, q.2])) s1) (E : Nat → List Sl) (T : Nat → S) (h0 : Le es (E 0)) (t0 : T 0 = s1)
    (hb : ∀ (i : Nat) q, ps[i]? = some q → SR X z body (((E i).set l (.val q.1)).set m (.val q.2)) (T i) (.nx (E (i + 1)) (T (i + 1)))) (k : SR X z rest (E ps.length) (T ps.length) o)
    (hg : PG X (.Tuple [.Name x p1, .Name y p2] kt p3) (gTup X.K 2 (gCons (gName l) (gCons (gName m) gNil)))) (hfo : ∀ x, foldedSetIterable iter X.env x = pure x := by intro _; rfl) :
    SR X z (.For (.Tuple [.Name x p1, .Name y p2] kt p3) iter body [] pos :: rest) es s o := fun σ H en at_ D q =>
  ⟨_, pss_cons (ps_for hp hc (pi_list wE_ok) hg wB_ok hfo) wB_ok, h σ H en at_ _ fun v H1 e1 a1 v1 => by
    cases v1 with
    | @lst a xs _ fa ha r =>
      have hx : xs.length = ps.length := by rw [r.length, List.length_map]
      refine ⟨a, rfl, ⟨xs, .inl (.inl ha)⟩, for_list (xs := xs) (fun i σ' H' => Ez z H1 H' ∧ At z H' (T i) ∧ En z H' σ' (E i)) ⟨.refl _, t0 ▸ a1, (en.mono e1).le h0⟩ (fun i σ' H' _ w => .inl (.inl (w.1 a _ fa ha))) (fun i x σ' H' hi w => ?_) fun σ' H' w => ?_⟩
      · obtain ⟨d, hd, hv⟩ := r.getV i x hi
        rw [List.getElem?_map] at hd
        cases hq : ps[i]? with
        | none =>
          rw [hq] at hd
          cases hd
        | some pq =>
          rw [hq] at hd
          cases Option.some.inj hd
          cases hv with
          | @tup t us _ ft ht rt =>
            cases rt with
            | cons h1 rt =>
              cases rt with
              | cons h2 rt =>
                cases rt
                refine ⟨t, _, rfl, .inl (.inl (w.1 t _ ft ht)), rfl, _, _, rfl, _, _, rfl, rfl, ?_⟩
                exact hb i pq hq _ H' ((w.2.2.set l (.val (h1.mono w.1))).set m (.val (h2.mono w.1))) w.2.1 _ fun σ2 H2 e2 a2 n2 => ⟨w.1.trans e2, a2, n2⟩
      · rw [hx] at w
        exact k σ' H' w.2.2 w.2.1 D (q.mono (e1.trans w.1))⟩
/-! ### lists of one's own: read -/
theorem ev_lenO (i : Nat) {x y : Str} (hm : X.mg y = none) (h : es[i]? = some (.own ds) := by rfl) (hN : X.N[i]? = some x := by rfl) (hvi : Vis X.env.scope x := by first | exact Or.inl rfl | exact Or.inr (Or.inl rfl) | exact Or.inr (Or.inr rfl)) (hd : (x == ("__debug__" : Str)) = false := by decide) (hcd : (x == ("__classdict__" : Str)) = false := by decide)
    (hv : bootBuiltins y = some (.builtin "len") := by decide +kernel) (hg : Gl X y := by rfl) (hn : y ≠ "__name__" := by decide) (hdb : (y == ("__debug__" : Str)) = false := by decide) (hs : starEach [.Name x p] X.env = (false, eval (.Name x p) X.env) :: starEach [] X.env := by rfl) (hpl : (backTo pos (starEach [] X.env)).any (·.1) = false := by rfl) :
    EV X z (.Call (.Name y p1) [.Name x p] [] pos) es s (.int ds.length) s :=
  .mk (pe_callB call_len hg hm hv (pa_cons (pe_var hN hvi hd hcd) pa_nil hs) hn hdb hs hpl) fun σ H en at_ Q q => by
    obtain ⟨y, hy, r⟩ := en.slot h
    cases r with
    | @own a vs _ m k => exact ⟨_, hy, _, ds.length, rfl, .inl ⟨vs, .inl (.inl (at_.v _ m)), k.length.symm⟩, q _ H (.refl H) at_ (.int _)⟩
theorem ev_ixO (i : Nat) {x : Str} {j : Int} (hb : EV X z b es s (.int j) s1) (ha : atI ds j = some d) (h : es[i]? = some (.own ds) := by rfl) (hN : X.N[i]? = some x := by rfl) (hvi : Vis X.env.scope x := by first | exact Or.inl rfl | exact Or.inr (Or.inl rfl) | exact Or.inr (Or.inr rfl)) (hd : (x == ("__debug__" : Str)) = false := by decide) (hcd : (x == ("__classdict__" : Str)) = false := by decide)
    (hs : PlainIx b := by intro _ _; rfl) : EV X z (.Subscript (.Name x p) b pos) es s d s1 :=
  .mk (pe_ix ix_list (pe_var hN hvi hd hcd) wE_ok hs) fun σ H en at_ Q q => by
    obtain ⟨y, hy, r⟩ := en.slot h
    cases r with
    | @own a vs _ m k =>
      refine ⟨_, hy, hb σ H en at_ _ fun u H2 e2 a2 v2 => ?_⟩
      cases v2
      obtain ⟨v, k1, k2⟩ := atI_rel (k.mono e2) ha
      exact ⟨a, vs, j, v, rfl, rfl, .inl (.inl (a2.v _ m)), k1, q _ H2 e2 a2 k2⟩
/-- own != e, own == e -/
theorem et_neO (i : Nat) {x : Str} (hu : X.A.units + 64 < cLine) (p1' : Pl (.list ds)) (p2' : Pl d) (hb : EV X z b es s d s1) (h : es[i]? = some (.own ds) := by rfl) (hN : X.N[i]? = some x := by rfl) (hvi : Vis X.env.scope x := by first | exact Or.inl rfl | exact Or.inr (Or.inl rfl) | exact Or.inr (Or.inr rfl)) (hd : (x == ("__debug__" : Str)) = false := by decide) (hcd : (x == ("__classdict__" : Str)) = false := by decide) :
    ET X z (.Compare (.Name x p) [.NotEq] [b] pos) es s (!PyData.eqv (.list ds) d) s1 := fun σ H en at_ Q q => ⟨_, pt_cmpR (op_neD hu) (pe_var hN hvi hd hcd) wE_ok (nomark _), by
    obtain ⟨y, hy, r⟩ := en.slot h
    cases r with
    | @own a vs _ m k =>
      refine ⟨_, hy, hb σ H en at_ _ fun u H2 e2 a2 v2 => ?_⟩
      exact ⟨_, d, .lst (.inl (.inl (a2.v _ m))) ((k.mono e2).dp p1'.1), v2.dp p2'.1, p1'.2, p2'.2, _, rfl, q H2 e2 a2⟩⟩
/-- tuple(own) -/
theorem ev_tupO (i : Nat) {x y : Str} (hm : X.mg y = none) (h : es[i]? = some (.own ds) := by rfl) (hN : X.N[i]? = some x := by rfl) (hvi : Vis X.env.scope x := by first | exact Or.inl rfl | exact Or.inr (Or.inl rfl) | exact Or.inr (Or.inr rfl)) (hd : (x == ("__debug__" : Str)) = false := by decide) (hcd : (x == ("__classdict__" : Str)) = false := by decide)
    (hv : bootBuiltins y = some (.type "tuple") := by decide +kernel) (hg : Gl X y := by rfl) (hn : y ≠ "__name__" := by decide) (hdb : (y == ("__debug__" : Str)) = false := by decide) (hs : starEach [.Name x p] X.env = (false, eval (.Name x p) X.env) :: starEach [] X.env := by rfl) (hpl : (backTo pos (starEach [] X.env)).any (·.1) = false := by rfl) :
    EV X z (.Call (.Name y p1) [.Name x p] [] pos) es s (.tuple ds) s :=
  .mk (pe_callTy call_tuple_of hg hm hv (pa_cons (pe_var hN hvi hd hcd) pa_nil hs) hn hdb hs hpl) fun σ H en at_ Q q => by
    obtain ⟨y, hy, r⟩ := en.slot h
    cases r with
    | @own a vs _ m k => exact ⟨_, hy, a, vs, rfl, .inl ⟨.inl (.inl (at_.v _ m)), fun l hl => q _ _ (.new hl) (at_.new hl) (.tup (at_.fresh hl) upd_same (k.mono (.new hl)))⟩⟩
end
/-! ### lists of one's own: written -/
section
variable {X : Cx} {es es1 es2 : List Sl} {s s1 s2 s3 : S} {cond a b e : Expr} {ds fs : List PyData} {d d1 d2 : PyData} {o : Out} {rest body els : List Stmt} {pos p p1 p2 p3 p4 apos cpos : Pos}
/-- xs[j] = e -/
theorem so_set (i : Nat) {x : Str} {j : Nat} (h : ∀ z, EV X z e es s d s1) (hb : ∀ z, EV X z b es s1 (.int (j : Int)) s2) (hj : j < ds.length) (hg : PG X (.Subscript (.Name x p) b p3) (gSub (tVar i) (wE X b) rSetL)) (kk : SO X rest (es.set i (.own (ds.set j d))) s2 o) (ho : es[i]? = some (.own ds) := by rfl)
    (hs : swapsWithSole [.Subscript (.Name x p) b p3] e pos.line X.env = pure false := by rfl) (hw : swappedStores [.Subscript (.Name x p) b p3] e X.env = pure none := by rfl) :
    SO X (.Assign [.Subscript (.Name x p) b p3] e pos :: rest) es s o := fun z Hc H vol σ I D q =>
  ⟨_, pss_cons (ps_asg wE_ok hg hs hw) wB_ok, h _ σ H I.en I.at_ _ fun v H1 e1 a1 v1 => by
    obtain ⟨y, hy, r⟩ := I.en.slot ho
    cases r with
    | @own a vs _ m k =>
      refine ⟨_, hy, hb _ σ H1 (I.en.mono e1) a1 _ fun u H2 e2 a2 v2 => ?_⟩
      cases v2
      have kl : vs.length = ds.length := k.length
      have r2 : DaAll (z.own vol) H2 (vs.set j v) (ds.set j d) := by
        have k2 := k.mono (e1.trans e2)
        have w2 := v1.mono e2
        clear I kk
        revert j
        intro j hb hj
        have gen : ∀ (vs : List V) (ds : List PyData) (j : Nat), DaAll (z.own vol) H2 vs ds → DaAll (z.own vol) H2 (vs.set j v) (ds.set j d) := by
          intro vs
          induction vs with
          | nil => intro ds j h; cases h; exact .nil
          | cons x vs ih =>
            intro ds j h
            cases h with
            | cons h1 h2 =>
              cases j with
              | zero => exact .cons w2 h2
              | succ j => exact .cons h1 (ih _ j h2)
        exact gen vs ds j k2
      obtain ⟨vol', I'⟩ := I.write ho hy m (e1.trans e2) a2 r2
      exact ⟨a, vs, (j : Int), j, rfl, rfl, a2.v _ m, (by unfold ixN; rw [if_pos (by omega), if_pos (by omega)]; simp), kk z Hc _ vol' σ I' D q⟩⟩
/-- xs.append(e) -/
theorem so_app (i : Nat) {x : Str} (h : ∀ z, EV X z e es s d s1) (hl : ds.length < 100000) (kk : SO X rest (es.set i (.own (ds ++ [d]))) s1 o) (ho : es[i]? = some (.own ds) := by rfl) (hN : X.N[i]? = some x := by rfl) (hv : Vis X.env.scope x := by first | exact Or.inl rfl | exact Or.inr (Or.inl rfl) | exact Or.inr (Or.inr rfl))
    (hd : (x == ("__debug__" : Str)) = false := by decide) (hcd : (x == ("__classdict__" : Str)) = false := by decide) (hbase : attributeBase (.Name x p) "append" X.env (eval (.Name x p) X.env) = eval (.Name x p) X.env := by rfl)
    (hfew : ((backTo cpos (starEach (e :: []) X.env)).all (fun x => !x.1) && (backToKw cpos (keywordEach [] X.env)).all (fun x => x.1.isSome) && decide ((e :: []).length + ([] : List Keyword).length + (if ([] : List Keyword).isEmpty then 0 else 1) < 30)) = true := by rfl)
    (hline : (apos.endLine == cpos.line) = true := by rfl) (hse : starEach (e :: []) X.env = (false, eval e X.env) :: starEach [] X.env := by rfl) (hpl : (backTo cpos (starEach [] X.env)).any (·.1) = false := by rfl) (hs : swapsWith (.Call (.Attribute (.Name x p) "append" apos) [e] [] cpos) none pos.line X.env = pure false := by rfl) :
    SO X (.Expr (.Call (.Attribute (.Name x p) "append" apos) [e] [] cpos) pos :: rest) es s o := fun z Hc H vol σ I D q =>
  ⟨_, pss_cons (ps_expr (pe_bm PySem.F.plainAttrs_list PySem.F.slot_list_append PySem.F.type_list_append mt_append (pe_var hN hv hd hcd) (pa_cons wE_ok pa_nil hse) hbase hfew hline hse hpl) hs) wB_ok, by
    obtain ⟨y, hy, r⟩ := I.en.slot ho
    cases r with
    | @own a vs _ m k =>
      refine ⟨_, hy, .inl ⟨rfl, vs, .inl (.inl (I.at_.v _ m))⟩, h _ σ H I.en I.at_ _ fun v H1 e1 a1 v1 => ?_⟩
      obtain ⟨vol', I'⟩ := I.write ho hy m e1 a1 ((k.mono e1).app (.cons v1 .nil))
      exact ⟨a, vs, v, rfl, rfl, a1.v _ m, by rw [k.length]; exact Nat.lt_of_lt_of_le hl (by decide), kk z Hc _ vol' σ I' D q⟩⟩
/-- xs.pop() -/
theorem so_pop (i : Nat) {x : Str} (hl : ds ≠ []) (kk : SO X rest (es.set i (.own ds.dropLast)) s o) (ho : es[i]? = some (.own ds) := by rfl) (hN : X.N[i]? = some x := by rfl) (hv : Vis X.env.scope x := by first | exact Or.inl rfl | exact Or.inr (Or.inl rfl) | exact Or.inr (Or.inr rfl))
    (hd : (x == ("__debug__" : Str)) = false := by decide) (hcd : (x == ("__classdict__" : Str)) = false := by decide) (hbase : attributeBase (.Name x p) "pop" X.env (eval (.Name x p) X.env) = eval (.Name x p) X.env := by rfl) (hline : (apos.endLine == cpos.line) = true := by rfl) (hs : swapsWith (.Call (.Attribute (.Name x p) "pop" apos) [] [] cpos) none pos.line X.env = pure false := by rfl) :
    SO X (.Expr (.Call (.Attribute (.Name x p) "pop" apos) [] [] cpos) pos :: rest) es s o := fun z Hc H vol σ I D q =>
  ⟨_, pss_cons (ps_expr (pe_bm0 PySem.F.plainAttrs_list PySem.F.slot_list_pop PySem.F.type_list_pop mt_pop (pe_var hN hv hd hcd) hbase hline) hs) wB_ok, by
    obtain ⟨y, hy, r⟩ := I.en.slot ho
    cases r with
    | @own a vs _ m k =>
      have kl : vs.length = ds.length := k.length
      have hp : 0 < vs.length := by
        rw [kl]
        exact List.length_pos_iff.mpr hl
      have r2 : DaAll (z.own vol) H vs.dropLast ds.dropLast := by
        rw [List.dropLast_eq_take, List.dropLast_eq_take, kl]
        exact k.take _
      obtain ⟨vol', I'⟩ := I.write ho hy m (.refl H) I.at_ r2
      exact ⟨_, hy, .inl ⟨rfl, vs, .inl (.inl (I.at_.v _ m))⟩, a, vs, vs[vs.length - 1], rfl, rfl, I.at_.v _ m, List.getElem?_eq_getElem (by omega), kk z Hc _ vol' σ I' D q⟩⟩
/-- while, by a word of what the slots hold -/
theorem so_whileW (hp : PassesOwn (model X.prog X.w) X.A X.env X.xe) (W : Nat → List Sl → S → Prop) {m0 : Nat} (h0 : W m0 es s)
    (hs : ∀ m es s, W m es s → ((∀ z, ET X z cond es s false s) ∧ SO X rest es s o) ∨ ((∀ z, ET X z cond es s true s) ∧ ∃ es' s' m', m' < m ∧ W m' es' s' ∧ SO X body es s (.nx es' s'))) : SO X (.While cond body [] pos :: rest) es s o := fun z Hc H vol σ I D q =>
  ⟨_, pss_cons (ps_while hp wT_ok wB_ok) wB_ok, fun m σ' H' => ∃ es' s' vol', W m es' s' ∧ OI z Hc H' vol' σ' es' s', ⟨m0, es, s, vol, h0, I⟩, fun m σ' H' w => by
    obtain ⟨es', s', vol', w1, I1⟩ := w
    rcases hs m es' s' w1 with ⟨h1, h2⟩ | ⟨h1, es2, s2, m', hl, w2, h2⟩
    · exact h1 _ σ' H' I1.en I1.at_ _ fun H1 e2 a2 => iteF (h2 z Hc H1 vol' σ' (I1.step e2 a2) D q)
    · refine h1 _ σ' H' I1.en I1.at_ _ fun H1 e2 a2 => iteT ⟨fun σ2 H2 => ∃ vol2, OI z Hc H2 vol2 σ2 es2 s2, fun σ2 H2 ⟨vol2, I2⟩ => ⟨m', hl, es2, s2, vol2, w2, I2⟩, ?_⟩
      exact h2 z Hc H1 vol' σ' (I1.step e2 a2) _ fun vol2 σ2 H2 I2 => ⟨vol2, I2⟩⟩
end
section
variable {P : Program} {w : World} {K : PySem.W.Frag} {mg : Str → Option Value} {base : Heap}
/-- a def that may hold lists of its own -/
theorem okO {x qual : Str} {st : Stmt} {f : Addr} {fd : FuncData} {N ps : List Str} {k : Nat} {R : Rel} (F : Fun K x qual st f fd) (Sc : FnScope N ps (defScope st)) (hl : ∀ as s d s', R as s d s' → as.length = ps.length) (hno : ∀ as s d s', R as s d s' → ∀ ds, Sl.own ds ∉ as)
    (hb : ∀ cdv A outer s0 H0 E, Ctx (cxOf CX0 P w K mg base N qual (defScope st) f cdv A outer s0 H0 E).nox k N → ∀ as s d s', R as s d s' → SO (cxOf CX0 P w K mg base N qual (defScope st) f cdv A outer s0 H0 E).nox (defBody st) (as ++ List.replicate (N.length - as.length) .un) s (.rt d s')) :
    FnOk P w K mg base CX0 (k + 1) f fd ps (spD R) := by
  refine F.ok Sc (fun vs H Q E h => ?_) (fun cdv A outer s0 H0 vs Q E hr h => ?_)
  · obtain ⟨z, as, s, d, s', hR, en, _⟩ := h
    have := en.length
    rw [List.length_map] at this
    rw [this]
    exact hl _ _ _ _ hR
  · obtain ⟨z, as, s, d, s', hR, en, at_, q⟩ := h
    have e1 : vs.length = as.length := by
      have := en.length
      rwa [List.length_map] at this
    have C : Ctx (cxOf CX0 P w K mg base N qual (defScope st) f cdv A outer s0 H0 E).nox k N := ⟨Sc.nd, rfl, PassesOwn.never, hr, hr.units⟩
    have none_own : ∀ (i : Nat) (ds : List PyData), (as ++ List.replicate (N.length - as.length) Sl.un)[i]? ≠ some (.own ds) := fun i ds h => by
      have m := List.mem_of_getElem? h
      rcases List.mem_append.mp m with m | m
      · exact hno _ _ _ _ hR ds m
      · have := List.eq_of_mem_replicate m
        cases this
    have zo : z.own [] = z := rfl
    have g := hb cdv A outer s0 H0 E C as s d s' hR z H0 H0 [] (L2.start N vs) ⟨fun q h => (by cases h), List.nodup_nil, fun p hp => (by rw [at_.v p hp]; exact fun h => by cases h), at_, by
      unfold L2.start
      rw [e1]
      exact en.app (.uns _), .refl H0, fun i ds p h => absurd h (none_own i ds), fun i j ds ds' p _ h => absurd h (none_own i ds)⟩ { nx := fun _ H' => Q .non H', rt := Q } (fun v H' e a n => q v H' e a n)
    exact ⟨_, wB_ok, g⟩
end
end DL


set_option Elab.async false
set_option linter.all false
set_option maxRecDepth 100000
namespace DL
open PySem PySem.Spec PyProof.Rows L2
/-! ### 12. math.lcm; enumerate over a tuple -/
def rLcm : List V → Hp → VK → Prop := fun vs H Q => ∃ a b : Int, vs = [.int a, .int b] ∧ a.natAbs < 2 ^ 64 ∧ b.natAbs < 2 ^ 64 ∧ Q (.int ((Nat.lcm a.natAbs b.natAbs : Nat) : Int)) H
section
variable {X : Cx}
theorem cr_lcm : CallR X (.builtin "math.lcm") rLcm := by
  intro pins s σ H vs us Q I r h
  obtain ⟨a, b, rfl, ha, hb, q⟩ := h
  obtain ⟨t, u, rfl⟩ := Vals.int2 r
  exact PySem.W.mc_lcm ha hb fun _ => ⟨.int _, H, I.tok _, ⟨_, rfl⟩, q⟩
theorem rb_lcm {z : Z} {s : S} {i j : Int} (hi : i.natAbs < 2 ^ 64) (hj : j.natAbs < 2 ^ 64) : RB z s rLcm [.int i, .int j] (.int (Nat.lcm i.natAbs j.natAbs : Nat)) := fun vs H at_ h Q q => by
  cases h with
  | cons h r =>
    cases h
    cases r with
    | cons h r =>
      cases h
      cases r
      exact ⟨i, j, rfl, hi, hj, q _ H (.refl H) at_ (.int _)⟩
end
/-- the two objects that enumerate(t) makes -/
abbrev itO (t : Addr) : Obj := { cls := .type "tuple_iterator", data := .fields #[.ref t, .int 0 0] }
abbrev enO (i : Addr) : Obj := { cls := .type "enumerate", data := .fields #[.none, .bool false, .ref i, rawInt 0, .none, .none] }
section
variable {prog : Program} {w : World} {A : Around} {E : Value → Shared → Prop} {s : Shared}
theorem enum_newT (t : Addr) (o : Obj) (items : Array Value) (n : Nat) (ho : o.cls = .type "tuple") (hd : o.data = .seq items n) :
    PySem.Meets (Builtin.«enumerate.__new__» ⟨[.type "enumerate", .ref t], []⟩) fun _ R s => s.heap.get? t = some o ∧ R (.ok (.ret (.ref (s.heap.push (itO t)).objs.size))) { s with heap := (s.heap.push (itO t)).push (enO s.heap.objs.size) } :=
  .of_wp fun prog w A R s h => by
    obtain ⟨hp, g, dr, tk, os⟩ := s
    obtain ⟨cls, dct, data, sl⟩ := o
    replace ho : cls = .type "tuple" := ho
    replace hd : data = .seq items n := hd
    subst ho hd
    have isT : Heap.IsTuple (Shared.heap ⟨hp, g, dr, tk, os⟩) t items := ⟨_, h.1, rfl, n, rfl⟩
    have hsub := sub_enumerate
    wp_walk using AutoSeq1.wpAny_loadPart' h.1
    refine wpAny_stack_any fun st => wpAny_pure ?_
    split
    case' h_1 c _ _ _ _ _ => cases (c == Value.type "enumerate")
    all_goals
      wp_walk using AutoSeq1.wpAny_loadPart' h.1, wpAny_pyIter_tuple isT
      exact ⟨_, rfl, h.2⟩
theorem call_enumT {t : Addr} {items : Array Value} {Q : Value → Shared → Prop} (hT : s.heap.IsTuple t items)
    (k : ∀ h', h' = (s.heap.push (itO t)).push (enO s.heap.objs.size) → Q (.ref (s.heap.objs.size + 1)) { s with heap := h' }) : wpAny (model prog w) A (call (.type "enumerate") [.ref t]) Q E s := by
  obtain ⟨o, ho, hc, n, hd⟩ := hT
  have sz : (s.heap.push (itO t)).objs.size = s.heap.objs.size + 1 := Heap.size_push ..
  refine callType_new F.called_enumerate (by decide) (F.typeCall_enumerate_1 _) (F.newCall_enumerate_1 _) (fun obj => F.args_object_init_2 obj _) F.entry_enumerate_new (enum_newT t o items n hc hd) ⟨ho, ?_⟩
  refine ⟨⟨_, Heap.get?_push_size (s.heap.push (itO t)) rfl, rfl⟩, ?_⟩
  have := k _ rfl
  rw [← sz] at this
  exact this
theorem enum_endT {e it t : Addr} {i : Nat} {items : Array Value} {old : Value} {Q : Option Value → Shared → Prop} (hh : A.handled = none)
    (he : IsEnum s.heap e it ((i : Nat) : Int) old) (hit : s.heap.IsTupleIter it t i) (ht : s.heap.IsTuple t items) (hx : items[i]? = none)
    (hQ : ∀ h', Heap.ExtBut it s.heap h' → Q none { s with heap := h' }) (hne : t ≠ it) (hl : i = items.size) : wpAny (model prog w) A (pyNext (.ref e)) Q E s := by
  subst hl
  exact wpAny_pyNext_enum_endD (Draws.tuple (A := A.in1) hh it t hne items) he ⟨hit, ht⟩ hQ
end
def IteT (K : PySem.W.Frag) (a : Addr) : It where
  go i H := ∃ (xs : List V) (x : V), SqT K H a xs ∧ xs[i]? = some x
  yld i H v H' := ∃ T x, v = .ref T ∧ H T = none ∧ H' = upd H T (.tup [.int (i : Nat), x]) ∧ ∀ xs, SqT K H a xs → xs[i]? = some x
  stop i H := ∃ xs : List V, SqT K H a xs ∧ xs.length = i
/-- where the enumerate object e, over the iterator at it, over the tuple at a, stands after i turns -/
structure EnT (a e it : Addr) (i : Nat) (h : Heap) : Prop where
  en : ∃ old, IsEnum h e it ((i : Nat) : Int) old
  tu : h.IsTupleIter it a i
  ne : e ≠ it
theorem EnT.far {a e it : Addr} {i : Nat} {h : Heap} {items : Array Value} (S : EnT a e it i h) (T : h.IsTuple a items) : a ≠ e ∧ a ≠ it := by
  obtain ⟨o, ho, hc, _⟩ := T
  obtain ⟨⟨old, he⟩, ⟨o2, h2, c2, _⟩, _⟩ := S
  constructor
  · rintro rfl
    rw [show h.get? a = _ from he] at ho
    cases ho
    injection hc with hc
    exact absurd hc (by decide)
  · rintro rfl
    rw [h2] at ho
    cases ho
    rw [c2] at hc
    injection hc with hc
    exact absurd hc (by decide)
theorem turn_enumT {P : Program} {w : World} {K : PySem.W.Frag} {elts : List Expr} {kk : Nat} {tpos : Pos} (a e it : Addr) : Turn P w K (.Tuple elts kk tpos) (IteT K a) [e, it] e (EnT a e it) := by
  have two : ∀ {b : Addr} {p : Addr → Prop}, p e → p it → b ∈ [e, it] → p b := fun h1 h2 hb => by
    rcases List.mem_cons.mp hb with rfl | hb
    · exact h1
    · rw [List.mem_singleton.mp hb]
      exact h2
  refine ⟨List.mem_cons_self .., fun i h S b => ?_, fun i h h' S k => ⟨S.en.imp fun _ q => k e (List.mem_cons_self ..) _ q, S.tu.at fun o q => k it (List.mem_cons_of_mem _ (List.mem_singleton.mpr rfl)) o q, S.ne⟩, ?_, ?_, fun A i s Q E S q => ?_⟩
  · refine two (p := fun b => ∃ o, h.get? b = some o ∧ ∀ v : Option Value, o.data ≠ Data.cell v) ?_ ?_
    · obtain ⟨old, q⟩ := S.en
      exact ⟨_, q, fun v x => nomatch x⟩
    · obtain ⟨o, q, _, d⟩ := S.tu
      exact ⟨o, q, fun v x => by rw [d] at x; cases x⟩
  · rintro X rfl rfl rfl calm i pins s σ H E I free S ⟨xs, x, hxs, hx⟩
    obtain ⟨its, rv, p, _⟩ := I.tuple hxs
    obtain ⟨u, hu, ru⟩ := rv.get hx
    obtain ⟨old, he⟩ := S.en
    obtain ⟨n1, n2⟩ := S.far p
    have gu : its.toArray[i]? = some u := by simpa using hu
    have lt : i < its.toArray.size := (Array.getElem?_eq_some_iff.mp gu).1
    have old_lt : ∀ b ∈ [e, it], b < s.heap.objs.size := fun b => two (p := fun b => b < s.heap.objs.size) (Heap.lt_size he) (by
      obtain ⟨o, q, _⟩ := S.tu
      exact Heap.lt_size q)
    refine wpAny_pyNext_enum_itemD (Draws.tuple (A := X.A.in1) (I.ok.hd calm) it a n2 its.toArray) he ⟨S.tu, p⟩ lt S.ne (fun m => ?_) fun v h1 tk hv out st made _ kept => ?_
    · rcases List.mem_cons.mp m with q | m
      · exact S.ne q
      · exact n1 (List.mem_singleton.mp m).symm
    rw [gu] at hv
    obtain rfl : u = v := Option.some.inj hv
    refine ⟨_, rfl, wpAny_letOwnedTupleGo_enum (s := { s with heap := h1, toks := tk + 1 }) out fun h2 en2 but => ?_⟩
    have made2 : h2.get? s.heap.objs.size = some { cls := .type "tuple", data := .seq #[.int i tk, u] } := by
      rw [but.2 _ (Nat.ne_of_gt (old_lt e (List.mem_cons_self ..)))]
      exact made
    refine ⟨.ref s.heap.objs.size, upd H s.heap.objs.size (.tup [.int (i : Nat), x]), ?_, rfl, ⟨_, x, rfl, I.hok.fresh (Nat.le_refl _), rfl, fun ys hy => by rw [I.tuple_inj hy hxs]; exact hx⟩, ⟨⟨u, ?_⟩, st.1.at fun o q => (but.2 it S.ne.symm).trans q, S.ne⟩, fun b hb => ?_⟩
    · refine I.turnedNew (ch := [e, it]) (fun b ob hb q => ?_) free (Nat.le_refl _) ⟨by show 2 ≤ sizeLine; decide, [.int i tk, u], .cons ⟨_, rfl⟩ (.cons ru .nil), ⟨_, made2, rfl, _, rfl⟩⟩
      have b1 : b ≠ e := fun z => hb (by simp [z])
      have b2 : b ≠ it := fun z => hb (by simp [z])
      rw [but.2 b b1]
      exact kept b ob b1 b2 q
    · rw [show ((i + 1 : Nat) : Int) = (i : Int) + 1 by omega]
      exact en2
    · rw [upd_ne (Nat.ne_of_lt (old_lt b hb))]
      exact (free b hb).1
  · rintro X rfl rfl rfl calm i pins s σ H E I free S ⟨xs, hxs, hl⟩
    obtain ⟨its, rv, p, _⟩ := I.tuple hxs
    obtain ⟨old, he⟩ := S.en
    have hl2 := rv.length
    obtain ⟨f0, f1, f2, f3, f4, f5⟩ := free it (List.mem_cons_of_mem _ (List.mem_singleton.mpr rfl))
    refine enum_endT (I.ok.hd calm) he S.tu p (by simp; omega) (fun h' eb => ⟨rfl, I.turned (t' := s.toks) (fun b o hb q => eb b o hb q) f0 f1 f3 f4 f5⟩) (S.far p).2 (by simp; omega)
  · obtain ⟨old, he⟩ := S.en
    exact wpAny_pyIter_enum he q
def iEnumT (K : PySem.W.Frag) (ta : TA) : TI := fun σ H R => ta σ H fun vs H1 => ∃ a xs, vs = [.ref a] ∧ SqT K H1 a xs ∧ R (IteT K a) H1
theorem pi_enumT {X : Cx} {e : Expr} {ta : TA} {p pos tpos : Pos} {elts : List Expr} {kk : Nat} (hg : Gl X "enumerate") (hm : X.mg "enumerate" = none) (ha : PA X [e] ta) (hs : starEach [e] X.env = [(false, eval e X.env)] := by rfl) : PI X (.Tuple elts kk tpos) (.Call (.Name "enumerate" p) [e] [] pos) (iEnumT X.K ta) :=
  ⟨fun pins s σ H R I h => by
    refine Call_ (ld_blt I hg hm boot_enumerate (PyProof.Rows.callWith_type1 (thn (ha.run pos pins s σ H _ I h) fun us s1 ⟨vs, H1, I1, rel, a, xs, hvs, hxs, q⟩ => ?_) hs rfl))
    subst hvs
    cases rel with
    | cons r0 r1 =>
      cases r1
      cases r0
      obtain ⟨its, _, p', _⟩ := I1.tuple hxs
      have z1 : (s1.heap.push (itO a)).objs.size = s1.heap.objs.size + 1 := Heap.size_push ..
      refine call_enumT p' fun h' eq => ?_
      subst eq
      have he : IsEnum ((s1.heap.push (itO a)).push (enO s1.heap.objs.size)) (s1.heap.objs.size + 1) s1.heap.objs.size 0 .none := by
        rw [← z1]
        exact Heap.get?_push_size (s1.heap.push (itO a)) rfl
      refine wpAny_pyIter_enum he ⟨s1.heap.objs.size + 1, [s1.heap.objs.size + 1, s1.heap.objs.size], _, _, H1, rfl, I1.kept (t' := s1.toks) fun b o x => Heap.get?_push_of_some _ (Heap.get?_push_of_some _ x), turn_enumT a _ _, ⟨⟨.none, he⟩, ⟨_, Heap.get?_push_of_some _ (Heap.get?_push_size _ rfl), rfl, rfl⟩, Nat.succ_ne_self _⟩, fun b hb => ?_, q⟩
      have ge : s1.heap.objs.size ≤ b := by
        rcases List.mem_cons.mp hb with rfl | hb
        · exact Nat.le_succ _
        · rw [List.mem_singleton.mp hb]
          exact Nat.le_refl _
      exact I1.fpOk ge (I1.hok.fresh ge)⟩
theorem walk_enumT {K : PySem.W.Frag} {a : Addr} {xs : List V} : Walk (IteT K a) xs.length (fun H => SqT K H a xs) (YPair (fun i => some (.int (i : Nat))) (fun i => xs[i]?)) where
  goes i _ hi q := ⟨xs, xs[i], q, by simp [hi]⟩
  stops _ q := ⟨xs, q, rfl⟩
  yields i H v H' _ q y := by
    obtain ⟨T, x, h1, h2, h3, h4⟩ := y
    exact ⟨T, .int (i : Nat), x, h1, h2, h3, rfl, h4 xs q⟩
end DL


set_option Elab.async false
set_option linter.all false
set_option maxRecDepth 100000
namespace DL
open PySem PySem.Spec PyProof.Rows L2
section
variable {X : Cx} {z : Z} {es es1 es2 fs : List Sl} {s s1 s2 s3 : S} {iter elt cond a b e : Expr} {ds fs' : List PyData} {d d1 d2 : PyData} {o : Out} {rest body els : List Stmt} {pos p p1 p2 p3 p4 : Pos} {xs : List Expr}
/-! ### in a tuple; cuts, sums, repeats of tuples; sums of lists; backwards -/
def rInT (K : PySem.W.Frag) : R2 := fun x y H Q => ∃ d ds, Dp K H x d ∧ Dp K H y (.tuple ds) ∧ SeqAt.shaped d = true ∧ SeqAt.shaped (.tuple ds) = true ∧ Q (.bl (ds.any fun z => PyData.eqv z d)) H
theorem op_inT (hu : X.A.units + 65 < cLine) : OpR X (compareOp .In) (rInT X.K) := by
  intro pins s σ H x y v u Q I rx ry h
  obtain ⟨d, ds, hd, he, sd, se, q⟩ := h
  obtain ⟨as, r1⟩ := Dp.reads I d x v hd rx
  obtain ⟨bs, r2⟩ := Dp.reads I (.tuple ds) y u he ry
  exact SeqAt.in_tuple_reads r2 r1 (SeqAt.canLay_of_shaped se) (SeqAt.canLay_of_shaped sd) (room_in_shaped sd hu) ⟨.bl _, H, I, rfl, q⟩
theorem rd_inT {K : PySem.W.Frag} (h1 : Pl d) (h2 : Pl (.tuple ds)) : RD z s (rInT K) d (.tuple ds) (.bool (ds.any fun z => PyData.eqv z d)) := fun x y H at_ hx hy Q q =>
  ⟨d, ds, hx.dp h1.1, hy.dp h2.1, h1.2, h2.2, q _ H (.refl H) at_ (.bl _)⟩
theorem et_inT (hu : X.A.units + 65 < cLine) (h1 : Pl d) (h2 : Pl (.tuple ds)) (ha : EV X z a es s d s1) (hb : EV X z b es s1 (.tuple ds) s2) (hm : behindInMarks .In b = false := by rfl) : ET X z (.Compare a [.In] [b] pos) es s (ds.any fun z => PyData.eqv z d) s2 :=
  et_cmpR (op_inT hu) (rd_inT h1 h2) ha hb hm
/-- own[j] in (..) -/
theorem cutD_length {lo hi : Option Int} : (cutD ds lo hi).length ≤ ds.length := by
  unfold cutD
  rw [List.length_take, List.length_drop]
  omega
theorem whole_cut {lo hi : Option Int} (h : HT.sIx ds.length 0 lo = 0 ∧ HT.sIx ds.length ds.length hi = ds.length) : cutD ds lo hi = ds := by
  unfold cutD
  rw [h.1, h.2, List.drop_zero, Nat.sub_zero, List.take_length]
theorem rs_tup {K : PySem.W.Frag} {H : Hp} {v : V} {lo hi : Option Int} (hv : Da z H v (.tuple ds)) (at_ : At z H s) {Q : VK} (q : ∀ v H2, Ez z H H2 → At z H2 s → Da z H2 v (.tuple (cutD ds lo hi)) → Q v H2) : rSlA K v lo hi H Q := by
  cases hv with
  | @tup a xs _ fa ha r =>
    refine ⟨a, xs, rfl, .inl (.inl ha), fun w => ?_, fun w p hp => ?_⟩
    · rw [r.length] at w
      exact q _ H (.refl H) at_ (by rw [whole_cut w]; exact .tup fa ha r)
    · exact q _ _ (.new hp) (at_.new hp) (.tup (at_.fresh hp) upd_same ((r.cut lo hi).mono (.new hp)))
/-- t[:n], t[n:] -/
theorem ev_slToT {i : Int} (ha : EV X z a es s (.tuple ds) s1) (hb : EV X z b es s1 (.int i) s2) : EV X z (.Subscript a (.Slice none (some b) none p) pos) es s (.tuple (cutD ds none (some i))) s2 :=
  .mk (pe_slice sl_tupA wE_ok po_none (po_some wE_ok)) fun σ H en at_ Q q => ha σ H en at_ _ fun v H1 e1 a1 v1 => hb σ H1 (en.mono e1) a1 _ fun u H2 e2 a2 v2 => by
    cases v2
    exact ⟨i, rfl, rs_tup (v1.mono e2) a2 fun v H3 e3 a3 v3 => q v H3 ((e1.trans e2).trans e3) a3 v3⟩
theorem ev_slFromT {i : Int} (ha : EV X z a es s (.tuple ds) s1) (hb : EV X z b es s1 (.int i) s2) : EV X z (.Subscript a (.Slice (some b) none none p) pos) es s (.tuple (cutD ds (some i) none)) s2 :=
  .mk (pe_slice sl_tupA wE_ok (po_some wE_ok) po_none) fun σ H en at_ Q q => ha σ H en at_ _ fun v H1 e1 a1 v1 => hb σ H1 (en.mono e1) a1 _ fun u H2 e2 a2 v2 => by
    cases v2
    exact ⟨i, rfl, rs_tup (v1.mono e2) a2 fun v H3 e3 a3 v3 => q v H3 ((e1.trans e2).trans e3) a3 v3⟩
/-- t + u -/
theorem ev_catA (hl : ds.length + fs'.length ≤ 100000) (ha : EV X z a es s (.tuple ds) s1) (hb : EV X z b es s1 (.tuple fs') s2) : EV X z (.BinOp a .Add b pos) es s (.tuple (ds ++ fs')) s2 :=
  ev_opR (f := binaryOp .Add) op_catA (fun u v H at_ hu hv Q q => by
    cases hu with
    | tup n1 e1 r1 =>
      cases hv with
      | tup n2 e2 r2 =>
        have l1 := r1.length
        have l2 := r2.length
        refine ⟨_, _, _, _, rfl, rfl, .inl (.inl e1), .inl (.inl e2), ?_, fun w => ?_, fun _ w => ?_, fun _ _ p hp => ?_⟩
        · rw [l1, l2]
          exact Nat.le_trans hl (by decide)
        · subst w
          cases r1
          exact q _ H (.refl H) at_ (.tup n2 e2 r2)
        · subst w
          cases r2
          exact q _ H (.refl H) at_ (by rw [List.append_nil]; exact .tup n1 e1 r1)
        · exact q _ _ (.new hp) (at_.new hp) (.tup (at_.fresh hp) upd_same ((r1.app r2).mono (.new hp)))) ha hb
/-- (..) * n -/
theorem ev_repT {n : Int} (h0 : ds ≠ []) (h2 : 2 ≤ n) (hn : n ≤ 1000) (hl : ds.length ≤ 1000) (ha : EV X z a es s (.tuple ds) s1) (hb : EV X z b es s1 (.int n) s2) : EV X z (.BinOp a .Mult b pos) es s (.tuple (List.replicate n.toNat ds).flatten) s2 :=
  ev_opR (f := binaryOp .Mult) op_repT (fun u v H at_ hu hv Q q => by
    cases hv
    cases hu with
    | tup n1 e1 r1 =>
      exact ⟨_, n, _, rfl, rfl, .inl (.inl e1), fun w => h0 (by subst w; cases r1; rfl), h2, hn, by rw [r1.length]; exact hl, fun p hp => q _ _ (.new hp) (at_.new hp) (.tup (at_.fresh hp) upd_same ((r1.rep n.toNat).mono (.new hp)))⟩) ha hb
/-- l + m, lists -/
theorem ev_catL (hl : ds.length + fs'.length ≤ 100000) (ha : EV X z a es s (.list ds) s1) (hb : EV X z b es s1 (.list fs') s2) : EV X z (.BinOp a .Add b pos) es s (.list (ds ++ fs')) s2 :=
  ev_opR (f := binaryOp .Add) op_cat (fun u v H at_ hu hv Q q => by
    cases hu with
    | lst n1 e1 r1 =>
      cases hv with
      | lst n2 e2 r2 =>
        exact ⟨_, _, _, _, rfl, rfl, e1, e2, by rw [r1.length, r2.length]; exact Nat.le_trans hl (by decide), fun p hp => q _ _ (.new hp) (at_.new hp) (.lst (at_.fresh hp) upd_same ((r1.app r2).mono (.new hp)))⟩) ha hb
end
/-- t[::-1] -/
theorem fm_congr {α β : Type} {f g : α → Option β} : ∀ {l : List α}, (∀ x ∈ l, f x = g x) → l.filterMap f = l.filterMap g
  | [], _ => rfl
  | x :: l, h => by
    rw [List.filterMap_cons, List.filterMap_cons, h x (List.mem_cons_self ..), fm_congr fun y hy => h y (List.mem_cons_of_mem _ hy)]
theorem places_rev (n : Nat) : Builtin.Slice.slicePlaces ((n : Int) - 1) (-1) (-1) = n := by
  unfold Builtin.Slice.slicePlaces
  simp only [show ¬ ((-1 : Int) > 0) by decide, if_false, Int.neg_neg, Int.ediv_one]
  split <;> omega
theorem adjust_rev (n : Nat) : Builtin.Slice.sliceAdjust none none (-1) (n : Int) = ((n : Int) - 1, -1) := by
  unfold Builtin.Slice.sliceAdjust
  first
    | rfl
    | simp
theorem pick_rev (xs : Array Value) : ((List.range xs.size).filterMap fun (m : Nat) => xs[((xs.size : Int) - 1 + (m : Int) * (-1)).toNat]?).toArray = xs.toList.reverse.toArray := by
  have h := PySem.W.krv_pick xs
  unfold slicePick at h
  rw [PySem.W.krv_bounds] at h
  have h : ((sliceRange ((xs.size : Int) - 1) (-1) (-1)).filterMap (xs[·]?)).toArray = xs.toList.reverse.toArray := h
  rw [PySem.W.krv_sliceRange, List.filterMap_map] at h
  rw [← h]
  congr 1
  refine fm_congr fun m hm => ?_
  have hm := List.mem_range.mp hm
  show xs[((xs.size : Int) - 1 + (m : Int) * (-1)).toNat]? = xs[xs.size - 1 - m]?
  rw [show ((xs.size : Int) - 1 + (m : Int) * (-1)).toNat = xs.size - 1 - m by omega]
section
variable {prog : Program} {w : World} {A : Around} {E : Value → Shared → Prop} {s : Shared}
/-- a tuple cut by any slice that is applied as (lo, step, n), step not 1: the picked items, in a new tuple -/
theorem tup_slice {t sl : Addr} {items : Array Value} {lo step : Int} {n : Nat} {Q : Value → Shared → Prop} (ht : IsTup s.heap t items) (isl : s.TypeIs (.ref sl) "slice") (st : (step == 1) = false) (few : n ≤ sizeLine)
    (app : ∀ {B : Around} {Q : Int × Int × Nat → Shared → Prop} {E : Value → Shared → Prop}, Q (lo, step, n) s → wpAny (model prog w) B (Builtin.Slice.sliceApplied (.ref sl) (pure (items.size : Int))) Q E s)
    (h : Q (.ref s.heap.objs.size) { s with heap := s.heap.push { cls := .type "tuple", data := .seq ((List.range n).filterMap fun m : Nat => items[(lo + (m : Int) * step).toNat]?).toArray } }) : wpAny (model prog w) A (getItem (.ref t) (.ref sl)) Q E s := by
  have fit : sizeOk (.seq ((List.range n).filterMap fun m : Nat => items[(lo + (m : Int) * step).toNat]?).toArray) := by
    have l1 := List.length_filterMap_le (fun m : Nat => items[(lo + (m : Int) * step).toNat]?) (List.range n)
    rw [List.length_range] at l1
    exact Nat.le_trans (by rw [List.size_toArray]; exact l1) few
  unfold getItem
  try with_reducible refine wpAny_holding ?_
  first | refine wpAny_bind (wpAny_pure ?_) | skip
  refine wpAny_bind (wpAny_sequenceKey ht.typeIs (by decide) (wpAny_bind (wpAny_callSpecial?_slot (name := Str.ofString "__getitem__") ht.typeIs PyProof.Rows.slot_tuple_getitem (wpAny_call_entry PyProof.Rows.slot_tuple_getitem ht.typeIs entry_tuple_getitem ?_ (args_tuple_getitem _ _)))))
  refine (wpAny_bind (m := Builtin.Tuple.tupleItemsOf (.ref t)) (tupleItemsOf_ ht (wpAny_bind (wpAny_typeOf isl ?_))))
  rw [if_pos (by decide)]
  refine wpAny_bind (app ?_)
  show wpAny _ _ (if (lo == 0 && step == 1 && n == items.size) = true then _ else _) _ _ s
  rw [st, Bool.and_false, Bool.false_and, if_neg Bool.false_ne_true]
  first
    | exact wpAny_bind (m := Builtin.Tuple.tupleExact _) (wpAny_newObj_type (wpAny_pure ⟨_, rfl, wpAny_pure h⟩) fit)
    | exact wpAny_bind (m := Builtin.Tuple.tupleExact _) (wpAny_newObj_type (wpAny_bind (wpAny_pure (wpAny_pure ⟨_, rfl, wpAny_pure h⟩))) fit)
    | exact wpAny_bind (wpAny_bind (m := Builtin.Tuple.tupleExact _) (wpAny_newObj_type (wpAny_pure (wpAny_pure ⟨_, rfl, wpAny_pure h⟩)) fit))
/-- [::-1] as it is applied -/
theorem app_rev {sl : Addr} {vl vu vs : Value} {n : Nat} {Q : Int × Int × Nat → Shared → Prop} (hs : s.heap.IsSliceOf sl vl vu vs) (pl : IsPart vl none) (pu : IsPart vu none) (ps : IsPart vs (some (-1))) (h : Q ((n : Int) - 1, -1, n) s) : wpAny (model prog w) A (Builtin.Slice.sliceApplied (.ref sl) (pure (n : Int))) Q E s := by
  obtain ⟨o, ho, _, hd⟩ := hs
  unfold Builtin.Slice.sliceApplied Builtin.Slice.sliceFields
  refine wpAny_bind (wpAny_bind (wpAny_field ho hd (x := vl) rfl (wpAny_bind (wpAny_field ho hd (x := vu) rfl (wpAny_bind (wpAny_field ho hd (x := vs) rfl (wpAny_pure (wpAny_bind (HT.slicePart_ ps ?_)))))))))
  show wpAny _ _ (if ((-1 : Int) == 0) = true then _ else _) _ _ s
  rw [if_neg (by decide)]
  refine wpAny_bind (HT.slicePart_ pl (wpAny_bind (HT.slicePart_ pu (wpAny_bind (wpAny_pure ?_)))))
  show wpAny _ _ (match Builtin.Slice.sliceAdjust none none (-1) (n : Int) with | (lo, hi) => pure (lo, (-1 : Int), Builtin.Slice.slicePlaces lo hi (-1))) _ _ s
  rw [adjust_rev]
  show wpAny _ _ (pure ((n : Int) - 1, (-1 : Int), Builtin.Slice.slicePlaces ((n : Int) - 1) (-1) (-1))) _ _ s
  rw [places_rev]
  exact wpAny_pure h
end
section
variable {X : Cx}
def tRevT (K : PySem.W.Frag) (te : TE) : TE := fun σ H Q => te σ H fun x H1 => ∃ a xs, x = .ref a ∧ SqT K H1 a xs ∧ ∀ p, H1 p = none → Q (.ref p) (upd H1 p (.tup xs.reverse))
/-- a part of a slice that leaves the heap alone -/
theorem part_keep {pins : List (Addr × Obj)} {s : Shared} {σ : L2.St} {H : Hp} {o : Option Expr} {t : TO} {c : Option Int} {Q : Value → Shared → Prop} (p : PO X o t) (I : Inv X pins σ H s) (h : t σ H fun d H' => d = c ∧ H' = H) (k : ∀ v s', Inv X pins σ H s' → IsPart v c → Q v s') : wpAny (model X.prog X.w) X.A (evalPart o X.env) Q X.xe s :=
  thn (p.run pins s σ H _ I h) fun v s' ⟨d, H', I', ip, e1, e2⟩ => by
    subst e1 e2
    exact k v s' I' ip
theorem pe_revT {e : Expr} {te : TE} {k : Nat} {p1 p2 p3 pos : Pos} (he : PE X e te) : PE X (.Subscript e (.Slice none none (some (.UnaryOp .USub (.Constant (.int 1) k p1) p2)) p3) pos) (tRevT X.K te) := by
  constructor
  intro pins s σ H Q I h
  refine Subscript_ (thn (he.run pins s σ H _ I h) fun v s1 got => ?_)
  obtain ⟨x, H1, I1, rel, a, xs, rfl, hxs, q⟩ := got
  cases rel
  refine wpAny_Slice (part_keep po_none I1 ⟨rfl, rfl⟩ fun vl s2 I2 pl => part_keep po_none I2 ⟨rfl, rfl⟩ fun vu s3 I3 pu => part_keep (c := some (-1)) (po_some (pe_un un_neg pe_int)) I3 ⟨1, rfl, -1, rfl, rfl, rfl⟩ fun vs s4 I4 ps => ?_)
  have J : Inv X pins σ H1 { s4 with heap := s4.heap.push { cls := .type "slice", data := .fields #[vl, vu, vs] } } := I4.kept (t' := s4.toks) fun b o z => Heap.get?_push_of_some _ z
  obtain ⟨its, rv, isT, few⟩ := J.tuple hxs
  have ln := rv.length
  show wpAny (model X.prog X.w) X.A (subscriptTail e (.Slice none none (some (.UnaryOp .USub (.Constant (.int 1) k p1) p2)) p3) (.ref a) (.ref s4.heap.objs.size)) (EP X pins σ Q) X.xe _
  refine tail_any (ops := [.ref a, .ref s4.heap.objs.size]) isT.typeIs PyProof.Rows.slot_tuple_getitem.lookup ?_ (by with_unfolding_all rfl)
  refine tup_slice isT ⟨_, Heap.get?_push_size _ rfl, rfl⟩ (by decide) (n := its.toArray.size) (by rw [List.size_toArray]; omega) (fun {B Q E} z => app_rev (Heap.IsSliceOf.new _ vl vu vs) pl pu ps z) ?_
  rw [pick_rev]
  refine ⟨.ref _, _, J.laid (t' := s4.toks) (o := .tup xs.reverse) (fun b o z => Heap.get?_push_of_some _ z) (Nat.le_refl _) ⟨by rw [List.length_reverse]; exact few, _, rv.reverse, IsTup.new _ _⟩, rfl, q _ (J.hok.fresh (Nat.le_refl _))⟩
theorem ev_revT {z : Z} {es : List Sl} {s s1 : S} {a : Expr} {ds : List PyData} {k : Nat} {p1 p2 p3 pos : Pos} (ha : EV X z a es s (.tuple ds) s1) : EV X z (.Subscript a (.Slice none none (some (.UnaryOp .USub (.Constant (.int 1) k p1) p2)) p3) pos) es s (.tuple ds.reverse) s1 :=
  .mk (pe_revT wE_ok) fun σ H en at_ Q q => ha σ H en at_ _ fun v H1 e1 a1 v1 => by
    cases v1 with
    | tup n e r => exact ⟨_, _, rfl, .inl (.inl e), fun p hp => q _ _ (e1.trans (.new hp)) (a1.new hp) (.tup (a1.fresh hp) upd_same (r.rev.mono (.new hp)))⟩
end

/-! ### loops and new lists where own lists are written -/
def cutH (H : Hp) (vol : List (Addr × HO)) : Hp := fun b => if b ∈ vol.map (·.1) then none else H b
theorem cutH_in {H : Hp} {vol : List (Addr × HO)} {b : Addr} (h : b ∈ vol.map (·.1)) : cutH H vol b = none := if_pos h
theorem cutH_out {H : Hp} {vol : List (Addr × HO)} {b : Addr} (h : b ∉ vol.map (·.1)) : cutH H vol b = H b := if_neg h
theorem not_in {vol : List (Addr × HO)} {b : Addr} (h : ∀ o, (b, o) ∉ vol) : b ∉ vol.map (·.1) := fun m => by
  obtain ⟨q, hq, e⟩ := List.mem_map.mp m
  exact h q.2 (by rw [← e]; exact hq)
section
variable {z : Z} {Hc H H' : Hp} {vol : List (Addr × HO)} {σ : L2.St} {es : List Sl} {s s' : S}
/-- from the middle of a run on, as if it began here -/
theorem OI.reb (I : OI z Hc H vol σ es s) : OI z (cutH H vol) H vol σ es s ∧ ∀ H' vol' σ' es' s', OI z (cutH H vol) H' vol' σ' es' s' → OI z Hc H' vol' σ' es' s' := by
  have zin : ∀ q ∈ z.vol, q.1 ∉ vol.map (·.1) := fun q hq m => by
    obtain ⟨r, hr, e⟩ := List.mem_map.mp m
    exact I.base q hq (by rw [← e]; exact I.new r hr)
  have up : Ez z Hc (cutH H vol) := fun a o f h => by
    rw [cutH_out (not_in (I.old h))]
    exact I.ez a o f h
  have back : ∀ b, cutH H vol b = none → Hc b = none := fun b hb => by
    cases hc : Hc b with
    | none => rfl
    | some o =>
      by_cases hf : Fz z b
      · rw [up b o hf hc] at hb
        cases hb
      · exfalso
        have nin : b ∉ vol.map (·.1) := not_in (I.old hc)
        rw [cutH_out nin] at hb
        by_cases hd : z.dice = some b
        · rw [I.at_.d b hd] at hb
          cases hb
        · apply hf
          refine ⟨hd, fun u hu => ?_⟩
          rw [show H b = some u from I.at_.v (b, u) (List.mem_append_right _ hu)] at hb
          cases hb
  refine ⟨⟨fun q hq => cutH_in (List.mem_map.mpr ⟨q, hq, rfl⟩), I.nd, fun q hq e => ?_, I.at_, I.en, fun a o f h => ?_, fun i ds p h1 h2 => ?_, I.two⟩, fun H' vol' σ' es' s' J => ⟨fun q hq => back _ (J.new q hq), J.nd, I.base, J.at_, J.en, up.trans J.ez, fun i ds p h1 h2 => back _ (J.far i ds p h1 h2), J.two⟩⟩
  · rw [cutH_out (zin q hq)] at e
    rw [show H q.1 = some q.2 from I.at_.v q (List.mem_append_right _ hq)] at e
    cases e
  · by_cases m : a ∈ vol.map (·.1)
    · rw [cutH_in m] at h
      cases h
    · rwa [cutH_out m] at h
  · obtain ⟨y, hy, r⟩ := I.en.slot h1
    rw [h2] at hy
    cases hy
    cases r with
    | own m _ =>
      rcases List.mem_append.mp m with m | m
      · exact cutH_in (List.mem_map.mpr ⟨_, m, rfl⟩)
      · exact absurd (I.far i ds p h1 h2) (I.base _ m)
theorem OI.le {fs : List Sl} (I : OI z Hc H vol σ es s) (l : Le es fs) : OI z Hc H vol σ fs s := by
  have own : ∀ {es fs : List Sl}, Le es fs → ∀ {i : Nat} {ds : List PyData}, fs[i]? = some (.own ds) → es[i]? = some (.own ds) := by
    intro es fs l
    induction l with
    | nil => intro i ds h; simp at h
    | same l ih =>
      intro i ds h
      cases i with
      | zero => exact h
      | succ i => exact ih h
    | un l ih =>
      intro i ds h
      cases i with
      | zero => cases (Option.some.inj h)
      | succ i => exact ih h
  exact ⟨I.new, I.nd, I.base, I.at_, I.en.le l, I.ez, fun i ds p h1 h2 => I.far i ds p (own l h1) h2, fun i j ds ds' p n h1 h2 h3 => I.two i j ds ds' p n (own l h1) (own l h2) h3⟩
/-- data that stood when the loop began -/
theorem OI.still {vol' : List (Addr × HO)} {σ' : L2.St} {es' : List Sl} (J : OI z (cutH H vol) H' vol' σ' es' s') {v : V} {d : PyData} (h : Da (z.own vol) H v d) : Da (z.own vol') H' v d := h.re fun a o f hb => by
  have ha : cutH H vol a = some o := by
    rw [cutH_out (not_in f.of_own.2)]
    exact hb
  exact ⟨f.of_own.1.to_own (J.old ha), J.ez a o f.of_own.1 ha⟩
theorem OI.stillH {vol' : List (Addr × HO)} {σ' : L2.St} {es' : List Sl} (J : OI z (cutH H vol) H' vol' σ' es' s') {a : Addr} {o : HO} (f : Fz (z.own vol) a) (hb : H a = some o) : H' a = some o := by
  have ha : cutH H vol a = some o := by
    rw [cutH_out (not_in f.of_own.2)]
    exact hb
  exact J.ez a o f.of_own.1 ha
end
section
variable {X : Cx} {es es1 es2 : List Sl} {s s1 s2 : S} {iter cond a b e : Expr} {ds : List PyData} {d : PyData} {o : Out} {rest body els : List Stmt} {pos p p1 p2 p3 p4 p5 : Pos}
theorem so_pre {fs : List Sl} (l : Le es fs) (h : SO X body fs s o) : SO X body es s o := fun z Hc H vol σ I D q => h z Hc H vol σ (I.le l) D q
theorem so_le (h : SO X body es s (.nx es1 s1)) (l : Le es1 es2) : SO X body es s (.nx es2 s1) := fun z Hc H vol σ I D q => h z Hc H vol σ I D fun vol' σ' H' J => q vol' σ' H' (J.le l)
/-- for i, x in enumerate(..) -/
theorem so_forE (l m : Nat) {x y : Str} {kt : Nat} (hp : PassesOwn (model X.prog X.w) X.A X.env X.xe) (hc : X.calm = true) (hm : X.mg "enumerate" = none) (h : ∀ z, ED X z [a] es s [.list ds] s1) (E : Nat → List Sl) (T : Nat → S) (h0 : Le es (E 0)) (t0 : T 0 = s1)
    (hb : ∀ (i : Nat) d, ds[i]? = some d → SO X body (((E i).set l (.val (.int (i : Int)))).set m (.val d)) (T i) (.nx (E (i + 1)) (T (i + 1)))) (k : SO X rest (E ds.length) (T ds.length) o)
    (hg : PG X (.Tuple [.Name x p1, .Name y p2] kt p3) (gTup X.K 2 (gCons (gName l) (gCons (gName m) gNil)))) (hgl : Gl X "enumerate" := by rfl) (hst : starEach [a] X.env = [(false, eval a X.env)] := by rfl) (hfo : ∀ x, foldedSetIterable (.Call (.Name "enumerate" p4) [a] [] p5) X.env x = pure x := by intro _; rfl) :
    SO X (.For (.Tuple [.Name x p1, .Name y p2] kt p3) (.Call (.Name "enumerate" p4) [a] [] p5) body [] pos :: rest) es s o := fun z Hc H vol σ I D q =>
  ⟨_, pss_cons (ps_for hp hc (pi_enum hgl hm wA_ok hst) hg wB_ok hfo) wB_ok, h _ σ H I.en I.at_ _ fun vs H1 e1 a1 v1 => by
    cases v1 with
    | cons h1 r =>
      cases r
      cases h1 with
      | @lst a0 xs _ fa ha r1 =>
        have hx : xs.length = ds.length := r1.length
        obtain ⟨I2, back⟩ := (I.step e1 a1).reb
        subst t0
        refine ⟨a0, xs, rfl, .inl (.inl ha), for_it (walk_enum (K := X.K) (a := a0) (xs := xs)) (fun i σ' H' => ∃ vol', OI z (cutH H1 vol) H' vol' σ' (E i) (T i)) ⟨vol, I2.le h0⟩ (fun i σ' H' _ w => ?_) (fun i v σ' H' H2 hi w hY => ?_) fun σ' H' w => ?_⟩
        · obtain ⟨vol', w⟩ := w
          exact .inl (.inl (w.stillH fa ha))
        · obtain ⟨vol', w⟩ := w
          obtain ⟨t, u, v', rfl, nt, rfl, hu, hv⟩ := hY
          cases hu
          obtain ⟨d, hd, hv'⟩ := r1.getV i v' hv
          have w1 := w.step (Ez.new (o := .tup [.int (i : Int), v']) nt) (w.at_.new nt)
          have w2 := (w1.set (.refl _) w1.at_ l (.int (i : Int))).set (.refl _) w1.at_ m ((w.still hv').mono (.new nt))
          exact ⟨t, _, rfl, .inl (.inl upd_same), rfl, _, _, rfl, _, _, rfl, rfl, hb i d hd z _ _ vol' _ w2 _ fun vol3 σ3 H3 I3 => ⟨vol3, I3⟩⟩
        · obtain ⟨vol', w⟩ := w
          rw [hx] at w
          exact k z Hc H' vol' σ' (back _ _ _ _ _ w) D q⟩
/-- for i, x in enumerate(..) -/
theorem so_forET (l m : Nat) {x y : Str} {kt : Nat} (hp : PassesOwn (model X.prog X.w) X.A X.env X.xe) (hc : X.calm = true) (hm : X.mg "enumerate" = none) (h : ∀ z, ED X z [a] es s [.tuple ds] s1) (E : Nat → List Sl) (T : Nat → S) (h0 : Le es (E 0)) (t0 : T 0 = s1)
    (hb : ∀ (i : Nat) d, ds[i]? = some d → SO X body (((E i).set l (.val (.int (i : Int)))).set m (.val d)) (T i) (.nx (E (i + 1)) (T (i + 1)))) (k : SO X rest (E ds.length) (T ds.length) o)
    (hg : PG X (.Tuple [.Name x p1, .Name y p2] kt p3) (gTup X.K 2 (gCons (gName l) (gCons (gName m) gNil)))) (hgl : Gl X "enumerate" := by rfl) (hst : starEach [a] X.env = [(false, eval a X.env)] := by rfl) (hfo : ∀ x, foldedSetIterable (.Call (.Name "enumerate" p4) [a] [] p5) X.env x = pure x := by intro _; rfl) :
    SO X (.For (.Tuple [.Name x p1, .Name y p2] kt p3) (.Call (.Name "enumerate" p4) [a] [] p5) body [] pos :: rest) es s o := fun z Hc H vol σ I D q =>
  ⟨_, pss_cons (ps_for hp hc (pi_enumT hgl hm wA_ok hst) hg wB_ok hfo) wB_ok, h _ σ H I.en I.at_ _ fun vs H1 e1 a1 v1 => by
    cases v1 with
    | cons h1 r =>
      cases r
      cases h1 with
      | @tup a0 xs _ fa ha r1 =>
        have hx : xs.length = ds.length := r1.length
        obtain ⟨I2, back⟩ := (I.step e1 a1).reb
        subst t0
        refine ⟨a0, xs, rfl, .inl (.inl ha), for_it (walk_enumT (K := X.K) (a := a0) (xs := xs)) (fun i σ' H' => ∃ vol', OI z (cutH H1 vol) H' vol' σ' (E i) (T i)) ⟨vol, I2.le h0⟩ (fun i σ' H' _ w => ?_) (fun i v σ' H' H2 hi w hY => ?_) fun σ' H' w => ?_⟩
        · obtain ⟨vol', w⟩ := w
          exact .inl (.inl (w.stillH fa ha))
        · obtain ⟨vol', w⟩ := w
          obtain ⟨t, u, v', rfl, nt, rfl, hu, hv⟩ := hY
          cases hu
          obtain ⟨d, hd, hv'⟩ := r1.getV i v' hv
          have w1 := w.step (Ez.new (o := .tup [.int (i : Int), v']) nt) (w.at_.new nt)
          have w2 := (w1.set (.refl _) w1.at_ l (.int (i : Int))).set (.refl _) w1.at_ m ((w.still hv').mono (.new nt))
          exact ⟨t, _, rfl, .inl (.inl upd_same), rfl, _, _, rfl, _, _, rfl, rfl, hb i d hd z _ _ vol' _ w2 _ fun vol3 σ3 H3 I3 => ⟨vol3, I3⟩⟩
        · obtain ⟨vol', w⟩ := w
          rw [hx] at w
          exact k z Hc H' vol' σ' (back _ _ _ _ _ w) D q⟩
/-! new lists -/
theorem en_rep {z : Z} {n : Int} (hn : n < 100000) (hn0 : -100000 < n) (hl : ds.length * n.toNat ≤ 100000) (ha : EV X z a es s (.list ds) s1) (hb : EV X z b es s1 (.int n) s2) : EN X z (.BinOp a .Mult b pos) es s (List.replicate n.toNat ds).flatten s2 := fun σ H en at_ Q q =>
  ⟨_, pe_op op_rep wE_ok wE_ok, ha σ H en at_ _ fun u H1 e1 a1 v1 => hb σ H1 (en.mono e1) a1 _ fun w H2 e2 a2 v2 => by
    cases v2
    have v1 := v1.mono e2
    cases v1 with
    | lst n1 h1 r1 => exact ⟨_, n, _, rfl, rfl, h1, by omega, by omega, by rw [r1.length]; exact Nat.le_trans hl (by decide), fun p hp => q p _ H2 (e1.trans e2) a2 hp (r1.rep n.toNat)⟩⟩
theorem en_list {z : Z} {x : Str} (hm : X.mg x = none) (h : ED X z [a] es s [d] s1) (hd : d = .list ds ∨ d = .tuple ds) (hv : bootBuiltins x = some (.type "list") := by decide +kernel) (hg : Gl X x := by rfl) (hn : x ≠ "__name__" := by decide) (hdb : (x == ("__debug__" : Str)) = false := by decide) (hs : starEach [a] X.env = (false, eval a X.env) :: starEach [] X.env := by rfl) (hpl : (backTo pos (starEach [] X.env)).any (·.1) = false := by rfl) :
    EN X z (.Call (.Name x p1) [a] [] pos) es s ds s1 := fun σ H en at_ Q q =>
  ⟨_, pe_callTy call_list_of hg hm hv wA_ok hn hdb hs hpl, h σ H en at_ _ fun vs H1 e1 a1 v1 => by
    cases v1 with
    | cons h1 r =>
      cases r
      rcases hd with rfl | rfl
      · cases h1 with
        | lst n e r => exact ⟨_, _, rfl, .inl (.inl (.inl e)), fun l hl => q l _ H1 e1 a1 hl r⟩
      · cases h1 with
        | tup n e r => exact ⟨_, _, rfl, .inr (.inl (.inl e)), fun l hl => q l _ H1 e1 a1 hl r⟩⟩
/-- the new list p in slot i -/
theorem OI.fresh {z : Z} {Hc H H1 : Hp} {vol : List (Addr × HO)} {σ : L2.St} (I : OI z Hc H vol σ es s) (i : Nat) {a : Addr} {vs : List V} (e1 : Ez (z.own vol) H H1) (a1 : At (z.own vol) H1 s1) (ha : H1 a = none) {H2 : Hp} (e2 : Ez (z.own vol) H1 H2) (a2 : At ((z.own vol).add a (.lst vs)) H2 s2) (r : DaAll ((z.own vol).add a (.lst vs)) H2 vs ds) :
    OI z Hc H2 ((a, .lst vs) :: vol) (σ.set i (some (.ref a))) (es.set i (.own ds)) s2 := by
  have nc : Hc a = none := by
    cases hh : Hc a with
    | none => rfl
    | some u =>
      have f : Fz (z.own vol) a := a1.fresh ha
      rw [I.ezc e1 a u f.of_own.1 hh] at ha
      cases ha
  have fa := a1.fresh ha
  have re : ∀ (b : Addr) (u : HO), Fz (z.own vol) b → H1 b = some u → Fz (z.own ((a, .lst vs) :: vol)) b ∧ H2 b = some u := fun b u fb hb => by
    have nb := ne_of_none hb ha
    refine ⟨⟨fb.1, fun o m => ?_⟩, e2 b u fb hb⟩
    rcases List.mem_cons.mp m with e | m
    · exact nb (congrArg Prod.fst e)
    · exact fb.2 o m
  have notin : ∀ u, (a, u) ∉ vol := fun u m => fa.2 u (List.mem_append_left _ m)
  refine ⟨?_, ?_, I.base, a2, ?_, (fun b u f h => e2 b u (f.to_own (I.old h)) (I.ezc e1 b u f h)), ?_, ?_⟩
  · intro q hq
    rcases List.mem_cons.mp hq with e | m
    · rw [e]
      exact nc
    · exact I.new q m
  · show ((a :: vol.map (·.1)) : List Addr).Nodup
    refine List.nodup_cons.mpr ⟨fun m => ?_, I.nd⟩
    obtain ⟨q, hq, e⟩ := List.mem_map.mp m
    exact notin q.2 (by rw [← e]; exact hq)
  · exact (En.re (z := z.own vol) (z' := z.own ((a, .lst vs) :: vol)) rfl (fun q m => List.mem_cons_of_mem _ m) re (I.en.mono e1)).set i (.own (List.mem_cons_self ..) r)
  · intro j ds' b h1 h2
    by_cases hj : i = j
    · subst hj
      by_cases hl : i < σ.length
      · rw [List.getElem?_set_self hl] at h2
        cases h2
        exact nc
      · rw [List.getElem?_eq_none (by rw [List.length_set]; omega)] at h2
        cases h2
    · rw [List.getElem?_set_ne hj] at h1 h2
      exact I.far j ds' b h1 h2
  · intro j l ds1 ds2 b n h1 h2 h3 h4
    have own_ne : ∀ {m : Nat} {ds' : List PyData}, i ≠ m → (es.set i (Sl.own ds))[m]? = some (.own ds') → (σ.set i (some (.ref a)))[m]? = some (some (.ref b)) → b ≠ a := fun {m ds'} hm g1 g2 e => by
      rw [List.getElem?_set_ne hm] at g1 g2
      subst e
      obtain ⟨y, hy, r⟩ := I.en.slot g1
      rw [g2] at hy
      cases hy
      cases r with
      | own mm _ =>
        have := a1.v _ mm
        rw [show H1 b = _ from this] at ha
        cases ha
    have self : ∀ {m : Nat}, i = m → (σ.set i (some (.ref a)))[m]? = some (some (.ref b)) → b = a := fun {m} hm g => by
      subst hm
      by_cases hl : i < σ.length
      · rw [List.getElem?_set_self hl] at g
        cases g
        rfl
      · rw [List.getElem?_eq_none (by rw [List.length_set]; omega)] at g
        cases g
    by_cases hj : i = j
    · exact own_ne (fun e => n (hj.symm.trans e)) h2 h4 (self hj h3)
    · by_cases hl : i = l
      · exact own_ne hj h1 h3 (self hl h4)
      · rw [List.getElem?_set_ne hj] at h1 h3
        rw [List.getElem?_set_ne hl] at h2 h4
        exact I.two j l ds1 ds2 b n h1 h2 h3 h4
end
section
variable {z : Z} {X : Cx} {es : List Sl} {s s1 : S} {iter elt cond a : Expr} {ds : List PyData} {o : Out} {rest : List Stmt} {pos p p1 p2 p3 p4 : Pos}
/-- the turns of a comprehension over anything that walks, with any target -/
theorem lc_allO {te : TE} {tt : TT} {g : TG} {ws : List Nat} {n : Nat} {J : It} {G : Hp → Prop} {Y : Nat → Hp → V → Hp → Prop} (wk : Walk J n G Y) {σ : L2.St} {H1 : Hp} {D : Addr} (T U : Nat → S) (a1 : At z H1 (T 0)) (hD : H1 D = none) (esT : Nat → List Sl)
    (hG : ∀ H', Ez z H1 H' → G H') (turn : ∀ (i : Nat) (x : V) (H' H2 : Hp) (o : HO), i < n → Ez z H1 H' → Y i H' x H2 → At (z.add D o) H' (T i) → ∀ Q : L2.St → Hp → Prop, (∀ σ2 H3, wipe σ2 ws = wipe σ ws → Ez (z.add D o) H' H3 → At (z.add D o) H3 (T i) → En (z.add D o) H3 σ2 (esT i) → Q σ2 H3) → g x (wipe σ ws) H2 Q) (hl : n ≤ 100000) (kb : Nat → Bool) (A : Nat → List PyData) (hA0 : A 0 = [])
    (Ht : ∀ (z' : Z) (i : Nat), i < n → ∀ σ H, En z' H σ (esT i) → At z' H (T i) → ∀ Q : Bool → Hp → Prop, (∀ H2, Ez z' H H2 → At z' H2 (U i) → Q (kb i) H2) → tt σ H Q)
    (He : ∀ (z' : Z) (i : Nat), i < n → kb i = true → ∃ y, A (i + 1) = A i ++ [y] ∧ ∀ σ H, En z' H σ (esT i) → At z' H (U i) → ∀ Q : VK, (∀ v H2, Ez z' H H2 → At z' H2 (T (i + 1)) → Da z' H2 v y → Q v H2) → te σ H Q)
    (hn : ∀ (i : Nat), i < n → kb i = false → A (i + 1) = A i ∧ T (i + 1) = U i) {Qd : Hp → Prop} (hQ : ∀ H' acc, Ez z H1 H' → H' D = some (.lst acc) → At (z.add D (.lst acc)) H' (T n) → DaAll (z.add D (.lst acc)) H' acc (A n) → Qd H') :
    ∃ W : Nat → Nat → Hp → Prop, (∃ m, W 0 m (upd H1 D (.lst []))) ∧ ∀ i m H, W i m H → (J.stop i H ∧ Qd H) ∨ (J.go i H ∧ ∃ Nx : Hp → Prop, (∀ H', Nx H' → ∃ m', m' < m ∧ W (i + 1) m' H') ∧ ∀ x H', J.yld i H x H' → g x (wipe σ ws) H' fun σ2 H2 => wipe σ2 ws = wipe σ ws ∧ tt σ2 H2 fun b H3 =>
        if b = true then te σ2 H3 fun y H4 => ∃ acc, H4 D = some (.lst acc) ∧ acc.length < sizeLine ∧ Nx (upd H4 D (.lst (acc ++ [y]))) else Nx H3) := by
  have lA : ∀ i, i ≤ n → (A i).length ≤ i := by
    intro i
    induction i with
    | zero => intro _; rw [hA0]; exact Nat.le_refl _
    | succ i ih =>
      intro hi
      cases hk : kb i with
      | true =>
        obtain ⟨y, hy, _⟩ := He z i (by omega) hk
        rw [hy, List.length_append]
        have := ih (by omega)
        simp
        omega
      | false =>
        rw [(hn i (by omega) hk).1]
        have := ih (by omega)
        omega
  have reach : ∀ {H' : Hp} {o : HO}, Ez z H1 H' → ∀ (b : Addr) (u : HO), Fz z b → H1 b = some u → Fz (z.add D o) b ∧ H' b = some u := fun e b u fb hb => ⟨fb.to_add (ne_of_none hb hD), e b u fb hb⟩
  have up : ∀ {H' H2 : Hp} {o : HO}, Ez z H1 H' → Ez (z.add D o) H' H2 → Ez z H1 H2 := fun e e2 b u fb hb => e2 b u (fb.to_add (ne_of_none hb hD)) (e b u fb hb)
  refine lc_it wk (fun i H' => Ez z H1 H' ∧ ∃ acc, H' D = some (.lst acc) ∧ At (z.add D (.lst acc)) H' (T i) ∧ DaAll (z.add D (.lst acc)) H' acc (A i)) ?_ (fun i H' _ w => hG H' w.1) ?_ ?_
  · refine ⟨.new hD, [], upd_same, ⟨?_, ?_, ?_⟩, ?_⟩
    · intro b hb
      rw [upd_ne (ne_of_none (a1.d b hb) hD)]
      exact a1.d b hb
    · intro p hp
      rcases List.mem_cons.mp hp with e | e
      · rw [e]
        exact upd_same
      · rw [upd_ne (ne_of_none (a1.v p e) hD)]
        exact a1.v p e
    · intro p hp e2
      rcases List.mem_cons.mp hp with e | e
      · rw [e] at e2
        have := a1.d D e2
        rw [this] at hD
        cases hD
      · exact a1.n p e e2
    · rw [hA0]
      exact .nil
  · intro i x H0 H' hi w hy
    obtain ⟨e2, acc, hDa, a2, rA⟩ := w
    refine turn i x H0 H' (.lst acc) hi e2 hy a2 _ fun σ2 H5 hw e5 a5 en2 => ⟨hw, ?_⟩
    refine Ht _ i hi _ H5 en2 a5 _ fun H3 e30 a3 => ?_
    have e3 := e5.trans e30
    have hD3 : H3 D = some (.lst acc) := a3.v (D, .lst acc) (List.mem_cons_self ..)
    cases hk : kb i with
    | false =>
      obtain ⟨n1, n2⟩ := hn i hi hk
      refine iteF ⟨up e2 e3, acc, hD3, by rw [n2]; exact a3, by rw [n1]; exact rA.mono e3⟩
    | true =>
      obtain ⟨y, hy, go⟩ := He (z.add D (.lst acc)) i hi hk
      refine iteT (go _ H3 (en2.mono e30) a3 _ fun v H4 e4 a4 v4 => ?_)
      have hD4 : H4 D = some (.lst acc) := a4.v (D, .lst acc) (List.mem_cons_self ..)
      have rA4 := (rA.mono e3).mono e4
      have la := rA4.length
      have := lA i (by omega)
      have far : ∀ (b : Addr) (u : HO), Fz (z.add D (.lst acc)) b → H4 b = some u → Fz (z.add D (.lst (acc ++ [v]))) b ∧ upd H4 D (.lst (acc ++ [v])) b = some u := fun b u fb hb => by
        obtain ⟨f1, f2⟩ := fb.of_add
        exact ⟨f1.to_add f2, by rw [upd_ne f2]; exact hb⟩
      refine ⟨acc, hD4, Nat.lt_of_lt_of_le (show acc.length < 100001 by omega) (by decide), ?_, acc ++ [v], upd_same, ⟨?_, ?_, ?_⟩, ?_⟩
      · intro b u fb hb
        rw [upd_ne (ne_of_none hb hD)]
        exact up (up e2 e3) e4 b u fb hb
      · intro b hb
        rw [upd_ne (fun e => a4.n (D, .lst acc) (List.mem_cons_self ..) (by rw [← e]; exact hb))]
        exact a4.d b hb
      · intro p hp
        rcases List.mem_cons.mp hp with e | e
        · rw [e]
          exact upd_same
        · have h1 := a1.v p e
          rw [upd_ne (ne_of_none h1 hD)]
          exact a4.v p (List.mem_cons_of_mem _ e)
      · intro p hp
        rcases List.mem_cons.mp hp with e | e
        · rw [e]
          exact a4.n (D, .lst acc) (List.mem_cons_self ..)
        · exact a4.n p (List.mem_cons_of_mem _ e)
      · rw [hy]
        exact (rA4.re far).app (.cons (v4.re far) .nil)
  · intro H' w
    obtain ⟨e2, acc, hDa, a2, rA⟩ := w
    exact hQ H' acc e2 hDa a2 rA

/-- y = [e for x in range(n)], a list of one's own, the state going along -/
theorem so_lcR {j k : Nat} {x y : Str} {scope : Scope} {n : Nat} {py spos : Pos} (hc : X.calm = true) (hN : X.N.Nodup) (hm : X.mg "range" = none) (f : Nat → PyData) (T : Nat → S) (hit : ∀ z, ED X z [a] es s [.int (n : Int)] s1) (t0 : T 0 = s1) (hl : n ≤ 100000) (hB : BlkOk X.N X.env.scope scope [(x, j)]) (hg : PgIn X scope (.Name x p) (gName j))
    (He : ∀ i : Nat, i < n → ∀ z' : Z, Blk X scope fun Y => EV Y z' elt (es.set j (.val (.int (i : Int)))) (T i) (f i) (T (i + 1))) (kk : SO X rest (es.set k (.own ((List.range n).map f))) (T n) o) (hi : X.N[k]? = some y := by rfl) (hy : List.lookup y X.env.scope.names = some NameKind.local := by rfl)
    (hsw : swapsWith (.ListComp elt [{ target := .Name x p, iter := .Call (.Name "range" p1) [a] [] p2, ifs := [], is_async := 0 }] scope pos) (some (.Name y py)) spos.line X.env = pure true := by exact sw_true rfl rfl rfl (by decide +kernel))
    (hgl : Gl X "range" := by rfl) (hst : starEach [a] X.env = [(false, eval a X.env)] := by rfl) (hs : ∀ x, foldedSetIterable (.Call (.Name "range" p1) [a] [] p2) X.env x = pure x := by intro _; rfl) :
    SO X (.Assign [.Name y py] (.ListComp elt [{ target := .Name x p, iter := .Call (.Name "range" p1) [a] [] p2, ifs := [], is_async := 0 }] scope pos) spos :: rest) es s o := fun z Hc H vol σ I D q =>
  ⟨_, pss_cons (ps_setLc (i := k) (own := [(x, j)]) hc hN hi hy hsw (pi_range1 hgl hm wA_ok hst) hB hg (fun _ _ _ _ _ => pts_nil) tEl_ok hs) wB_ok, by
    refine hit _ σ H I.en I.at_ _ fun vs H1 e1 a1 v1 => ?_
    cases v1 with
    | cons h r =>
      cases r
      cases h
      refine ⟨(n : Int), rfl, by omega, by omega, fun D' hD => ?_⟩
      rw [Int.toNat_natCast]
      subst t0
      refine lc_allO (g := gName j) (ws := [j]) (walk_range (lo := 0) (n := n)) T T a1 hD (fun i => es.set j (.val (.int (i : Int)))) (fun H' e => trivial) (fun i x H' H2 o hi e2 hy a2 Q q => ?_) hl (fun _ => true) (fun i => (List.range i).map f) rfl (fun z' i hi σ H en at_ Q q => q H (.refl H) at_)
        (fun z' i hi _ => ⟨f i, by rw [List.range_succ, List.map_append]; rfl, fun σ H en at_ Q q s0 H0 C cl fp => He i hi z' s0 H0 C cl fp σ H en at_ Q q⟩) (fun i _ h => by cases h) (fun H' acc e hD2 a2 r2 => kk z Hc H' _ _ (I.fresh k e1 a1 hD e a2 r2) D q)
      obtain ⟨rfl, hx⟩ := hy
      have reach : ∀ (b : Addr) (u : HO), Fz (z.own vol) b → H1 b = some u → Fz ((z.own vol).add D' o) b ∧ H2 b = some u := fun b u fb hb => ⟨fb.to_add (ne_of_none hb hD), e2 b u fb hb⟩
      have es2 : (wipe σ [j]).set j (some x) = σ.set j (some x) := by
        show (σ.set j none).set j (some x) = _
        rw [List.set_set]
      show Q ((wipe σ [j]).set j (some x)) H2
      rw [es2]
      have en0 : En ((z.own vol).add D' o) H2 σ es := En.re (z := z.own vol) (z' := (z.own vol).add D' o) rfl (fun q h => List.mem_cons_of_mem _ h) reach (I.en.mono e1)
      refine q _ H2 (by
        show (σ.set j (some x)).set j none = σ.set j none
        rw [List.set_set]) (.refl _) a2 (en0.set j (.val ?_))
      rw [hx]
      show Da _ _ (.int (0 + (i : Int))) _
      rw [Int.zero_add]
      exact .int _⟩
end
/-! own lists handed on, cut -/
section
variable {X : Cx} {z : Z} {es : List Sl} {s s1 s2 : S} {a b : Expr} {xs : List Expr} {ds : List PyData} {as : List Sl} {pos p p1 p2 : Pos}
theorem ea_own (i : Nat) {x : Str} (hr : EA X z xs es s as s2) (h : es[i]? = some (.own ds) := by rfl) (hN : X.N[i]? = some x := by rfl) (hvi : Vis X.env.scope x := by first | exact Or.inl rfl | exact Or.inr (Or.inl rfl) | exact Or.inr (Or.inr rfl)) (hd : (x == ("__debug__" : Str)) = false := by decide) (hcd : (x == ("__classdict__" : Str)) = false := by decide)
    (hs : starEach (.Name x p :: xs) X.env = (false, eval (.Name x p) X.env) :: starEach xs X.env := by rfl) : EA X z (.Name x p :: xs) es s (.own ds :: as) s2 := fun σ H en at_ Q q => ⟨_, pa_cons (pe_var hN hvi hd hcd) wA_ok hs, by
    obtain ⟨y, hy, r⟩ := en.slot h
    cases r with
    | @own a0 vs _ m k =>
      exact ⟨_, hy, hr σ H en at_ _ fun us H1 e1 a1 n1 => q _ H1 e1 a1 (.cons (.own m (k.mono e1)) n1)⟩⟩
theorem ev_slToO (i : Nat) {x : Str} {j : Int} (hb : EV X z b es s (.int j) s1) (h : es[i]? = some (.own ds) := by rfl) (hN : X.N[i]? = some x := by rfl) (hvi : Vis X.env.scope x := by first | exact Or.inl rfl | exact Or.inr (Or.inl rfl) | exact Or.inr (Or.inr rfl)) (hd : (x == ("__debug__" : Str)) = false := by decide) (hcd : (x == ("__classdict__" : Str)) = false := by decide) :
    EV X z (.Subscript (.Name x p) (.Slice none (some b) none p1) pos) es s (.list (DL.cutD ds none (some j))) s1 :=
  .mk (pe_slice sl_list (pe_var hN hvi hd hcd) po_none (po_some wE_ok)) fun σ H en at_ Q q => by
    obtain ⟨y, hy, r⟩ := en.slot h
    cases r with
    | @own a0 vs _ m k =>
      refine ⟨_, hy, hb σ H en at_ _ fun u H2 e2 a2 v2 => ?_⟩
      cases v2
      exact ⟨j, rfl, _, _, rfl, .inl (.inl (a2.v _ m)), fun p hp => q _ _ (e2.trans (.new hp)) (a2.new hp) (.lst (a2.fresh hp) upd_same (((k.cut none (some j)).mono e2).mono (.new hp)))⟩
theorem en_listO (i : Nat) {x y : Str} (hm : X.mg y = none) (h : es[i]? = some (.own ds) := by rfl) (hN : X.N[i]? = some x := by rfl) (hvi : Vis X.env.scope x := by first | exact Or.inl rfl | exact Or.inr (Or.inl rfl) | exact Or.inr (Or.inr rfl)) (hd : (x == ("__debug__" : Str)) = false := by decide) (hcd : (x == ("__classdict__" : Str)) = false := by decide)
    (hv : bootBuiltins y = some (.type "list") := by decide +kernel) (hg : Gl X y := by rfl) (hn : y ≠ "__name__" := by decide) (hdb : (y == ("__debug__" : Str)) = false := by decide) (hs : starEach [.Name x p] X.env = (false, eval (.Name x p) X.env) :: starEach [] X.env := by rfl) (hpl : (backTo pos (starEach [] X.env)).any (·.1) = false := by rfl) :
    EN X z (.Call (.Name y p1) [.Name x p] [] pos) es s ds s := fun σ H en at_ Q q =>
  ⟨_, pe_callTy call_list_of hg hm hv (pa_cons (pe_var hN hvi hd hcd) pa_nil hs) hn hdb hs hpl, by
    obtain ⟨y, hy, r⟩ := en.slot h
    cases r with
    | @own a0 vs _ m k => exact ⟨_, hy, _, _, rfl, .inl (.inl (.inl (at_.v _ m))), fun l hl => q l _ H (.refl H) at_ hl k⟩⟩
end
/-! a def whose first row makes a new list out of its arguments, own ones among them -/
structure Fst (X : Cx) (i : Nat) (y : Str) (e : Expr) (py pos : Pos) : Prop where
  hN : X.N.Nodup
  hi : X.N[i]? = some y
  hx : Loc X.env.scope y
  hs : swapsWith e (some (.Name y py)) pos.line X.env = pure false
  hf : X.fn y = true ∨ X.env.scope.names.lookup y = some .local
section
variable {P : Program} {w : World} {K : PySem.W.Frag} {mg : Str → Option Value} {base : Heap}
theorem okOF {x qual : Str} {st : Stmt} {f : Addr} {fd : FuncData} {N ps : List Str} {k : Nat} {R : Rel} (F : Fun K x qual st f fd) (Sc : FnScope N ps (defScope st)) (hl : ∀ as s d s', R as s d s' → as.length = ps.length) (i : Nat) {y : Str} {e : Expr} {py pos : Pos} {rest : List Stmt} (hB : defBody st = .Assign [.Name y py] e pos :: rest)
    (hb : ∀ cdv A outer s0 H0 E, Ctx (cxOf CX0 P w K mg base N qual (defScope st) f cdv A outer s0 H0 E).nox k N → Fst (cxOf CX0 P w K mg base N qual (defScope st) f cdv A outer s0 H0 E).nox i y e py pos ∧ ∀ as s d s', R as s d s' → ∃ ds s1 es0, Le (as ++ List.replicate (N.length - as.length) .un) es0 ∧ (∀ fs, Sl.own fs ∉ es0) ∧ (∀ z, EN (cxOf CX0 P w K mg base N qual (defScope st) f cdv A outer s0 H0 E).nox z e (as ++ List.replicate (N.length - as.length) .un) s ds s1) ∧ SO (cxOf CX0 P w K mg base N qual (defScope st) f cdv A outer s0 H0 E).nox rest (es0.set i (.own ds)) s1 (.rt d s')) :
    FnOk P w K mg base CX0 (k + 1) f fd ps (spD R) := by
  refine F.ok Sc (fun vs H Q E h => ?_) (fun cdv A outer s0 H0 vs Q E hr h => ?_)
  · obtain ⟨z, as, s, d, s', hR, en, _⟩ := h
    have := en.length
    rw [List.length_map] at this
    rw [this]
    exact hl _ _ _ _ hR
  · obtain ⟨z, as, s, d, s', hR, en, at_, q⟩ := h
    have e1 : vs.length = as.length := by
      have := en.length
      rwa [List.length_map] at this
    have C : Ctx (cxOf CX0 P w K mg base N qual (defScope st) f cdv A outer s0 H0 E).nox k N := ⟨Sc.nd, rfl, PassesOwn.never, hr, hr.units⟩
    obtain ⟨B, go⟩ := hb cdv A outer s0 H0 E C
    obtain ⟨ds, s1, es0, l0, hno, hen, hso⟩ := go as s d s' hR
    have none_own : ∀ (i : Nat) (ds : List PyData), es0[i]? ≠ some (.own ds) := fun i ds h => hno ds (List.mem_of_getElem? h)
    have enf : En z H0 (L2.start N vs) (as ++ List.replicate (N.length - as.length) .un) := by
      unfold L2.start
      rw [e1]
      exact en.app (.uns _)
    have I : OI z H0 H0 [] (L2.start N vs) es0 s := ⟨fun q h => (by cases h), List.nodup_nil, fun p hp => (by rw [at_.v p hp]; exact fun h => by cases h), at_, enf.le l0, .refl H0, fun i ds p h => absurd h (none_own i ds), fun i j ds ds' p _ h => absurd h (none_own i ds)⟩
    rw [hB]
    refine ⟨_, wB_ok, ?_⟩
    refine ⟨_, pss_cons (ps_set B.hN B.hi B.hx wE_ok B.hs B.hf) wB_ok, hen z (L2.start N vs) H0 enf at_ _ fun a vs' H1 e1' a1 ha r => ?_⟩
    have re : ∀ (b : Addr) (u : HO), Fz z b → H1 b = some u → Fz (z.add a (.lst vs')) b ∧ upd H1 a (.lst vs') b = some u := fun b u fb hb => by
      have nb := ne_of_none hb ha
      exact ⟨fb.to_add nb, by rw [upd_ne nb]; exact hb⟩
    have a2 : At (z.add a (.lst vs')) (upd H1 a (.lst vs')) s1 := by
      refine ⟨fun b hb => ?_, fun q hq => ?_, fun q hq => ?_⟩
      · rw [upd_ne (ne_of_none (a1.d b hb) ha)]
        exact a1.d b hb
      · rcases List.mem_cons.mp hq with e | m
        · rw [e]
          exact upd_same
        · rw [upd_ne (ne_of_none (a1.v q m) ha)]
          exact a1.v q m
      · rcases List.mem_cons.mp hq with e | m
        · rw [e]
          intro hd
          have := a1.d a hd
          rw [this] at ha
          cases ha
        · exact a1.n q m
    have J := I.fresh i (vs := vs') e1' a1 ha (.new ha) a2 (r.re re)
    exact hso z H0 _ _ _ J { nx := fun _ H' => Q .non H', rt := Q } fun v H' e a n => q v H' e a n
end
end DL


set_option linter.all false
namespace PM
/-! ### polynomials as lists over a ring -/
universe u
section
variable {α : Type} [Lean.Grind.CommRing α]
def co (p : List α) (i : Nat) : α := p.getD i 0
theorem co_nil (i : Nat) : co ([] : List α) i = 0 := by simp [co]
theorem co_zero (a : α) (p : List α) : co (a :: p) 0 = a := by simp [co]
theorem co_succ (a : α) (p : List α) (i : Nat) : co (a :: p) (i + 1) = co p i := by simp [co]
def add : List α → List α → List α
  | [], q => q
  | p, [] => p
  | a :: p, b :: q => (a + b) :: add p q
theorem co_add : ∀ (p q : List α) (i : Nat), co (add p q) i = co p i + co q i
  | [], q, i => by rw [add, co_nil]; grind
  | a :: p, [], i => by rw [add, co_nil]; grind; simp
  | a :: p, b :: q, 0 => by rw [add]; simp [co_zero]
  | a :: p, b :: q, i + 1 => by rw [add, co_succ, co_succ, co_succ, co_add p q i]
def smul (c : α) (p : List α) : List α := p.map (c * ·)
theorem co_smul (c : α) : ∀ (p : List α) (i : Nat), co (smul c p) i = c * co p i
  | [], i => by rw [smul, List.map_nil, co_nil]; grind
  | a :: p, 0 => by simp [smul, co_zero]
  | a :: p, i + 1 => by
    have := co_smul c p i
    rw [smul, List.map_cons, co_succ, co_succ]
    exact this
def mul : List α → List α → List α
  | [], q => []
  | a :: p, q => add (smul a q) (0 :: mul p q)
/-- the same numbers, but for zeros at the end -/
def Eqv (p q : List α) : Prop := ∀ i, co p i = co q i
/-- Σ over i < n of p i * q (k - i) -/
def msum (p q : List α) (k : Nat) : Nat → α
  | 0 => 0
  | n + 1 => msum p q k n + (if n ≤ k then co p n * co q (k - n) else 0)
theorem msum_cons (a : α) (p q : List α) (k : Nat) : ∀ n, msum (a :: p) q k (n + 1) = a * co q k + (if k = 0 then 0 else msum p q (k - 1) n)
  | 0 => by
    simp only [msum, co_zero, Nat.zero_le, if_true, Nat.sub_zero]
    split <;> grind
  | n + 1 => by
    rw [msum, msum_cons a p q k n, co_succ, msum]
    by_cases h : k = 0
    · subst h
      simp
      grind
    · rw [if_neg h, if_neg h]
      by_cases h2 : n + 1 ≤ k
      · rw [if_pos h2, if_pos (show n ≤ k - 1 by omega), show k - 1 - n = k - (n + 1) by omega]
        grind
      · rw [if_neg h2, if_neg (show ¬ n ≤ k - 1 by omega)]
        grind
theorem co_mul : ∀ (p q : List α) (k : Nat), co (mul p q) k = msum p q k p.length
  | [], q, k => by rw [mul, co_nil]; rfl
  | a :: p, q, k => by
    rw [mul, co_add, co_smul, List.length_cons, msum_cons]
    cases k with
    | zero => simp [co_zero]
    | succ k =>
      rw [co_succ, co_mul p q k]
      simp
theorem co_ge (p : List α) {i : Nat} (h : p.length ≤ i) : co p i = 0 := by
  unfold co
  rw [List.getD_eq_getElem?_getD, List.getElem?_eq_none h]
  rfl
theorem msum_more (p q : List α) (k : Nat) : ∀ m, msum p q k (p.length + m) = msum p q k p.length
  | 0 => rfl
  | m + 1 => by
    rw [← Nat.add_assoc, msum, msum_more p q k m, co_ge p (i := p.length + m) (by omega)]
    split <;> grind
theorem msum_eqv {p p' q q' : List α} (h : Eqv p p') (h2 : Eqv q q') (k : Nat) : ∀ n, msum p q k n = msum p' q' k n
  | 0 => rfl
  | n + 1 => by rw [msum, msum, msum_eqv h h2 k n, h n, h2 (k - n)]
theorem mul_eqv {p p' q q' : List α} (h : Eqv p p') (h2 : Eqv q q') : Eqv (mul p q) (mul p' q') := fun k => by
  rw [co_mul, co_mul, ← msum_more p q k p'.length, ← msum_more p' q' k p.length, msum_eqv h h2 k, Nat.add_comm]
theorem add_eqv {p p' q q' : List α} (h : Eqv p p') (h2 : Eqv q q') : Eqv (add p q) (add p' q') := fun k => by
  rw [co_add, co_add, h k, h2 k]
theorem smul_eqv {c : α} {p p' : List α} (h : Eqv p p') : Eqv (smul c p) (smul c p') := fun k => by
  rw [co_smul, co_smul, h k]
theorem cons_eqv {a : α} {p p' : List α} (h : Eqv p p') : Eqv (a :: p) (a :: p') := fun k => by
  cases k with
  | zero => rw [co_zero, co_zero]
  | succ k => rw [co_succ, co_succ, h k]
theorem mul_nil : ∀ (p : List α), Eqv (mul p []) []
  | [] => fun _ => rfl
  | a :: p => fun k => by
    rw [mul, co_add, co_smul, co_nil]
    cases k with
    | zero => rw [co_zero]; grind
    | succ k => rw [co_succ, mul_nil p k, co_nil]; grind
theorem mul_cons (b : α) (q : List α) : ∀ (p : List α), Eqv (mul p (b :: q)) (add (smul b p) (0 :: mul p q))
  | [] => fun k => by
    rw [mul, mul, co_add, co_smul, co_nil]
    cases k with
    | zero => rw [co_zero]; grind
    | succ k => rw [co_succ, co_nil]; grind
  | a :: p => fun k => by
    rw [mul, mul, co_add, co_smul, co_add, co_smul]
    cases k with
    | zero => simp only [co_zero]; grind
    | succ k =>
      have ih := mul_cons b q p k
      rw [co_add, co_smul] at ih
      simp only [co_succ, co_add, co_smul]
      cases k with
      | zero =>
        simp only [co_zero] at ih ⊢
        grind
      | succ k =>
        simp only [co_succ] at ih ⊢
        grind
theorem mul_comm : ∀ (p q : List α), Eqv (mul p q) (mul q p)
  | [], q => fun k => by rw [mul_nil q k]; rfl
  | a :: p, q => fun k => by
    rw [mul_cons a p q k, mul, co_add, co_add]
    cases k with
    | zero => simp only [co_zero]
    | succ k => rw [co_succ, co_succ, mul_comm p q k]
theorem mul_add (p p' q : List α) : Eqv (mul (add p p') q) (add (mul p q) (mul p' q)) := fun k => by
  have gen : ∀ n, msum (add p p') q k n = msum p q k n + msum p' q k n := by
    intro n
    induction n with
    | zero => simp only [msum]; grind
    | succ n ih =>
      rw [msum, msum, msum, ih, co_add]
      split <;> grind
  rw [co_add, co_mul, co_mul, co_mul, ← msum_more (add p p') q k (p.length + p'.length), ← msum_more p q k ((add p p').length + p'.length), ← msum_more p' q k ((add p p').length + p.length), gen]
  grind
/-! values -/
def ev (x : α) : List α → α
  | [] => 0
  | a :: p => a + x * ev x p
theorem ev_add (x : α) : ∀ (p q : List α), ev x (add p q) = ev x p + ev x q
  | [], q => by rw [add, ev]; grind
  | a :: p, [] => by rw [add, ev, ev]; grind; simp
  | a :: p, b :: q => by rw [add, ev, ev, ev, ev_add x p q]; grind
theorem ev_smul (x c : α) : ∀ (p : List α), ev x (smul c p) = c * ev x p
  | [] => by simp only [smul, List.map_nil, ev]; grind
  | a :: p => by
    have := ev_smul x c p
    rw [smul] at this
    rw [smul, List.map_cons, ev, ev, this]
    grind
theorem ev_mul (x : α) : ∀ (p q : List α), ev x (mul p q) = ev x p * ev x q
  | [], q => by rw [mul, ev]; grind
  | a :: p, q => by rw [mul, ev_add, ev_smul, ev, ev, ev_mul x p q]; grind
/-! derived ones -/
def nc : Nat → α
  | 0 => 0
  | n + 1 => nc n + 1
def derF : Nat → List α → List α
  | _, [] => []
  | n, a :: p => (nc n * a) :: derF (n + 1) p
def der : List α → List α
  | [] => []
  | _ :: p => derF 1 p
theorem co_derF : ∀ (p : List α) (n i : Nat), co (derF n p) i = nc (n + i) * co p i
  | [], n, i => by rw [derF, co_nil]; grind
  | a :: p, n, 0 => by rw [derF, co_zero, co_zero, Nat.add_zero]
  | a :: p, n, i + 1 => by
    rw [derF, co_succ, co_succ, co_derF p (n + 1) i, show n + 1 + i = n + (i + 1) by omega]
theorem co_der : ∀ (p : List α) (i : Nat), co (der p) i = nc (i + 1) * co p (i + 1)
  | [], i => by rw [der, co_nil, co_nil]; grind
  | a :: p, i => by rw [der, co_derF, co_succ, Nat.add_comm]
theorem der_cons (a : α) (p : List α) : Eqv (der (a :: p)) (add p (0 :: der p)) := fun k => by
  rw [co_der, co_add, co_succ]
  cases k with
  | zero =>
    rw [co_zero]
    have : (nc (0 + 1) : α) = 1 := by simp only [nc]; grind
    rw [this]
    grind
  | succ k =>
    rw [co_succ, co_der]
    have : (nc (k + 1 + 1) : α) = nc (k + 1) + 1 := rfl
    rw [this]
    grind
theorem der_mul : ∀ (p q : List α), Eqv (der (mul p q)) (add (mul (der p) q) (mul p (der q)))
  | [], q => fun k => by
    rw [mul, co_der, co_nil, co_add]
    show _ = co (mul [] q) k + co (mul [] (der q)) k
    rw [mul, mul, co_nil]
    grind
  | a :: p, q => fun k => by
    have e1 : co (mul (der (a :: p)) q) k = co (mul p q) k + co (mul (0 :: der p) q) k := by
      rw [mul_eqv (der_cons a p) (fun _ => rfl) k, mul_add, co_add]
    rw [co_add, e1, co_der, mul, mul, mul, co_add, co_add, co_smul, co_succ, co_add, co_smul, co_smul, co_der]
    cases k with
    | zero =>
      simp only [co_zero]
      have : (nc (0 + 1) : α) = 1 := by simp only [nc]; grind
      rw [this]
      grind
    | succ k =>
      have ih := der_mul p q k
      rw [co_der, co_add] at ih
      simp only [co_succ]
      have : (nc (k + 1 + 1) : α) = nc (k + 1) + 1 := rfl
      rw [this]
      grind
end
/-! ### without zeros at the end -/
section
variable {α : Type} [Lean.Grind.CommRing α] [DecidableEq α]
def strip : List α → List α
  | [] => []
  | a :: p => match strip p with
    | [] => if a = 0 then [] else [a]
    | b :: q => a :: b :: q
theorem strip_eqv : ∀ p : List α, Eqv (strip p) p
  | [] => fun _ => rfl
  | a :: p => fun k => by
    have ih := strip_eqv p
    rw [strip]
    cases h : strip p with
    | nil =>
      rw [h] at ih
      by_cases ha : a = 0
      · simp only [ha, if_true]
        cases k with
        | zero => rw [co_nil, co_zero]
        | succ k => rw [co_succ, ← ih k, co_nil, co_nil]
      · simp only [ha, if_false]
        cases k with
        | zero => rw [co_zero, co_zero]
        | succ k => rw [co_succ, co_succ, ← ih k]
    | cons b q =>
      rw [h] at ih
      show co (a :: (b :: q)) k = _
      exact cons_eqv ih k
theorem strip_zero : ∀ p : List α, (∀ i, co p i = 0) → strip p = []
  | [], _ => rfl
  | a :: p, h => by
    have h0 := h 0
    rw [co_zero] at h0
    have ih := strip_zero p (fun i => by have := h (i + 1); rwa [co_succ] at this)
    rw [strip, ih]
    simp [h0]
theorem strip_ext : ∀ p q : List α, Eqv p q → strip p = strip q
  | [], q, h => by
    rw [strip_zero q (fun i => by rw [← h i, co_nil])]
    rfl
  | a :: p, [], h => by
    rw [strip_zero (a :: p) (fun i => by rw [h i, co_nil])]
    rfl
  | a :: p, b :: q, h => by
    have h0 := h 0
    rw [co_zero, co_zero] at h0
    have ih := strip_ext p q (fun i => by have := h (i + 1); rwa [co_succ, co_succ] at this)
    rw [strip, strip, ih, h0]
/-- no zero at the end -/
def Tidy (p : List α) : Prop := strip p = p
theorem strip_tidy (p : List α) : Tidy (strip p) := strip_ext _ _ (strip_eqv p)
theorem tidy_tail {a : α} {p : List α} (h : Tidy (a :: p)) : Tidy p := by
  unfold Tidy at *
  rw [strip] at h
  cases hp : strip p with
  | nil =>
    rw [hp] at h
    by_cases ha : a = 0
    · simp [ha] at h
    · simp [ha] at h
      rw [← h]
  | cons b q =>
    rw [hp] at h
    injection h
theorem tidy_last : ∀ {p : List α}, Tidy p → p ≠ [] → co p (p.length - 1) ≠ 0
  | [], _, h => absurd rfl h
  | [a], h, _ => by
    intro e
    rw [show ([a] : List α).length - 1 = 0 from rfl, co_zero] at e
    unfold Tidy at h
    simp [strip, e] at h
  | a :: b :: p, h, _ => by
    have := tidy_last (tidy_tail h) (by simp)
    rw [show (a :: b :: p).length - 1 = (b :: p).length - 1 + 1 from rfl, co_succ]
    exact this
theorem last_tidy : ∀ {p : List α}, (p ≠ [] → co p (p.length - 1) ≠ 0) → Tidy p
  | [], _ => rfl
  | [a], h => by
    have := h (by simp)
    rw [show ([a] : List α).length - 1 = 0 from rfl, co_zero] at this
    unfold Tidy
    simp [strip, this]
  | a :: b :: p, h => by
    have ih : Tidy (b :: p) := last_tidy (fun _ => by
      have := h (by simp)
      rwa [show (a :: b :: p).length - 1 = (b :: p).length - 1 + 1 from rfl, co_succ] at this)
    unfold Tidy at *
    rw [strip, ih]
theorem ev_strip (x : α) : ∀ p : List α, ev x (strip p) = ev x p
  | [] => rfl
  | a :: p => by
    have ih := ev_strip x p
    rw [strip]
    cases h : strip p with
    | nil =>
      rw [h, ev] at ih
      by_cases ha : a = 0
      · simp only [ha, if_true, ev]
        rw [← ih]
        grind
      · simp only [ha, if_false, ev]
        rw [← ih]
    | cons b q =>
      rw [h] at ih
      show ev x (a :: (b :: q)) = _
      rw [ev, ih, ev]
end
end PM


set_option Elab.async false
set_option linter.all false
set_option maxRecDepth 100000
namespace K8
open PySem PySem.Spec PyProof.Rows L2 DL
def top (i : Nat) : Stmt := PySem.Challenge.pw_thirdcounts_k08_whole_sums_and_products.main.body.getD i (.Pass ⟨0, 0, 0, 0⟩)
/-! ### what the built-in classes say of data -/
def isW : PyData → Bool
  | .int _ => true
  | _ => false
theorem k_int (v : PyData) : kitB (tyD v) "int" = some (match v with | .int _ => true | .bool _ => true | _ => false) := by
  match v with
  | .none => exact (by decide +kernel : kitB "NoneType" "int" = some false)
  | .bool _ => exact (by decide +kernel : kitB "bool" "int" = some true)
  | .int _ => exact (by decide +kernel : kitB "int" "int" = some true)
  | .str _ => exact (by decide +kernel : kitB "str" "int" = some false)
  | .list _ => exact (by decide +kernel : kitB "list" "int" = some false)
  | .tuple _ => exact (by decide +kernel : kitB "tuple" "int" = some false)
  | .dict _ => exact (by decide +kernel : kitB "dict" "int" = some false)
theorem k_bool (v : PyData) : kitB (tyD v) "bool" = some (match v with | .bool _ => true | _ => false) := by
  match v with
  | .none => exact (by decide +kernel : kitB "NoneType" "bool" = some false)
  | .bool _ => exact (by decide +kernel : kitB "bool" "bool" = some true)
  | .int _ => exact (by decide +kernel : kitB "int" "bool" = some false)
  | .str _ => exact (by decide +kernel : kitB "str" "bool" = some false)
  | .list _ => exact (by decide +kernel : kitB "list" "bool" = some false)
  | .tuple _ => exact (by decide +kernel : kitB "tuple" "bool" = some false)
  | .dict _ => exact (by decide +kernel : kitB "dict" "bool" = some false)
theorem k_tuple (v : PyData) : kitB (tyD v) "tuple" = some (match v with | .tuple _ => true | _ => false) := by
  match v with
  | .none => exact (by decide +kernel : kitB "NoneType" "tuple" = some false)
  | .bool _ => exact (by decide +kernel : kitB "bool" "tuple" = some false)
  | .int _ => exact (by decide +kernel : kitB "int" "tuple" = some false)
  | .str _ => exact (by decide +kernel : kitB "str" "tuple" = some false)
  | .list _ => exact (by decide +kernel : kitB "list" "tuple" = some false)
  | .tuple _ => exact (by decide +kernel : kitB "tuple" "tuple" = some true)
  | .dict _ => exact (by decide +kernel : kitB "dict" "tuple" = some false)
theorem k_str (v : PyData) : kitB (tyD v) "str" = some (match v with | .str _ => true | _ => false) := by
  match v with
  | .none => exact (by decide +kernel : kitB "NoneType" "str" = some false)
  | .bool _ => exact (by decide +kernel : kitB "bool" "str" = some false)
  | .int _ => exact (by decide +kernel : kitB "int" "str" = some false)
  | .str _ => exact (by decide +kernel : kitB "str" "str" = some true)
  | .list _ => exact (by decide +kernel : kitB "list" "str" = some false)
  | .tuple _ => exact (by decide +kernel : kitB "tuple" "str" = some false)
  | .dict _ => exact (by decide +kernel : kitB "dict" "str" = some false)
/-- what the top has bound -/
structure Top (mg : Str → Option Value) : Prop where
  isi : mg "isinstance" = none
  int : mg "int" = none
  bool : mg "bool" = none
  str : mg "str" = none
  tuple : mg "tuple" = none
  len : mg "len" = none
  abs : mg "abs" = none
  range : mg "range" = none
  all : mg "all" = none
  long : ∃ t, mg "_TOO_LONG" = some (.int (10 ^ 60) t)
  gcd : mg "gcd" = some (.builtin "math.gcd")
section
variable {P : Program} {w : World} {K : PySem.W.Frag} {mg : Str → Option Value} {base : Heap} {f : Addr} {fd : FuncData}
abbrev sWhole : Stmt := top 8
theorem scWhole : FnScope ["value"] ["value"] (defScope sWhole) := ⟨rfl, rfl, rfl, by decide +kernel, rfl, by decide +kernel, by decide +kernel⟩
def rWhole : Rel := fun as s d s' => ∃ v, as = [.val v] ∧ d = .bool (isW v) ∧ s' = s
theorem ok_whole (F : Fun K "is_whole" "is_whole" sWhole f fd) (T : Top mg) : FnOk P w K mg base CX0 1 f fd ["value"] (spD rWhole) := by
  refine okD F scWhole (by rintro _ _ _ _ ⟨v, rfl, _⟩; rfl) fun cdv A outer s0 H0 E C z as s₁ d s h => ?_
  obtain ⟨v, rfl, rfl, rfl⟩ := h
  refine sr_ret (EV.is (ev_and (ev_isi T.isi T.int (ev_var 0) (k_int v)) fun _ => ev_b1 (ev_not (ev_isi T.isi T.bool (ev_var 0) (k_bool v)))) ?_)
  cases v <;> rfl
abbrev sInteger : Stmt := top 9
theorem scInteger : FnScope ["value"] ["value"] (defScope sInteger) := ⟨rfl, rfl, rfl, by decide +kernel, rfl, by decide +kernel, by decide +kernel⟩
def intg : PyData → Bool
  | .int i => decide (-(10 ^ 60) < i) && decide (i < 10 ^ 60)
  | _ => false
def rInteger : Rel := fun as s d s' => ∃ v, as = [.val v] ∧ d = .bool (intg v) ∧ s' = s
theorem ok_integer (F : Fun K "is_integer" "is_integer" sInteger f fd) (T : Top mg) (G : Dn P w K mg base 1 "is_whole" rWhole) : FnOk P w K mg base CX0 2 f fd ["value"] (spD rInteger) := by
  refine okD F scInteger (by rintro _ _ _ _ ⟨v, rfl, _⟩; rfl) fun cdv A outer s0 H0 E C z as s₁ d s h => ?_
  obtain ⟨v, rfl, rfl, rfl⟩ := h
  obtain ⟨tl, hl⟩ := T.long
  refine sr_ret ?_
  match v with
  | .int i => exact ev_andT (ev_call G C.hr (ea_cons (ev_var 0) ea_nil) ⟨_, rfl, rfl, rfl⟩) (ev_b1 (et_chainLt (ev_neg (ev_glob rfl hl ⟨tl, rfl⟩)) (ev_var 0) (ev_glob rfl hl ⟨tl, rfl⟩)))
  | .none => exact ev_andF (ev_call G C.hr (ea_cons (ev_var 0) ea_nil) ⟨_, rfl, rfl, rfl⟩)
  | .bool _ => exact ev_andF (ev_call G C.hr (ea_cons (ev_var 0) ea_nil) ⟨_, rfl, rfl, rfl⟩)
  | .str _ => exact ev_andF (ev_call G C.hr (ea_cons (ev_var 0) ea_nil) ⟨_, rfl, rfl, rfl⟩)
  | .list _ => exact ev_andF (ev_call G C.hr (ea_cons (ev_var 0) ea_nil) ⟨_, rfl, rfl, rfl⟩)
  | .tuple _ => exact ev_andF (ev_call G C.hr (ea_cons (ev_var 0) ea_nil) ⟨_, rfl, rfl, rfl⟩)
  | .dict _ => exact ev_andF (ev_call G C.hr (ea_cons (ev_var 0) ea_nil) ⟨_, rfl, rfl, rfl⟩)
abbrev sFrac : Stmt := top 10
theorem scFrac : FnScope ["value", "top", "bottom"] ["value"] (defScope sFrac) := ⟨rfl, rfl, rfl, by decide +kernel, rfl, by decide +kernel, by decide +kernel⟩
def fr2 (t b : PyData) : Bool := match t, b with
  | .int t, .int b => decide (1 ≤ b) && decide (((Nat.gcd t.natAbs b.natAbs : Nat) : Int) = 1)
  | _, _ => false
def frac : PyData → Bool
  | .tuple [t, b] => fr2 t b
  | _ => false
def rFrac : Rel := fun as s d s' => ∃ v, as = [.val v] ∧ d = .bool (frac v) ∧ s' = s
theorem isW_int {v : PyData} (h : isW v = true) : ∃ i, v = .int i := by
  cases v <;> first | exact ⟨_, rfl⟩ | cases h
theorem isW_not {v : PyData} (h : isW v = false) : ∀ i, v ≠ .int i := fun i e => by
  subst e
  cases h
theorem fr2_l {t b : PyData} (h : isW t = false) : fr2 t b = false := by
  cases t <;> first | rfl | cases h
theorem fr2_r {t b : PyData} (h : isW b = false) : fr2 t b = false := by
  cases t <;> cases b <;> first | rfl | cases h
theorem ok_frac (F : Fun K "is_fraction" "is_fraction" sFrac f fd) (T : Top mg) (G : Dn P w K mg base 1 "is_whole" rWhole) : FnOk P w K mg base CX0 2 f fd ["value"] (spD rFrac) := by
  refine okD F scFrac (by rintro _ _ _ _ ⟨v, rfl, _⟩; rfl) fun cdv A outer s0 H0 E C z as s₁ d s h => ?_
  obtain ⟨v, rfl, rfl, rfl⟩ := h
  have bad : (∀ xs, v ≠ .tuple xs) → SR (cxOf CX0 P w K mg base ["value", "top", "bottom"] "is_fraction" (defScope sFrac) f cdv A outer s0 H0 E).nox z (defBody sFrac) [.val v, .un, .un] s (.rt (.bool false) s) := fun hv =>
    sr_ifT (et_w (ew_orT (et_notT (et_val (ev_isi T.isi T.tuple (ev_var 0) (by rw [k_tuple]; cases v <;> first | rfl | exact absurd rfl (hv _))))))) (sr_ret ev_bl)
  have odd : ∀ xs, xs.length ≠ 2 → SR (cxOf CX0 P w K mg base ["value", "top", "bottom"] "is_fraction" (defScope sFrac) f cdv A outer s0 H0 E).nox z (defBody sFrac) [.val (.tuple xs), .un, .un] s (.rt (.bool false) s) := fun xs hx => by
    refine sr_ifT ?_ (sr_ret ev_bl)
    refine et_w (ew_orF (et_notF (et_val (ev_isi T.isi T.tuple (ev_var 0) (k_tuple (.tuple xs))))) (ew_or1 ?_))
    exact ET.is (et_neI C.hu (ev_bltn call_len rb_lenT T.len (ed_cons (ev_var 0) ed_nil)) ev_int) (by simp; omega)
  match v, bad with
  | .int i, bad => exact bad (fun _ h => by cases h)
  | .none, bad => exact bad (fun _ h => by cases h)
  | .bool _, bad => exact bad (fun _ h => by cases h)
  | .str _, bad => exact bad (fun _ h => by cases h)
  | .list _, bad => exact bad (fun _ h => by cases h)
  | .dict _, bad => exact bad (fun _ h => by cases h)
  | .tuple [], _ => exact odd _ (by simp)
  | .tuple [_], _ => exact odd _ (by simp)
  | .tuple (_ :: _ :: _ :: _), _ => exact odd _ (by simp)
  | .tuple [t, b], _ =>
    refine sr_ifF (et_w (ew_orF (et_notF (et_val (ev_isi T.isi T.tuple (ev_var 0) (k_tuple (.tuple [t, b]))))) (ew_or1 (ET.is (et_neI C.hu (ev_bltn call_len rb_lenT T.len (ed_cons (ev_var 0) ed_nil)) ev_int) rfl)))) ?_
    refine sr_unp2 1 2 C.calm C.nd (ev_var 0) ?_
    refine sr_ret ?_
    show EV _ _ _ _ _ (.bool (fr2 t b)) _
    cases ht : isW t with
    | false =>
      rw [fr2_l ht]
      exact ev_andF (ev_call G C.hr (ea_cons (ev_var 1) ea_nil) ⟨_, rfl, by rw [ht], rfl⟩)
    | true =>
      refine ev_andT (ev_call G C.hr (ea_cons (ev_var 1) ea_nil) ⟨_, rfl, by rw [ht], rfl⟩) ?_
      cases hb : isW b with
      | false =>
        rw [fr2_r hb]
        exact ev_andF (ev_call G C.hr (ea_cons (ev_var 2) ea_nil) ⟨_, rfl, by rw [hb], rfl⟩)
      | true =>
        refine ev_andT (ev_call G C.hr (ea_cons (ev_var 2) ea_nil) ⟨_, rfl, by rw [hb], rfl⟩) ?_
        obtain ⟨t, rfl⟩ := isW_int ht
        obtain ⟨b, rfl⟩ := isW_int hb
        exact ev_and (ev_ge (ev_var 2) ev_int) fun _ => ev_b1 (ev_eqI C.hu (ev_bfun cr_gcd rb_gcd T.gcd (ed_cons (ev_var 1) (ed_cons (ev_var 2) ed_nil))) ev_int)
end
end K8


set_option Elab.async false
set_option linter.all false
set_option maxRecDepth 100000
namespace K8
open PySem PySem.Spec PyProof.Rows L2 DL
/-! ### numbers -/
def num (v : PyData) : Bool := intg v || frac v
/-- v is the number t / b -/
inductive Nm : PyData → Int → Int → Prop
  | int {t : Int} : -(10 ^ 60) < t → t < 10 ^ 60 → Nm (.int t) t 1
  | fr {t b : Int} : 1 ≤ b → Nat.gcd t.natAbs b.natAbs = 1 → Nm (.tuple [.int t, .int b]) t b
theorem Nm.num {v : PyData} {t b : Int} (h : Nm v t b) : num v = true := by
  cases h with
  | int h1 h2 =>
    have : intg (.int t) = true := by
      simp only [intg, Bool.and_eq_true, decide_eq_true_eq]
      exact ⟨h1, h2⟩
    simp [K8.num, this]
  | fr h1 h2 =>
    have : frac (.tuple [.int t, .int b]) = true := by simp [frac, fr2, h1, h2]
    simp [K8.num, this]
theorem Nm.pos {v : PyData} {t b : Int} (h : Nm v t b) : 1 ≤ b := by
  cases h with
  | int h1 h2 => decide
  | fr h1 h2 => exact h1
theorem Nm.cop {v : PyData} {t b : Int} (h : Nm v t b) : Nat.gcd t.natAbs b.natAbs = 1 := by
  cases h with
  | int h1 h2 => simp
  | fr h1 h2 => exact h2
/-- of at most so many bits -/
def Bd (n : Nat) (t : Int) : Prop := t.natAbs < 2 ^ n
theorem Bd.mono {n m : Nat} {t : Int} (h : Bd n t) (k : n ≤ m) : Bd m t := Nat.lt_of_lt_of_le h (Nat.pow_le_pow_right (by decide) k)
theorem Bd.mul {n m : Nat} {t u : Int} (h : Bd n t) (k : Bd m u) : Bd (n + m) (t * u) := wide_lt h k
theorem Bd.add {n : Nat} {t u : Int} (h : Bd n t) (k : Bd n u) : Bd (n + 1) (t + u) := by
  unfold Bd at *
  have : (2 : Nat) ^ (n + 1) = 2 ^ n + 2 ^ n := by rw [Nat.pow_succ]; omega
  omega
theorem Bd.neg {n : Nat} {t : Int} (h : Bd n t) : Bd n (-t) := by
  unfold Bd at *
  omega
theorem Bd.sub {n : Nat} {t u : Int} (h : Bd n t) (k : Bd n u) : Bd (n + 1) (t - u) := by
  rw [Int.sub_eq_add_neg]
  exact h.add k.neg
theorem Bd.cmul {n m : Nat} {t u : Int} (h : Bd n t) (k : Bd m u) (hn : 0 < n := by decide) (hm : 0 < m := by decide) (hs : n + m ≤ 1000000 := by decide) : CMulW t u := wide_mul h k hn hm hs
theorem Bd.cdiv {n : Nat} {t u : Int} (h : Bd n u) (h0 : u ≠ 0) (hn : 0 < n := by decide) (hs : n ≤ 9000 := by decide) : CDivZ t u := ⟨h0, Nat.lt_of_lt_of_le (PySem.Flt.log2_lt_of hn h) hs⟩
/-- the quotient in lowest terms -/
def gq (t b : Int) : Int := if b < 0 then -((Nat.gcd t.natAbs b.natAbs : Nat) : Int) else ((Nat.gcd t.natAbs b.natAbs : Nat) : Int)
def frT (t b : Int) : Int := t.fdiv (gq t b)
def frB (t b : Int) : Int := b.fdiv (gq t b)
def frD (t b : Int) : PyData := .tuple [.int (frT t b), .int (frB t b)]
theorem gq_ne {t b : Int} (h : b ≠ 0) : gq t b ≠ 0 := by
  have : 0 < Nat.gcd t.natAbs b.natAbs := Nat.gcd_pos_of_pos_right _ (by omega)
  unfold gq
  split <;> omega
theorem gq_bd {n : Nat} {t b : Int} (h : b ≠ 0) (k : Bd n b) : Bd n (gq t b) := by
  have h1 : Nat.gcd t.natAbs b.natAbs ≤ b.natAbs := Nat.gcd_le_right _ (by omega)
  have h2 : (gq t b).natAbs = Nat.gcd t.natAbs b.natAbs := by
    unfold gq
    split <;> omega
  unfold Bd at *
  omega
section
variable {P : Program} {w : World} {K : PySem.W.Frag} {mg : Str → Option Value} {base : Heap} {f : Addr} {fd : FuncData}
abbrev sNumber : Stmt := top 11
theorem scNumber : FnScope ["value"] ["value"] (defScope sNumber) := ⟨rfl, rfl, rfl, by decide +kernel, rfl, by decide +kernel, by decide +kernel⟩
def rNumber : Rel := fun as s d s' => ∃ v, as = [.val v] ∧ d = .bool (num v) ∧ s' = s
theorem ok_number (F : Fun K "is_number" "is_number" sNumber f fd) (G1 : Dn P w K mg base 2 "is_integer" rInteger) (G2 : Dn P w K mg base 2 "is_fraction" rFrac) : FnOk P w K mg base CX0 3 f fd ["value"] (spD rNumber) := by
  refine okD F scNumber (by rintro _ _ _ _ ⟨v, rfl, _⟩; rfl) fun cdv A outer s0 H0 E C z as s₁ d s h => ?_
  obtain ⟨v, rfl, rfl, rfl⟩ := h
  refine sr_ret (ev_or (ev_call G1 C.hr (ea_cons (ev_var 0) ea_nil) ⟨_, rfl, rfl, rfl⟩) fun _ => ev_b1 (ev_call G2 C.hr (ea_cons (ev_var 0) ea_nil) ⟨_, rfl, rfl, rfl⟩))
abbrev sNeed : Stmt := top 12
theorem scNeed : FnScope ["value"] ["value"] (defScope sNeed) := ⟨rfl, rfl, rfl, by decide +kernel, rfl, by decide +kernel, by decide +kernel⟩
def rNeed : Rel := fun as s d s' => ∃ v, as = [.val v] ∧ num v = true ∧ d = .none ∧ s' = s
theorem ok_need (F : Fun K "need_number" "need_number" sNeed f fd) (G : Dn P w K mg base 3 "is_number" rNumber) : FnOk P w K mg base CX0 4 f fd ["value"] (spD rNeed) := by
  refine okN F scNeed (by rintro _ _ _ _ ⟨v, rfl, _⟩; rfl) fun cdv A outer s0 H0 E C z as s₁ d s h => ?_
  obtain ⟨v, rfl, hv, rfl, rfl⟩ := h
  refine ⟨rfl, _, sr_ifF (et_notF (et_val (ev_call G C.hr (ea_cons (ev_var 0) ea_nil) ⟨_, rfl, by rw [hv], rfl⟩))) sr_nil⟩
abbrev sPair : Stmt := top 13
theorem scPair : FnScope ["number"] ["number"] (defScope sPair) := ⟨rfl, rfl, rfl, by decide +kernel, rfl, by decide +kernel, by decide +kernel⟩
def rPair : Rel := fun as s d s' => ∃ v t b, as = [.val v] ∧ Nm v t b ∧ d = .tuple [.int t, .int b] ∧ s' = s
theorem ok_pair (F : Fun K "as_pair" "as_pair" sPair f fd) (T : Top mg) : FnOk P w K mg base CX0 1 f fd ["number"] (spD rPair) := by
  refine okD F scPair (by rintro _ _ _ _ ⟨v, t, b, rfl, _⟩; rfl) fun cdv A outer s0 H0 E C z as s₁ d s h => ?_
  obtain ⟨v, t, b, rfl, hv, rfl, rfl⟩ := h
  cases hv with
  | int h1 h2 =>
    refine sr_ifF (et_val (ev_isi T.isi T.tuple (ev_var 0) (k_tuple (.int t)))) ?_
    exact sr_ret (ev_tup (ed_cons (ev_var 0) (ed_cons ev_int ed_nil)))
  | fr h1 h2 =>
    refine sr_ifT (et_val (ev_isi T.isi T.tuple (ev_var 0) (k_tuple (.tuple [.int t, .int b])))) ?_
    exact sr_ret (ev_var 0)
abbrev sQuot : Stmt := top 14
theorem scQuot : FnScope ["top", "bottom", "divisor"] ["top", "bottom"] (defScope sQuot) := ⟨rfl, rfl, rfl, by decide +kernel, rfl, by decide +kernel, by decide +kernel⟩
def rQuot : Rel := fun as s d s' => ∃ t b, as = [.val (.int t), .val (.int b)] ∧ b ≠ 0 ∧ Bd 9000 b ∧ d = frD t b ∧ s' = s
theorem ok_quot (F : Fun K "fraction" "fraction" sQuot f fd) (T : Top mg) (G : Dn P w K mg base 1 "is_whole" rWhole) : FnOk P w K mg base CX0 2 f fd ["top", "bottom"] (spD rQuot) := by
  refine okD F scQuot (by rintro _ _ _ _ ⟨v, t, rfl, _⟩; rfl) fun cdv A outer s0 H0 E C z as s₁ d s h => ?_
  obtain ⟨t, b, rfl, hb, hB, rfl, rfl⟩ := h
  refine sr_ifF (et_notF (et_val (ev_call G C.hr (ea_cons (ev_var 0) ea_nil) ⟨_, rfl, rfl, rfl⟩))) ?_
  refine sr_ifF (et_w (ew_orF (et_notF (et_val (ev_call G C.hr (ea_cons (ev_var 1) ea_nil) ⟨_, rfl, rfl, rfl⟩))) (ew_or1 (ET.is (et_eqI C.hu (ev_var 1) ev_int) (by simp [hb]))))) ?_
  refine sr_asg 2 C.nd (ev_bfun cr_gcd rb_gcd T.gcd (ed_cons (ev_var 0) (ed_cons (ev_var 1) ed_nil))) ?_
  have fin : SR (cxOf CX0 P w K mg base ["top", "bottom", "divisor"] "fraction" (defScope sQuot) f cdv A outer s0 H0 E).nox z ((defBody sQuot).drop 4) [.val (.int t), .val (.int b), .val (.int (gq t b))] s (.rt (frD t b) s) := by
    refine sr_ret (ev_tup (ed_cons (ev_div ?_ (ev_var 0) (ev_var 2)) (ed_cons (ev_div ?_ (ev_var 1) (ev_var 2)) ed_nil)))
    · exact (gq_bd hb hB).cdiv (gq_ne hb)
    · exact (gq_bd hb hB).cdiv (gq_ne hb)
  by_cases h0 : b < 0
  · refine sr_ifTn (ET.is (et_lt (ev_var 1) ev_int) (decide_eq_true h0)) (sr_asg 2 C.nd (ev_neg (ev_var 2)) sr_nil) ?_
    have e : gq t b = -((Nat.gcd t.natAbs b.natAbs : Nat) : Int) := if_pos h0
    rw [e] at fin
    exact fin
  · refine sr_ifF (ET.is (et_lt (ev_var 1) ev_int) (decide_eq_false h0)) ?_
    have e : gq t b = ((Nat.gcd t.natAbs b.natAbs : Nat) : Int) := if_neg h0
    rw [e] at fin
    exact fin
end
end K8


set_option Elab.async false
set_option linter.all false
set_option maxRecDepth 100000
namespace K8
open PySem PySem.Spec PyProof.Rows L2 DL PM
/-! ### fractions as rational numbers -/
/-- the pair of a rational number -/
def cD (q : Rat) : PyData := .tuple [.int q.num, .int (q.den : Int)]
theorem frD_rat {t b : Int} (hb : b ≠ 0) : frD t b = cD ((t : Rat) / (b : Rat)) := by
  rw [← Rat.divInt_eq_div]
  have hg : (b.gcd t : Int) ∣ t := Int.gcd_dvd_right ..
  have hg2 : (b.gcd t : Int) ∣ b := Int.gcd_dvd_left ..
  have g0 : 0 < b.gcd t := Int.gcd_pos_of_ne_zero_left _ hb
  have ge : (Nat.gcd t.natAbs b.natAbs) = b.gcd t := by
    rw [Nat.gcd_comm]
    rfl
  obtain ⟨k, hk⟩ := hg
  obtain ⟨m, hm⟩ := hg2
  have gi : (b.gcd t : Int) ≠ 0 := by omega
  unfold cD frD frT frB gq
  rw [ge, Rat.num_divInt, Rat.den_divInt, if_neg hb]
  generalize hG : b.gcd t = g at *
  have fd : ∀ x : Int, ((g : Int) * x).fdiv (g : Int) = x := fun x => by rw [Int.mul_comm, Int.mul_fdiv_cancel _ gi]
  have fdn : ∀ x : Int, ((g : Int) * x).fdiv (-(g : Int)) = -x := fun x => by
    rw [show (g : Int) * x = (-x) * (-(g : Int)) by rw [Int.neg_mul_neg, Int.mul_comm], Int.mul_fdiv_cancel _ (by omega)]
  have nb : ((b.natAbs / g : Nat) : Int) = (m.natAbs : Int) := by
    rw [hm, Int.natAbs_mul, Int.natAbs_natCast, Nat.mul_div_cancel_left _ g0]
  rw [nb]
  by_cases h : b < 0
  · rw [if_pos h, Int.sign_eq_neg_one_of_neg h]
    have m0 : m < 0 := by
      by_cases h2 : m < 0
      · exact h2
      · have := Int.mul_nonneg (show (0 : Int) ≤ g by omega) (show 0 ≤ m by omega)
        omega
    have e1 : t.fdiv (-(g : Int)) = -1 * t / (g : Int) := by
      conv => lhs; rw [hk]
      conv => rhs; rw [hk]
      rw [fdn, show -1 * ((g : Int) * k) = (g : Int) * (-k) by rw [Int.neg_one_mul, Int.mul_neg], Int.mul_ediv_cancel_left _ gi]
    have e2 : b.fdiv (-(g : Int)) = (m.natAbs : Int) := by
      conv => lhs; rw [hm]
      rw [fdn]
      omega
    rw [e1, e2]
  · rw [if_neg h, Int.sign_eq_one_of_pos (by omega)]
    have m0 : 0 < m := by
      by_cases h2 : 0 < m
      · exact h2
      · have := Int.mul_nonneg (show (0 : Int) ≤ g by omega) (show 0 ≤ -m by omega)
        rw [Int.mul_neg] at this
        omega
    have e1 : t.fdiv (g : Int) = 1 * t / (g : Int) := by
      rw [Int.one_mul]
      conv => lhs; rw [hk]
      conv => rhs; rw [hk]
      rw [fd, Int.mul_ediv_cancel_left _ gi]
    have e2 : b.fdiv (g : Int) = (m.natAbs : Int) := by
      conv => lhs; rw [hm]
      rw [fd]
      omega
    rw [e1, e2]
theorem rat_eq (q : Rat) : (q.num : Rat) / ((q.den : Int) : Rat) = q := by
  rw [← Rat.divInt_eq_div, Rat.num_divInt_den]
theorem den_pos (q : Rat) : 1 ≤ (q.den : Int) := by
  have := q.den_pos
  omega
theorem den_ne (q : Rat) : ((q.den : Int) : Rat) ≠ 0 := by
  intro h
  have := Rat.intCast_eq_zero_iff.mp h
  have := den_pos q
  omega
theorem ic_ne {b : Int} (h : b ≠ 0) : ((b : Int) : Rat) ≠ 0 := fun e => h (Rat.intCast_eq_zero_iff.mp e)
theorem fr_add (p q : Rat) : frD (p.num * (q.den : Int) + q.num * (p.den : Int)) ((p.den : Int) * (q.den : Int)) = cD (p + q) := by
  have h1 := den_pos p
  have h2 := den_pos q
  rw [frD_rat (Int.mul_ne_zero (by omega) (by omega))]
  have e1 := rat_eq p
  have e2 := rat_eq q
  have n1 := den_ne p
  have n2 := den_ne q
  congr 1
  rw [Rat.intCast_add, Rat.intCast_mul, Rat.intCast_mul, Rat.intCast_mul]
  grind
theorem fr_sub (p q : Rat) : frD (p.num * (q.den : Int) + (0 - q.num) * (p.den : Int)) ((p.den : Int) * (q.den : Int)) = cD (p - q) := by
  have h1 := den_pos p
  have h2 := den_pos q
  rw [frD_rat (Int.mul_ne_zero (by omega) (by omega))]
  have e1 := rat_eq p
  have e2 := rat_eq q
  have n1 := den_ne p
  have n2 := den_ne q
  congr 1
  rw [Rat.intCast_add, Rat.intCast_mul, Rat.intCast_mul, Rat.intCast_mul, Rat.intCast_sub, Rat.intCast_zero]
  grind
theorem fr_mul (p q : Rat) : frD (p.num * q.num) ((p.den : Int) * (q.den : Int)) = cD (p * q) := by
  have h1 := den_pos p
  have h2 := den_pos q
  rw [frD_rat (Int.mul_ne_zero (by omega) (by omega))]
  have e1 := rat_eq p
  have e2 := rat_eq q
  have n1 := den_ne p
  have n2 := den_ne q
  congr 1
  rw [Rat.intCast_mul, Rat.intCast_mul]
  grind
/-! sizes -/
/-- q is a whole number over M, at most A -/
def Sz (M A : Nat) (q : Rat) : Prop := ∃ k : Int, q * ((M : Int) : Rat) = (k : Rat) ∧ k.natAbs ≤ A * M
section
variable {M N A B : Nat} {p q : Rat}
theorem Sz.add (h : Sz M A p) (k : Sz M B q) : Sz M (A + B) (p + q) := by
  obtain ⟨i, h1, h2⟩ := h
  obtain ⟨j, k1, k2⟩ := k
  refine ⟨i + j, by rw [Rat.intCast_add]; grind, ?_⟩
  have : (A + B) * M = A * M + B * M := Nat.add_mul ..
  omega
theorem Sz.mul (h : Sz M A p) (k : Sz N B q) : Sz (M * N) (A * B) (p * q) := by
  obtain ⟨i, h1, h2⟩ := h
  obtain ⟨j, k1, k2⟩ := k
  refine ⟨i * j, by rw [Int.natCast_mul, Rat.intCast_mul, Rat.intCast_mul]; grind, ?_⟩
  rw [Int.natAbs_mul, show A * B * (M * N) = (A * M) * (B * N) by grind]
  exact Nat.mul_le_mul h2 k2
theorem Sz.neg (h : Sz M A p) : Sz M A (-p) := by
  obtain ⟨i, h1, h2⟩ := h
  exact ⟨-i, by rw [Rat.intCast_neg]; grind, by omega⟩
theorem Sz.mono (h : Sz M A p) (hA : A ≤ B) : Sz M B p := by
  obtain ⟨i, h1, h2⟩ := h
  exact ⟨i, h1, Nat.le_trans h2 (Nat.mul_le_mul_right _ hA)⟩
theorem Sz.wide (h : Sz M A p) (N : Nat) : Sz (M * N) A p := by
  obtain ⟨i, h1, h2⟩ := h
  refine ⟨i * (N : Int), by rw [Int.natCast_mul, Rat.intCast_mul, Rat.intCast_mul]; grind, ?_⟩
  rw [Int.natAbs_mul, Int.natAbs_natCast, ← Nat.mul_assoc]
  exact Nat.mul_le_mul_right _ h2
theorem Sz.int {i : Int} (h : i.natAbs ≤ A) : Sz M A (i : Rat) := ⟨i * (M : Int), by rw [Rat.intCast_mul], by rw [Int.natAbs_mul, Int.natAbs_natCast]; exact Nat.mul_le_mul_right _ h⟩
theorem Sz.zero : Sz M A 0 := ⟨0, by grind, by simp⟩
theorem Sz.eq (h : Sz M A p) (hM : M ≠ 0) : ∃ k : Int, p = Rat.divInt k (M : Int) ∧ k.natAbs ≤ A * M := by
  obtain ⟨k, h1, h2⟩ := h
  refine ⟨k, ?_, h2⟩
  rw [Rat.divInt_eq_div]
  have := ic_ne (show (M : Int) ≠ 0 by omega)
  grind
theorem Sz.den (h : Sz M A p) (hM : M ≠ 0) : p.den ∣ M := by
  obtain ⟨k, rfl, h2⟩ := h.eq hM
  rw [Rat.den_divInt, if_neg (by omega), Int.natAbs_natCast]
  have : (M : Int).gcd k ∣ M := by
    have := Int.gcd_dvd_left (a := (M : Int)) (b := k)
    exact Int.natCast_dvd_natCast.mp this
  exact Nat.div_dvd_of_dvd this
theorem Sz.denLe (h : Sz M A p) (hM : M ≠ 0) : p.den ≤ M := Nat.le_of_dvd (by omega) (h.den hM)
theorem Sz.num (h : Sz M A p) (hM : M ≠ 0) : p.num.natAbs ≤ A * M := by
  obtain ⟨k, rfl, h2⟩ := h.eq hM
  rw [Rat.num_divInt, Int.sign_eq_one_of_pos (by omega), Int.one_mul]
  have g0 : 0 < (M : Int).gcd k := Int.gcd_pos_of_ne_zero_left _ (by omega)
  have gd : ((M : Int).gcd k : Int) ∣ k := Int.gcd_dvd_right ..
  rw [Int.natAbs_ediv_of_dvd gd]
  exact Nat.le_trans (Nat.div_le_self ..) h2
/-- an integer that is c times q -/
theorem Sz.whole {v c : Int} (h : Sz M A q) (hM : M ≠ 0) (e : (v : Rat) = (c : Rat) * q) : v.natAbs ≤ c.natAbs * A := by
  obtain ⟨k, h1, h2⟩ := h
  have : v * (M : Int) = c * k := by
    apply Rat.intCast_inj.mp
    rw [Rat.intCast_mul, Rat.intCast_mul, e]
    grind
  have h3 : v.natAbs * M = c.natAbs * k.natAbs := by
    have := congrArg Int.natAbs this
    rwa [Int.natAbs_mul, Int.natAbs_mul, Int.natAbs_natCast] at this
  have h4 : v.natAbs * M ≤ c.natAbs * A * M := by
    rw [h3, Nat.mul_assoc]
    exact Nat.mul_le_mul_left _ h2
  exact Nat.le_of_mul_le_mul_right h4 (by omega)
end
/-- all numbers of a polynomial -/
def PSz (M A : Nat) (p : List Rat) : Prop := ∀ q ∈ p, Sz M A q
section
variable {M N A B : Nat} {p q : List Rat} {a x : Rat}
theorem PSz.nil : PSz M A [] := fun q h => by cases h
theorem PSz.cons (h : Sz M A a) (k : PSz M A p) : PSz M A (a :: p) := fun q hq => by
  rcases List.mem_cons.mp hq with rfl | hq
  · exact h
  · exact k q hq
theorem PSz.head (h : PSz M A (a :: p)) : Sz M A a := h a (List.mem_cons_self ..)
theorem PSz.tail (h : PSz M A (a :: p)) : PSz M A p := fun q hq => h q (List.mem_cons_of_mem _ hq)
theorem PSz.mono (h : PSz M A p) (hA : A ≤ B) : PSz M B p := fun q hq => (h q hq).mono hA
theorem PSz.wide (h : PSz M A p) (N : Nat) : PSz (M * N) A p := fun q hq => (h q hq).wide N
theorem PSz.add : ∀ {p q : List Rat}, PSz M A p → PSz M B q → PSz M (A + B) (PM.add p q)
  | [], q, _, k => by rw [PM.add]; exact k.mono (by omega)
  | a :: p, [], h, _ => by rw [PM.add]; exact h.mono (by omega); simp
  | a :: p, b :: q, h, k => by rw [PM.add]; exact .cons (h.head.add k.head) (PSz.add h.tail k.tail)
theorem PSz.smul (h : Sz M A a) (k : PSz N B p) : PSz (M * N) (A * B) (PM.smul a p) := fun y hy => by
  obtain ⟨w, hw, rfl⟩ := List.mem_map.mp hy
  exact h.mul (k w hw)
theorem PSz.mul : ∀ {p : List Rat}, PSz M A p → PSz N B q → PSz (M * N) (p.length * (A * B)) (PM.mul p q)
  | [], _, _ => by rw [PM.mul]; exact .nil
  | a :: p, h, k => by
    rw [PM.mul, List.length_cons, show (p.length + 1) * (A * B) = A * B + p.length * (A * B) by grind]
    exact (PSz.smul h.head k).add (.cons .zero (PSz.mul h.tail k))
theorem PSz.strip (h : PSz M A p) : PSz M A (PM.strip p) := by
  induction p with
  | nil => exact h
  | cons a p ih =>
    have := ih h.tail
    rw [PM.strip]
    cases hs : PM.strip p with
    | nil =>
      by_cases ha : a = 0
      · simp only [ha, if_true]
        exact .nil
      · simp only [ha, if_false]
        exact .cons h.head .nil
    | cons b q =>
      rw [hs] at this
      exact .cons h.head this
theorem strip_len {p : List Rat} : (PM.strip p).length ≤ p.length := by
  induction p with
  | nil => exact Nat.le_refl _
  | cons a p ih =>
    rw [PM.strip]
    cases hs : PM.strip p with
    | nil =>
      by_cases ha : a = 0 <;> simp [ha]
    | cons b q =>
      rw [hs] at ih
      simp at ih ⊢
      exact ih
theorem nc_int : ∀ n : Nat, (PM.nc n : Rat) = ((n : Int) : Rat)
  | 0 => rfl
  | n + 1 => by rw [PM.nc, nc_int n, Int.natCast_add, Rat.intCast_add]; rfl
theorem PSz.derF : ∀ {p : List Rat} (n : Nat), PSz M A p → PSz M ((n + p.length) * A) (PM.derF n p)
  | [], n, _ => .nil
  | a :: p, n, h => by
    rw [PM.derF]
    refine .cons ?_ ((PSz.derF (n + 1) h.tail).mono (Nat.mul_le_mul_right _ (by simp; omega)))
    rw [nc_int]
    have := (Sz.int (M := 1) (A := n) (i := (n : Int)) (by omega)).mul h.head
    rw [Nat.one_mul] at this
    exact this.mono (Nat.mul_le_mul_right _ (by simp))
theorem PSz.der {p : List Rat} (h : PSz M A p) : PSz M (p.length * A) (PM.der p) := by
  cases p with
  | nil => exact .nil
  | cons a p =>
    rw [PM.der]
    have := PSz.derF 1 h.tail
    rwa [Nat.add_comm] at this
theorem PSz.ev (hx : Sz N B x) : ∀ {p : List Rat}, PSz M A p → Sz (M * N ^ p.length) (A * (B + 1) ^ p.length) (PM.ev x p)
  | [], _ => .zero
  | a :: p, h => by
    have ih := PSz.ev hx h.tail
    rw [PM.ev, List.length_cons]
    have h1 := h.head.wide (N ^ (p.length + 1))
    have h2 := hx.mul ih
    rw [show N * (M * N ^ p.length) = M * N ^ (p.length + 1) by rw [Nat.pow_succ]; grind] at h2
    refine (h1.add h2).mono ?_
    have : A * 1 ≤ A * (B + 1) ^ p.length := Nat.mul_le_mul_left _ (Nat.pow_pos (by omega))
    rw [Nat.pow_succ, show A * ((B + 1) ^ p.length * (B + 1)) = A * (B + 1) ^ p.length + B * (A * (B + 1) ^ p.length) by grind]
    omega
end
end K8


set_option Elab.async false
set_option linter.all false
set_option maxRecDepth 100000
set_option exponentiation.threshold 3000
namespace K8
open PySem PySem.Spec PyProof.Rows L2 DL PM
section
variable {X : Cx} {z : Z} {es : List Sl} {s s1 s2 : S}
theorem rb_max (hc : X.calm = true) {i j : Int} : RB z s (fun xs H Q => ∃ i j, xs = [.int i, .int j] ∧ Q (.int (if j > i then j else i)) H) [.int i, .int j] (.int (max i j)) := fun vs H at_ h Q q => by
  cases h with
  | cons h r =>
    cases h
    cases r with
    | cons h r =>
      cases h
      cases r
      refine ⟨i, j, rfl, ?_⟩
      have e : (if j > i then j else i) = max i j := by
        by_cases h : j > i
        · rw [if_pos h]; omega
        · rw [if_neg h]; omega
      rw [e]
      exact q _ H (.refl H) at_ (.int _)
theorem rb_min (hc : X.calm = true) {i j : Int} : RB z s (fun xs H Q => ∃ i j, xs = [.int i, .int j] ∧ Q (.int (if j < i then j else i)) H) [.int i, .int j] (.int (min i j)) := fun vs H at_ h Q q => by
  cases h with
  | cons h r =>
    cases h
    cases r with
    | cons h r =>
      cases h
      cases r
      refine ⟨i, j, rfl, ?_⟩
      have e : (if j < i then j else i) = min i j := by
        by_cases h : j < i
        · rw [if_pos h]; omega
        · rw [if_neg h]; omega
      rw [e]
      exact q _ H (.refl H) at_ (.int _)
end
theorem bd_pow {w : Int} {n : Nat} (h : Bd n w) (a : Nat) : Bd (n * a + 1) (w ^ a) := by
  unfold Bd at *
  rw [Int.natAbs_pow]
  have h1 : w.natAbs ^ a ≤ (2 ^ n) ^ a := Nat.pow_le_pow_left (Nat.le_of_lt h) a
  rw [← Nat.pow_mul] at h1
  have h2 : (2 : Nat) ^ (n * a) < 2 ^ (n * a + 1) := Nat.pow_lt_pow_right (by decide) (by omega)
  omega
theorem bd_pow40 {w : Int} (h : Bd 30 w) {a : Nat} (ha : a ≤ 40) : Bd 1201 (w ^ a) := (bd_pow h a).mono (by omega)

structure Top8 (mg : Str → Option Value) : Prop where
  max : mg "max" = none
  zip : mg "zip" = none
  enum : mg "enumerate" = none
  list : mg "list" = none
  lcm : mg "lcm" = some (.builtin "math.lcm")
  deg : ∃ t, mg "MAX_DEGREE" = some (.int 40 t)
section
variable {X : Cx} {z : Z} {es : List Sl} {s s1 s2 : S} {iter elt a b e : Expr} {ds : List PyData} {o : Out} {rest : List Stmt} {pos p p1 p2 p3 : Pos}
/-- y = [e for x in a tuple] -/
theorem sr_lcFT {j k : Nat} {x y : Str} {scope : Scope} {py spos : Pos} (hc : X.calm = true) (hN : X.N.Nodup) (f : PyData → PyData) (hit : EV X z iter es s (.tuple ds) s) (hl : ds.length ≤ 100000) (hB : BlkOk X.N X.env.scope scope [(x, j)]) (hg : PgIn X scope (.Name x p) (gName j))
    (He : ∀ d ∈ ds, ∀ z' : Z, Blk X scope fun Y => EV Y z' elt (es.set j (.val d)) s (f d) s) (kk : SR X z rest (es.set k (.val (.list (ds.map f)))) s o) (hi : X.N[k]? = some y := by rfl) (hy : List.lookup y X.env.scope.names = some NameKind.local := by rfl)
    (hsw : swapsWith (.ListComp elt [{ target := .Name x p, iter := iter, ifs := [], is_async := 0 }] scope pos) (some (.Name y py)) spos.line X.env = pure true := by exact sw_true rfl rfl rfl (by decide +kernel)) (hs : ∀ x, foldedSetIterable iter X.env x = pure x := by intro _; rfl) :
    SR X z (.Assign [.Name y py] (.ListComp elt [{ target := .Name x p, iter := iter, ifs := [], is_async := 0 }] scope pos) spos :: rest) es s o := fun σ H en at_ D q =>
  ⟨_, pss_cons (ps_setLc (i := k) (own := [(x, j)]) hc hN hi hy hsw (pi_tup wE_ok) hB hg (fun _ _ _ _ _ => pts_nil) tEl_ok hs) wB_ok, by
    refine hit σ H en at_ _ fun v H1 e1 a1 v1 => ?_
    cases v1 with
    | @tup a xs _ fa ha r =>
      have hx : xs.length = ds.length := r.length
      have g : ∀ i, i < xs.length → ds[i]? = some (ds.getD i .none) := fun i hi => by
        rw [List.getD_eq_getElem?_getD, List.getElem?_eq_getElem (by omega)]
        rfl
      refine ⟨a, rfl, ⟨xs, .inl (.inl ha)⟩, fun D' hD => ?_⟩
      refine lc_gen (walk_tup (K := X.K) (a := a) (xs := xs)) (fun _ => s) (fun _ => s) (en.mono e1) a1 hD (fun i => ds.getD i .none) (fun H' e => .inl (.inl (e a _ fa ha))) (fun i x H' H2 hi hy => ⟨hy.1, ?_⟩) (by omega) (fun _ => true) (fun i => (ds.take i).map f) rfl (fun z' i hi σ H en at_ Q q => q H (.refl H) at_)
        (fun z' i hi _ => ⟨f (ds.getD i .none), take_succ (g i hi), fun σ H en at_ Q q s0 H0 C cl fp => He _ (List.mem_of_getElem? (g i hi)) z' s0 H0 C cl fp σ H en at_ Q q⟩) (fun i _ h => by cases h) (fun H' e a2 d2 => ?_)
      · obtain ⟨d, hd, hv⟩ := r.getV i x hy.2
        have := g i hi
        rw [hd] at this
        rw [← Option.some.inj this]
        exact hv
      · rw [hx, List.take_length] at d2
        exact kk _ H' ((en.mono (e1.trans e)).set k (.val d2)) a2 D (q.mono (e1.trans e))⟩
end
/-- ints as data -/
def iD (W : List Int) : List PyData := W.map .int
theorem iD_get {W : List Int} {i : Nat} {d : PyData} (h : (iD W)[i]? = some d) : ∃ w, W[i]? = some w ∧ d = .int w := by
  unfold iD at h
  rw [List.getElem?_map] at h
  cases hw : W[i]? with
  | none => rw [hw] at h; cases h
  | some w => rw [hw] at h; exact ⟨w, rfl, (Option.some.inj h).symm⟩
theorem iD_mem {W : List Int} {d : PyData} (h : d ∈ iD W) : ∃ w ∈ W, d = .int w := by
  obtain ⟨w, hw, rfl⟩ := List.mem_map.mp h
  exact ⟨w, hw, rfl⟩
theorem iD_len {W : List Int} : (iD W).length = W.length := List.length_map ..
theorem cut_to {ds : List PyData} {m : Nat} (h : m ≤ ds.length) : DL.cutD ds none (some (m : Int)) = ds.take m := by
  unfold DL.cutD
  rw [HT.sIx_none, HT.sIx_nat, List.drop_zero, Nat.sub_zero, Nat.min_eq_left h]
theorem cut_from {ds : List PyData} {m : Nat} : DL.cutD ds (some (m : Int)) none = ds.drop m := by
  unfold DL.cutD
  rw [HT.sIx_none, HT.sIx_nat]
  by_cases h : m ≤ ds.length
  · rw [Nat.min_eq_left h, List.take_of_length_le (by rw [List.length_drop]; exact Nat.le_refl _)]
  · rw [Nat.min_eq_right (by omega), Nat.sub_self, List.take_zero, List.drop_eq_nil_of_le (by omega)]
/-- the numbers of a row, as data -/
def NmQ (d : PyData) (q : Rat) : Prop := Nm d q.num (q.den : Int)
inductive NmL : List PyData → List Rat → Prop
  | nil : NmL [] []
  | cons {d : PyData} {q : Rat} {ds : List PyData} {p : List Rat} : NmQ d q → NmL ds p → NmL (d :: ds) (q :: p)
theorem NmL.length {ds : List PyData} {p : List Rat} (h : NmL ds p) : ds.length = p.length := by
  induction h with
  | nil => rfl
  | cons _ _ ih => rw [List.length_cons, List.length_cons, ih]
theorem NmL.mem {ds : List PyData} {p : List Rat} (h : NmL ds p) {d : PyData} (hd : d ∈ ds) : ∃ q ∈ p, NmQ d q := by
  induction h with
  | nil => cases hd
  | @cons e q _ _ h1 h2 ih =>
    rcases List.mem_cons.mp hd with rfl | hd
    · exact ⟨q, List.mem_cons_self .., h1⟩
    · obtain ⟨r, hr, h⟩ := ih hd
      exact ⟨r, List.mem_cons_of_mem _ hr, h⟩
def pairOf : PyData → PyData
  | .int t => .tuple [.int t, .int 1]
  | d => d
theorem NmQ.pair {d : PyData} {q : Rat} (h : NmQ d q) : pairOf d = cD q := by
  unfold NmQ at h
  unfold cD
  generalize q.num = t at *
  generalize (q.den : Int) = b at *
  cases h <;> rfl
theorem NmL.pairs {ds : List PyData} {p : List Rat} (h : NmL ds p) : ds.map pairOf = p.map cD := by
  induction h with
  | nil => rfl
  | cons h1 _ ih => rw [List.map_cons, List.map_cons, h1.pair, ih]
/-- the common bottom -/
def cmF : Nat → List Rat → Nat
  | c, [] => c
  | c, q :: p => cmF (Nat.lcm c q.den) p
def cm (p : List Rat) : Nat := cmF 1 p
/-- the tops over it -/
def wr (p : List Rat) : List Int := p.map fun q => q.num * ((cm p / q.den : Nat) : Int)
theorem cmF_dvd {M : Nat} : ∀ {p : List Rat} {c : Nat}, c ∣ M → (∀ q ∈ p, q.den ∣ M) → cmF c p ∣ M
  | [], _, h, _ => h
  | q :: p, c, h, k => by rw [cmF]; exact cmF_dvd (Nat.lcm_dvd h (k q (List.mem_cons_self ..))) fun q hq => k q (List.mem_cons_of_mem _ hq)
theorem dvd_cmF : ∀ {p : List Rat} {c d : Nat}, d ∣ c → d ∣ cmF c p
  | [], _, _, h => h
  | q :: p, c, d, h => by rw [cmF]; exact dvd_cmF (Nat.dvd_trans h (Nat.dvd_lcm_left ..))
theorem den_cmF : ∀ {p : List Rat} {c : Nat} {q : Rat}, q ∈ p → q.den ∣ cmF c p
  | r :: p, c, q, h => by
    rw [cmF]
    rcases List.mem_cons.mp h with rfl | h
    · exact dvd_cmF (Nat.dvd_lcm_right ..)
    · exact den_cmF h
theorem cmF_take_succ : ∀ {p : List Rat} {c : Nat} {i : Nat} {q : Rat}, p[i]? = some q → cmF c (p.take (i + 1)) = Nat.lcm (cmF c (p.take i)) q.den
  | [], _, _, _, h => by simp at h
  | r :: p, c, 0, q, h => by
    cases Option.some.inj h
    rfl
  | r :: p, c, i + 1, q, h => by
    rw [List.take_succ_cons, List.take_succ_cons, cmF, cmF]
    exact cmF_take_succ h
/-- what a row may be -/
structure RowOk (p : List Rat) (M A : Nat) : Prop where
  m : M ≠ 0
  m2 : M < 2 ^ 40
  a : A * M < 2 ^ 2900
  sz : PSz M A p
  len : p.length ≤ 60
theorem RowOk.cmd {p : List Rat} {M A : Nat} (h : RowOk p M A) : cm p ∣ M := cmF_dvd (Nat.one_dvd _) fun q hq => (h.sz q hq).den h.m
theorem RowOk.cm0 {p : List Rat} {M A : Nat} (h : RowOk p M A) : cm p ≠ 0 := fun e => by
  have := h.cmd
  rw [e] at this
  exact h.m (Nat.eq_zero_of_zero_dvd this)
theorem RowOk.cmB {p : List Rat} {M A : Nat} (h : RowOk p M A) : Bd 40 (cm p : Int) := by
  have := Nat.le_of_dvd (Nat.pos_of_ne_zero h.m) h.cmd
  have := h.m2
  unfold Bd
  omega
theorem RowOk.num {p : List Rat} {M A : Nat} (h : RowOk p M A) {q : Rat} (hq : q ∈ p) : Bd 2900 q.num := Nat.lt_of_le_of_lt ((h.sz q hq).num h.m) h.a
section
variable {P : Program} {w : World} {K : PySem.W.Frag} {mg : Str → Option Value} {base : Heap} {f : Addr} {fd : FuncData}
abbrev sRaised : Stmt := top 15
theorem scRaised : FnScope ["whole", "many", "product", "square", "left"] ["whole", "many"] (defScope sRaised) := ⟨rfl, rfl, rfl, by decide +kernel, rfl, by decide +kernel, by decide +kernel⟩
def rRaised : Rel := fun as s d s' => ∃ (x : Int) (m : Nat), as = [.val (.int x), .val (.int (m : Int))] ∧ m ≤ 40 ∧ Bd 30 x ∧ d = .int (x ^ m) ∧ s' = s
theorem ok_raised (F : Fun K "raised" "raised" sRaised f fd) : FnOk P w K mg base CX0 1 f fd ["whole", "many"] (spD rRaised) := by
  refine okD F scRaised (by rintro _ _ _ _ ⟨x, m, rfl, _⟩; rfl) fun cdv A outer s0 H0 E C z as s₁ d s h => ?_
  obtain ⟨x, m, rfl, hm, hx, rfl, rfl⟩ := h
  refine sr_asg 2 C.nd ev_int (sr_asg 3 C.nd (ev_var 0) (sr_asg 4 C.nd (ev_var 1) ?_))
  refine sr_whileW C.hp (fun l es s' => s' = s ∧ ∃ (a b : Nat) (q : Sl), es = [.val (.int x), .val (.int (m : Int)), .val (.int (x ^ a)), q, .val (.int (l : Int))] ∧ a + b * l = m ∧ (0 < l → q = .val (.int (x ^ b)) ∧ 0 < b)) (m0 := m)
    ⟨rfl, 0, 1, .val (.int x), by rw [Int.pow_zero]; rfl, by omega, fun _ => ⟨by rw [Int.pow_one], by decide⟩⟩ ?_
  rintro l es s' ⟨rfl, a, b, q, rfl, hs, hq⟩
  by_cases hl : 0 < l
  · right
    obtain ⟨rfl, hb⟩ := hq hl
    have bl : b ≤ b * l := Nat.le_mul_of_pos_right _ hl
    have h2 : ((l : Int)).fmod 2 = ((l % 2 : Nat) : Int) := by
      rw [Int.fmod_eq_emod_of_nonneg _ (by decide)]
      rfl
    have h3 : ((l : Int)).fdiv 2 = ((l / 2 : Nat) : Int) := by
      rw [Int.fdiv_eq_ediv_of_nonneg _ (by decide)]
      rfl
    refine ⟨ET.is (et_gt (ev_var 4) ev_int) (decide_eq_true (by omega)), ?_⟩
    -- the product's step
    obtain ⟨a', ha', step⟩ : ∃ a' : Nat, a' + (b + b) * (l / 2) = m ∧ ∀ o, SR (cxOf CX0 P w K mg base ["whole", "many", "product", "square", "left"] "raised" (defScope sRaised) f cdv A outer s0 H0 E).nox z ((loopB (defBody sRaised)[3]?).drop 1) [.val (.int x), .val (.int (m : Int)), .val (.int (x ^ a')), .val (.int (x ^ b)), .val (.int (l : Int))] s' o →
        SR (cxOf CX0 P w K mg base ["whole", "many", "product", "square", "left"] "raised" (defScope sRaised) f cdv A outer s0 H0 E).nox z (loopB (defBody sRaised)[3]?) [.val (.int x), .val (.int (m : Int)), .val (.int (x ^ a)), .val (.int (x ^ b)), .val (.int (l : Int))] s' o := by
      by_cases ho : l % 2 = 1
      · refine ⟨a + b, ?_, fun o k => ?_⟩
        · have e1 : l = 2 * (l / 2) + 1 := by omega
          have e2 : b * l = b * (2 * (l / 2)) + b := by
            conv => lhs; rw [e1]
            rw [Nat.mul_add, Nat.mul_one]
          have e3 : b * (2 * (l / 2)) = (b + b) * (l / 2) := by rw [← Nat.mul_assoc, Nat.mul_two]
          omega
        · have e4 : b + a ≤ 40 := by omega
          refine sr_ifTn (ET.is (et_eqI C.hu (ev_mod (by decide) (ev_var 4) ev_int) ev_int) (decide_eq_true (by rw [h2, ho]; rfl))) (sr_asg 2 C.nd (ev_mul ((bd_pow40 hx (a := a) (by omega)).cmul (bd_pow40 hx (a := b) (by omega))) (ev_var 2) (ev_var 3)) sr_nil) ?_
          rw [← Int.pow_add]
          exact k
      · refine ⟨a, ?_, fun o k => ?_⟩
        · have e1 : l = 2 * (l / 2) := by omega
          have e2 : b * l = b * (2 * (l / 2)) := congrArg (b * ·) e1
          have e3 : b * (2 * (l / 2)) = (b + b) * (l / 2) := by rw [← Nat.mul_assoc, Nat.mul_two]
          omega
        · exact sr_ifF (ET.is (et_eqI C.hu (ev_mod (by decide) (ev_var 4) ev_int) ev_int) (decide_eq_false (by rw [h2]; omega))) k
    by_cases hh : 0 < l / 2
    · refine ⟨[.val (.int x), .val (.int (m : Int)), .val (.int (x ^ a')), .val (.int (x ^ (b + b))), .val (.int ((l / 2 : Nat) : Int))], s', l / 2, by omega, ⟨rfl, a', b + b, _, rfl, ha', fun _ => ⟨rfl, by omega⟩⟩, step _ ?_⟩
      have e5 : (b + b) ≤ (b + b) * (l / 2) := Nat.le_mul_of_pos_right _ hh
      refine sr_asg 4 C.nd (ev_div ⟨by decide, by decide⟩ (ev_var 4) ev_int) ?_
      rw [h3]
      refine sr_ifTn (ET.is (et_gt (ev_var 4) ev_int) (decide_eq_true (by omega))) (sr_asg 3 C.nd (ev_mul ((bd_pow40 hx (a := b) (by omega)).cmul (bd_pow40 hx (a := b) (by omega))) (ev_var 3) (ev_var 3)) sr_nil) ?_
      rw [← Int.pow_add]
      exact sr_nil
    · refine ⟨[.val (.int x), .val (.int (m : Int)), .val (.int (x ^ a')), .val (.int (x ^ b)), .val (.int ((l / 2 : Nat) : Int))], s', l / 2, by omega, ⟨rfl, a', b + b, _, rfl, ha', fun h => absurd h hh⟩, step _ ?_⟩
      refine sr_asg 4 C.nd (ev_div ⟨by decide, by decide⟩ (ev_var 4) ev_int) ?_
      rw [h3]
      refine sr_ifF (ET.is (et_gt (ev_var 4) ev_int) (decide_eq_false (by omega))) ?_
      exact sr_nil
  · left
    have e0 : l = 0 := by omega
    subst e0
    have ea : a = m := by omega
    subst ea
    exact ⟨ET.is (et_gt (ev_var 4) ev_int) (decide_eq_false (by decide)), sr_ret (ev_var 2)⟩

abbrev sWRow : Stmt := top 17
theorem scWRow : FnScope ["row", "pairs", "common", "_", "bottom", "number", "top"] ["row"] (defScope sWRow) := ⟨rfl, rfl, rfl, by decide +kernel, rfl, by decide +kernel, by decide +kernel⟩
def rWRow : Rel := fun as s d s' => ∃ ds p M A, as = [.val (.tuple ds)] ∧ NmL ds p ∧ RowOk p M A ∧ d = .tuple [.list (iD (wr p)), .int (cm p : Int)] ∧ s' = s
theorem ok_wrow (F : Fun K "whole_row" "whole_row" sWRow f fd) (T : Top mg) (T8 : Top8 mg) (G : Dn P w K mg base 1 "as_pair" rPair) : FnOk P w K mg base CX0 2 f fd ["row"] (spD rWRow) := by
  refine okD F scWRow (by rintro _ _ _ _ ⟨ds, p, M, A, rfl, _⟩; rfl) fun cdv A0 outer s0 H0 E C z as s₁ d s h => ?_
  obtain ⟨ds, p, M, A, rfl, hp, ok, rfl, rfl⟩ := h
  have hl := hp.length
  have h60 := ok.len
  have ps : ds.map pairOf = (p.map fun q => ((PyData.int q.num, PyData.int (q.den : Int)) : PyData × PyData)).map fun q => .tuple [q.1, q.2] := by
    rw [hp.pairs, List.map_map]
    rfl
  refine sr_lcFT (j := 5) (k := 1) C.calm C.nd pairOf (ev_var 0) (by omega) (blkOk_by (N := ["row", "pairs", "common", "_", "bottom", "number", "top"]) (sc := defScope sWRow) (own := [("number", 5)]) (by decide +kernel)) (fun _ _ _ _ _ => pg_name C.nd rfl (Or.inl rfl)) (fun d hd z' s0 H0 C' cl fp => ?_) ?_
  · obtain ⟨q, hq, hn⟩ := hp.mem hd
    exact ev_call G C.hr (ea_cons (ev_var 5) ea_nil) ⟨_, _, _, rfl, hn, by rw [hn.pair]; rfl, rfl⟩
  · rw [ps]
    refine sr_asg 2 C.nd ev_int ?_
    refine sr_forP 3 4 C.hp C.calm C.nd _ (ev_var 1) (fun i => [.val (.tuple ds), .val (.list ((p.map fun q => ((PyData.int q.num, PyData.int (q.den : Int)) : PyData × PyData)).map fun q => .tuple [q.1, q.2])), .val (.int (cmF 1 (p.take i) : Int)), .un, .un, .un, .un]) (fun _ => s)
      (by exact Le.refl _) rfl (fun i q hq => ?_) ?_ (pg_tup C.calm (pgs_cons (pg_name C.nd rfl (.inl rfl)) (pgs_cons (pg_name C.nd rfl (.inl rfl)) pgs_nil)))
    · rw [List.getElem?_map] at hq
      cases hr : p[i]? with
      | none => rw [hr] at hq; cases hq
      | some r =>
        rw [hr] at hq
        cases Option.some.inj hq
        have hm := List.mem_of_getElem? hr
        have b1 : cmF 1 (p.take i) ∣ M := cmF_dvd (Nat.one_dvd _) fun q hq => (ok.sz q (List.mem_of_mem_take hq)).den ok.m
        have b2 := Nat.le_of_dvd (Nat.pos_of_ne_zero ok.m) b1
        have b3 := (ok.sz r hm).denLe ok.m
        have b4 := ok.m2
        refine sr_asg 2 C.nd (EV.is (ev_bfun cr_lcm (rb_lcm (i := (cmF 1 (p.take i) : Int)) (j := (r.den : Int)) (by omega) (by omega)) T8.lcm (ed_cons (ev_var 2) (ed_cons (ev_var 4) ed_nil))) ?_) (sr_le sr_nil (.same (.same (.same (.un (.un (.un (.un .nil))))))))
        show PyData.int ((Nat.lcm (cmF 1 (p.take i)) r.den : Nat) : Int) = _
        rw [cmF_take_succ hr]
    · rw [List.length_map, List.take_length]
      refine sr_ret (ev_tup (ed_cons (EV.is (ev_lcP (j := 6) (k := 4) C.calm C.nd (by decide) _ (fun q => match q with | (.int t, .int b) => .int (t * ((cm p / b.natAbs : Nat) : Int)) | _ => .none) (ev_var 1) (by rw [List.length_map]; omega) (blkOk_by (N := ["row", "pairs", "common", "_", "bottom", "number", "top"]) (sc := defScope sWRow) (own := [("top", 6), ("bottom", 4)]) (by decide +kernel))
        (fun _ _ _ _ _ => pg_tup C.calm (pgs_cons (pg_name C.nd rfl (Or.inl rfl)) (pgs_cons (pg_name C.nd rfl (Or.inl rfl)) pgs_nil))) (fun q hq z' s0 H0 C' cl fp => ?_)) ?_) (ed_cons (ev_var 2) ed_nil)))
      · obtain ⟨r, hr, rfl⟩ := List.mem_map.mp hq
        have b3 := (ok.sz r hr).denLe ok.m
        have b4 := ok.m2
        have bD : Bd 40 (r.den : Int) := by
          unfold Bd
          omega
        have d0 := den_pos r
        have e1 : ((cm p : Int)).fdiv (r.den : Int) = ((cm p / r.den : Nat) : Int) := by
          rw [Int.fdiv_eq_ediv_of_nonneg _ (by omega)]
          rfl
        have bq : Bd 40 ((cm p / r.den : Nat) : Int) := by
          have h4 := ok.cmB
          have h3 : cm p / r.den ≤ cm p := Nat.div_le_self ..
          unfold Bd at *
          rw [Int.natAbs_natCast] at h4 ⊢
          exact Nat.lt_of_le_of_lt h3 h4
        exact ev_mul ((ok.num hr).cmul bq) (ev_var 6) (EV.is (ev_div (bD.cdiv (by omega)) (ev_var 2) (ev_var 4)) (by show PyData.int ((cm p : Int).fdiv (r.den : Int)) = .int ((cm p / (r.den : Int).natAbs : Nat) : Int); rw [e1, Int.natAbs_natCast]))
      · unfold iD wr
        rw [List.map_map, List.map_map]
        rfl
end
end K8


set_option Elab.async false
set_option linter.all false
set_option maxRecDepth 100000
set_option exponentiation.threshold 3000
namespace K8
open PySem PySem.Spec PyProof.Rows L2 DL PM
/-! ### rows of integers -/
section
variable {α : Type} [Lean.Grind.CommRing α] [DecidableEq α]
theorem co_take (p : List α) (m i : Nat) : co (p.take m) i = if i < m then co p i else 0 := by
  unfold co
  rw [List.getD_eq_getElem?_getD, List.getElem?_take, List.getD_eq_getElem?_getD]
  split <;> rfl
theorem co_get {p : List α} {i : Nat} {a : α} (h : p[i]? = some a) : co p i = a := by
  unfold co
  rw [List.getD_eq_getElem?_getD, h]
  rfl
theorem get_co {p : List α} {i : Nat} (h : i < p.length) : p[i]? = some (co p i) := by
  unfold co
  rw [List.getD_eq_getElem?_getD, List.getElem?_eq_getElem h]
  rfl
theorem take_down {p : List α} {m : Nat} (h : m < p.length) (h0 : co p m = 0) : strip (p.take m) = strip (p.take (m + 1)) := strip_ext _ _ fun i => by
  rw [co_take, co_take]
  by_cases h1 : i < m
  · rw [if_pos h1, if_pos (by omega)]
  · rw [if_neg h1]
    by_cases h2 : i = m
    · subst h2
      rw [if_pos (by omega), h0]
    · rw [if_neg (by omega)]
theorem tidy_take {p : List α} {m : Nat} (h : m ≤ p.length) (h0 : m = 0 ∨ co p (m - 1) ≠ 0) : strip (p.take m) = p.take m := last_tidy fun hn => by
  have hl : (p.take m).length = m := by rw [List.length_take]; omega
  rw [hl, co_take]
  rcases h0 with rfl | h0
  · simp at hn
  · have : 0 < m := by
      rcases Nat.eq_zero_or_pos m with rfl | h
      · simp at hn
      · exact h
    rw [if_pos (by omega)]
    exact h0
/-- the sum padded -/
theorem pad_add (p q : List α) (n : Nat) (hn : max p.length q.length = n) : Eqv (List.zipWith (· + ·) (p ++ List.replicate (n - p.length) 0) (q ++ List.replicate (n - q.length) 0)) (add p q) := fun i => by
  have pad : ∀ (p : List α) (k : Nat), co (p ++ List.replicate k 0) i = co p i := fun p k => by
    unfold co
    rw [List.getD_eq_getElem?_getD, List.getD_eq_getElem?_getD, List.getElem?_append]
    split
    · rfl
    · rename_i h
      rw [List.getElem?_eq_none (l := p) (by omega), List.getElem?_replicate]
      split <;> rfl
  have l1 : (p ++ List.replicate (n - p.length) (0 : α)).length = n := by rw [List.length_append, List.length_replicate]; omega
  have l2 : (q ++ List.replicate (n - q.length) (0 : α)).length = n := by rw [List.length_append, List.length_replicate]; omega
  rw [co_add, ← pad p (n - p.length), ← pad q (n - q.length)]
  generalize p ++ List.replicate (n - p.length) (0 : α) = a at *
  generalize q ++ List.replicate (n - q.length) (0 : α) = b at *
  by_cases h : i < n
  · rw [co_get (p := List.zipWith (· + ·) a b) (a := co a i + co b i)]
    rw [List.getElem?_zipWith, get_co (p := a) (by omega), get_co (p := b) (by omega)]
  · rw [co_ge _ (by rw [List.length_zipWith]; omega), co_ge a (by omega), co_ge b (by omega)]
    grind
/-- a product half made: i rows, and j places of the next -/
def half (p q : List α) (L i j : Nat) : List α := (List.range L).map fun k => msum p q k i + (if i ≤ k ∧ k < i + j then co p i * co q (k - i) else 0)
theorem half_len {p q : List α} {L i j : Nat} : (half p q L i j).length = L := by rw [half, List.length_map, List.length_range]
theorem half_get {p q : List α} {L i j k : Nat} (h : k < L) : (half p q L i j)[k]? = some (msum p q k i + (if i ≤ k ∧ k < i + j then co p i * co q (k - i) else 0)) := by
  rw [half, List.getElem?_map, List.getElem?_range h]
  rfl
theorem half_zero {p q : List α} {L : Nat} : half p q L 0 0 = List.replicate L 0 := by
  apply List.ext_getElem?
  intro k
  by_cases h : k < L
  · rw [half_get h, List.getElem?_replicate, if_pos h, if_neg (by omega), msum]
    congr 1
    grind
  · rw [List.getElem?_eq_none (by rw [half_len]; omega), List.getElem?_eq_none (by rw [List.length_replicate]; omega)]
theorem half_next {p q : List α} {L i j : Nat} (h : i + j < L) : (half p q L i j).set (i + j) (co (half p q L i j) (i + j) + co p i * co q j) = half p q L i (j + 1) := by
  apply List.ext_getElem?
  intro k
  rw [List.getElem?_set, half_len]
  by_cases hk : i + j = k
  · subst hk
    rw [if_pos rfl, if_pos h, half_get h, co_get (half_get h), if_neg (by omega), if_pos (by omega), show i + j - i = j by omega]
    congr 1
    grind
  · rw [if_neg hk]
    by_cases hl : k < L
    · rw [half_get hl, half_get hl]
      by_cases hc : i ≤ k ∧ k < i + j
      · rw [if_pos hc, if_pos (by omega)]
      · rw [if_neg hc, if_neg (by omega)]
    · rw [List.getElem?_eq_none (by rw [half_len]; omega), List.getElem?_eq_none (by rw [half_len]; omega)]
theorem half_row {p q : List α} {L i j : Nat} (h : q.length ≤ j) : half p q L i j = half p q L (i + 1) 0 := by
  apply List.ext_getElem?
  intro k
  by_cases hl : k < L
  · rw [half_get hl, half_get hl, msum, if_neg (show ¬ (i + 1 ≤ k ∧ k < i + 1 + 0) by omega)]
    by_cases h1 : i ≤ k
    · rw [if_pos h1]
      by_cases h2 : k < i + j
      · rw [if_pos ⟨h1, h2⟩]
        congr 1
        grind
      · rw [if_neg (by omega), co_ge q (i := k - i) (by omega)]
        congr 1
        grind
    · rw [if_neg h1, if_neg (by omega)]
      congr 1
      grind
  · rw [List.getElem?_eq_none (by rw [half_len]; omega), List.getElem?_eq_none (by rw [half_len]; omega)]
theorem msum_ge {p q : List α} {k : Nat} : ∀ n : Nat, n ≤ p.length → p.length + q.length ≤ k + 1 → msum p q k n = 0
  | 0, _, _ => rfl
  | n + 1, h1, h2 => by
    rw [msum, msum_ge n (by omega) h2]
    by_cases h : n ≤ k
    · rw [if_pos h, co_ge q (i := k - n) (by omega)]
      grind
    · rw [if_neg h]
      grind
theorem half_mul {p q : List α} {L : Nat} (h : p.length + q.length ≤ L + 1) : Eqv (half p q L p.length 0) (mul p q) := fun k => by
  rw [co_mul]
  by_cases hl : k < L
  · rw [co_get (half_get hl), if_neg (by omega)]
    grind
  · rw [co_ge _ (by rw [half_len]; omega), msum_ge _ (Nat.le_refl _) (by omega)]
theorem derF_get : ∀ (p : List α) (n i : Nat), (derF n p)[i]? = p[i]?.map fun a => nc (n + i) * a
  | [], n, i => by simp [derF]
  | a :: p, n, 0 => by simp [derF]
  | a :: p, n, i + 1 => by
    rw [derF, List.getElem?_cons_succ, List.getElem?_cons_succ, derF_get p (n + 1) i, show n + 1 + i = n + (i + 1) by omega]
theorem der_tail (p : List α) : der p = (derF 0 p).drop 1 := by
  cases p <;> rfl
end
theorem nc_i : ∀ n : Nat, (nc n : Int) = (n : Int)
  | 0 => rfl
  | n + 1 => by rw [nc, nc_i n]; omega
/-- scaled_value's pair -/
def svF (t b : Int) : List Int → Int × Int
  | [] => (0, 1)
  | e :: l => ((svF t b l).1 * t + e * (svF t b l).2, (svF t b l).2 * b)
section
variable {P : Program} {w : World} {K : PySem.W.Frag} {mg : Str → Option Value} {base : Heap} {f : Addr} {fd : FuncData}
abbrev sFOf : Stmt := top 18
theorem scFOf : FnScope ["wholes", "bottom", "whole"] ["wholes", "bottom"] (defScope sFOf) := ⟨rfl, rfl, rfl, by decide +kernel, rfl, by decide +kernel, by decide +kernel⟩
def rFOf : Rel := fun as s d s' => ∃ W b, as = [.val (.list (iD W)), .val (.int b)] ∧ b ≠ 0 ∧ Bd 9000 b ∧ W.length ≤ 1000 ∧ d = .tuple (W.map fun t => frD t b) ∧ s' = s
theorem ok_fof (F : Fun K "fractions_of" "fractions_of" sFOf f fd) (T : Top mg) (G : Dn P w K mg base 2 "fraction" rQuot) : FnOk P w K mg base CX0 3 f fd ["wholes", "bottom"] (spD rFOf) := by
  refine okD F scFOf (by rintro _ _ _ _ ⟨W, b, rfl, _⟩; rfl) fun cdv A0 outer s0 H0 E C z as s₁ d s h => ?_
  obtain ⟨W, b, rfl, h0, hB, hl, rfl, rfl⟩ := h
  have e : (iD W).map (fun d => match d with | .int t => frD t b | d => d) = W.map fun t => frD t b := by
    unfold iD
    rw [List.map_map]
    rfl
  rw [← e]
  refine sr_ret (ev_bty call_tuple_of rb_tuple T.tuple (ed_cons (ev_lcF (j := 2) C.calm C.nd _ (ev_var 0) (by rw [iD_len]; omega) (blkOk_by (N := ["wholes", "bottom", "whole"]) (sc := defScope sFOf) (own := [("whole", 2)]) (by decide +kernel)) (fun _ _ _ _ _ => pg_name C.nd rfl (Or.inl rfl)) (fun d hd z' s0 H0 C' cl fp => ?_)) ed_nil))
  obtain ⟨t, ht, rfl⟩ := iD_mem hd
  exact ev_call G C.hr (ea_cons (ev_var 2) (ea_cons (ev_var 1) ea_nil)) ⟨_, _, rfl, h0, hB, rfl, rfl⟩
abbrev sTrim : Stmt := top 19
theorem scTrim : FnScope ["wholes", "size"] ["wholes"] (defScope sTrim) := ⟨rfl, rfl, rfl, by decide +kernel, rfl, by decide +kernel, by decide +kernel⟩
def rTrim : Rel := fun as s d s' => ∃ W : List Int, (as = [.val (.list (iD W))] ∨ as = [.own (iD W)]) ∧ W.length ≤ 1000 ∧ d = .list (iD (strip W)) ∧ s' = s
theorem ok_trim (F : Fun K "trimmed" "trimmed" sTrim f fd) (T : Top mg) : FnOk P w K mg base CX0 1 f fd ["wholes"] (spD rTrim) := by
  refine okD F scTrim (by rintro _ _ _ _ ⟨W, rfl | rfl, _⟩ <;> rfl) fun cdv A0 outer s0 H0 E C z as s₁ d s h => ?_
  obtain ⟨W, has, hl, rfl, rfl⟩ := h
  rcases has with rfl | rfl
  · refine sr_asg 1 C.nd (ev_bltn call_len rb_len T.len (ed_cons (ev_var 0) ed_nil)) ?_
    rw [iD_len]
    refine sr_whileW C.hp (fun m es s' => s' = s ∧ es = [.val (.list (iD W)), .val (.int (m : Int))] ∧ m ≤ W.length ∧ strip (W.take m) = strip W) (m0 := W.length) ⟨rfl, rfl, Nat.le_refl _, by rw [List.take_length]⟩ ?_
    rintro m es s' ⟨rfl, rfl, hm, hs⟩
    have fin : (m = 0 ∨ co W (m - 1) ≠ 0) → SR (cxOf CX0 P w K mg base ["wholes", "size"] "trimmed" (defScope sTrim) f cdv A0 outer s0 H0 E).nox z ((defBody sTrim).drop 2) [.val (.list (iD W)), .val (.int (m : Int))] s' (.rt (.list (iD (strip W))) s') := fun h => by
      have e : iD (strip W) = DL.cutD (iD W) none (some (m : Int)) := by
        rw [cut_to (by rw [iD_len]; exact hm), ← hs, tidy_take hm h]
        unfold iD
        rw [List.map_take]
      rw [e]
      exact sr_ret (ev_slTo (ev_var 0) (ev_var 1))
    by_cases h0 : 0 < m
    · have hg := get_co (p := W) (i := m - 1) (by omega)
      have hi : EV (cxOf CX0 P w K mg base ["wholes", "size"] "trimmed" (defScope sTrim) f cdv A0 outer s0 H0 E).nox z (match (defBody sTrim)[1]? with | some (Stmt.While (Expr.BoolOp _ [_, Expr.Compare e _ _ _] _) _ _ _) => e | _ => .Constant .none 0 ⟨0, 0, 0, 0⟩) [.val (.list (iD W)), .val (.int (m : Int))] s' (.int (co W (m - 1))) s' :=
        ev_ixL (ev_var 0) (ev_sub (ev_var 1) ev_int) (by
          rw [show (m : Int) - 1 = ((m - 1 : Nat) : Int) by omega]
          refine atI_nat ?_
          unfold iD
          rw [List.getElem?_map, hg]
          rfl)
      by_cases h1 : co W (m - 1) = 0
      · right
        refine ⟨et_w (ew_andT (ET.is (et_gt (ev_var 1) ev_int) (decide_eq_true (by omega))) (ew_and1 (ET.is (et_eqI C.hu hi ev_int) (decide_eq_true h1)))), _, s', m - 1, by omega, ⟨rfl, rfl, by omega, ?_⟩, ?_⟩
        · rw [take_down (by omega) h1, show m - 1 + 1 = m by omega, hs]
        · refine sr_asg 1 C.nd (ev_sub (ev_var 1) ev_int) ?_
          rw [show (m : Int) - 1 = ((m - 1 : Nat) : Int) by omega]
          exact sr_nil
      · left
        exact ⟨et_w (ew_andT (ET.is (et_gt (ev_var 1) ev_int) (decide_eq_true (by omega))) (ew_and1 (ET.is (et_eqI C.hu hi ev_int) (decide_eq_false h1)))), fin (.inr h1)⟩
    · left
      exact ⟨et_w (ew_andF (ET.is (et_gt (ev_var 1) ev_int) (decide_eq_false (by omega)))), fin (.inl (by omega))⟩
  · refine sr_asg 1 C.nd (ev_lenO 0 T.len) ?_
    rw [iD_len]
    refine sr_whileW C.hp (fun m es s' => s' = s ∧ es = [.own (iD W), .val (.int (m : Int))] ∧ m ≤ W.length ∧ strip (W.take m) = strip W) (m0 := W.length) ⟨rfl, rfl, Nat.le_refl _, by rw [List.take_length]⟩ ?_
    rintro m es s' ⟨rfl, rfl, hm, hs⟩
    have fin : (m = 0 ∨ co W (m - 1) ≠ 0) → SR (cxOf CX0 P w K mg base ["wholes", "size"] "trimmed" (defScope sTrim) f cdv A0 outer s0 H0 E).nox z ((defBody sTrim).drop 2) [.own (iD W), .val (.int (m : Int))] s' (.rt (.list (iD (strip W))) s') := fun h => by
      have e : iD (strip W) = DL.cutD (iD W) none (some (m : Int)) := by
        rw [cut_to (by rw [iD_len]; exact hm), ← hs, tidy_take hm h]
        unfold iD
        rw [List.map_take]
      rw [e]
      exact sr_ret (ev_slToO 0 (ev_var 1))
    by_cases h0 : 0 < m
    · have hg := get_co (p := W) (i := m - 1) (by omega)
      have hi : EV (cxOf CX0 P w K mg base ["wholes", "size"] "trimmed" (defScope sTrim) f cdv A0 outer s0 H0 E).nox z (match (defBody sTrim)[1]? with | some (Stmt.While (Expr.BoolOp _ [_, Expr.Compare e _ _ _] _) _ _ _) => e | _ => .Constant .none 0 ⟨0, 0, 0, 0⟩) [.own (iD W), .val (.int (m : Int))] s' (.int (co W (m - 1))) s' :=
        ev_ixO (ds := iD W) 0 (ev_sub (ev_var 1) ev_int) (by
          rw [show (m : Int) - 1 = ((m - 1 : Nat) : Int) by omega]
          refine atI_nat ?_
          unfold iD
          rw [List.getElem?_map, hg]
          rfl)
      by_cases h1 : co W (m - 1) = 0
      · right
        refine ⟨et_w (ew_andT (ET.is (et_gt (ev_var 1) ev_int) (decide_eq_true (by omega))) (ew_and1 (ET.is (et_eqI C.hu hi ev_int) (decide_eq_true h1)))), _, s', m - 1, by omega, ⟨rfl, rfl, by omega, ?_⟩, ?_⟩
        · rw [take_down (by omega) h1, show m - 1 + 1 = m by omega, hs]
        · refine sr_asg 1 C.nd (ev_sub (ev_var 1) ev_int) ?_
          rw [show (m : Int) - 1 = ((m - 1 : Nat) : Int) by omega]
          exact sr_nil
      · left
        exact ⟨et_w (ew_andT (ET.is (et_gt (ev_var 1) ev_int) (decide_eq_true (by omega))) (ew_and1 (ET.is (et_eqI C.hu hi ev_int) (decide_eq_false h1)))), fin (.inr h1)⟩
    · left
      exact ⟨et_w (ew_andF (ET.is (et_gt (ev_var 1) ev_int) (decide_eq_false (by omega)))), fin (.inl (by omega))⟩
abbrev sWSum : Stmt := top 20
theorem scWSum : FnScope ["one", "other", "size", "first", "second", "entry", "further"] ["one", "other"] (defScope sWSum) := ⟨rfl, rfl, rfl, by decide +kernel, rfl, by decide +kernel, by decide +kernel⟩
def rWSum : Rel := fun as s d s' => ∃ V W : List Int, as = [.val (.list (iD V)), .val (.list (iD W))] ∧ V.length ≤ 100 ∧ W.length ≤ 100 ∧ d = .list (iD (strip (add V W))) ∧ s' = s
theorem ok_wsum (F : Fun K "whole_sum" "whole_sum" sWSum f fd) (T : Top mg) (T8 : Top8 mg) (G : Dn P w K mg base 1 "trimmed" rTrim) : FnOk P w K mg base CX0 2 f fd ["one", "other"] (spD rWSum) := by
  refine okD F scWSum (by rintro _ _ _ _ ⟨V, W, rfl, _⟩; rfl) fun cdv A0 outer s0 H0 E C z as s₁ d s h => ?_
  obtain ⟨V, W, rfl, hv, hw, rfl, rfl⟩ := h
  have mx : (max (V.length : Int) (W.length : Int)) = ((max V.length W.length : Nat) : Int) := by omega
  have pad : ∀ (U : List Int) (n : Nat), iD U ++ (List.replicate n [PyData.int 0]).flatten = iD (U ++ List.replicate n 0) := fun U n => by
    unfold iD
    rw [List.map_append, List.map_replicate]
    congr 1
    induction n with
    | zero => rfl
    | succ n ih => rw [List.replicate_succ, List.replicate_succ, List.flatten_cons, ih]; rfl
  generalize hn : max V.length W.length = n at *
  refine sr_asg (d := .int (n : Int)) 2 C.nd (EV.is (ev_bltn (call_max2 C.calm) (rb_max C.calm) T8.max (ed_cons (ev_bltn call_len rb_len T.len (ed_cons (ev_var 0) ed_nil)) (ed_cons (ev_bltn call_len rb_len T.len (ed_cons (ev_var 1) ed_nil)) ed_nil))) (by rw [iD_len, iD_len, mx])) ?_
  refine sr_asg (d := .list (iD (V ++ List.replicate (n - V.length) 0))) 3 C.nd (EV.is (ev_catL (ds := iD V) (by rw [iD_len]; simp; omega) (ev_var 0) (ev_rep (ds := [PyData.int 0]) (n := (n : Int) - (V.length : Int)) (by omega) (by omega) (by simp; omega) (ev_lst (ed_cons ev_int ed_nil)) (EV.is (ev_sub (ev_var 2) (ev_bltn call_len rb_len T.len (ed_cons (ev_var 0) ed_nil))) (by rw [iD_len])))) (by rw [show ((n : Int) - (V.length : Int)).toNat = n - V.length by omega, pad])) ?_
  refine sr_asg (d := .list (iD (W ++ List.replicate (n - W.length) 0))) 4 C.nd (EV.is (ev_catL (ds := iD W) (by rw [iD_len]; simp; omega) (ev_var 1) (ev_rep (ds := [PyData.int 0]) (n := (n : Int) - (W.length : Int)) (by omega) (by omega) (by simp; omega) (ev_lst (ed_cons ev_int ed_nil)) (EV.is (ev_sub (ev_var 2) (ev_bltn call_len rb_len T.len (ed_cons (ev_var 1) ed_nil))) (by rw [iD_len])))) (by rw [show ((n : Int) - (W.length : Int)).toNat = n - W.length by omega, pad])) ?_
  rw [← strip_ext _ _ (pad_add V W n hn)]
  have l1 : (V ++ List.replicate (n - V.length) (0 : Int)).length = n := by rw [List.length_append, List.length_replicate]; omega
  have l2 : (W ++ List.replicate (n - W.length) (0 : Int)).length = n := by rw [List.length_append, List.length_replicate]; omega
  generalize V ++ List.replicate (n - V.length) (0 : Int) = a at *
  generalize W ++ List.replicate (n - W.length) (0 : Int) = b at *
  have ez : iD (List.zipWith (· + ·) a b) = List.zipWith (fun d e => match d, e with | .int i, .int j => .int (i + j) | _, _ => .none) (iD a) (iD b) := by
    unfold iD
    rw [List.zipWith_map, List.map_zipWith]
  refine sr_ret (ev_call G C.hr (ea_cons (ev_lcZ (j := 5) (k := 6) C.calm C.nd T8.zip (by decide) (fun d e => match d, e with | .int i, .int j => .int (i + j) | _, _ => .none) (ed_cons (ev_var 3) (ed_cons (ev_var 4) ed_nil)) (by rw [iD_len, iD_len]; omega) (by rw [iD_len]; omega) (blkOk_by (N := ["one", "other", "size", "first", "second", "entry", "further"]) (sc := defScope sWSum) (own := [("entry", 5), ("further", 6)]) (by decide +kernel))
    (fun _ _ _ _ _ => pg_tup C.calm (pgs_cons (pg_name C.nd rfl (Or.inl rfl)) (pgs_cons (pg_name C.nd rfl (Or.inl rfl)) pgs_nil))) (fun i d1 d2 h1 h2 z' s0 H0 C' cl fp => ?_)) ea_nil) ⟨List.zipWith (· + ·) a b, .inl (by rw [ez]), by rw [List.length_zipWith]; omega, rfl, rfl⟩)
  obtain ⟨x, _, rfl⟩ := iD_get h1
  obtain ⟨y, _, rfl⟩ := iD_get h2
  exact ev_add (ev_var 5) (ev_var 6)
abbrev sWSca : Stmt := top 21
theorem scWSca : FnScope ["wholes", "factor", "entry"] ["wholes", "factor"] (defScope sWSca) := ⟨rfl, rfl, rfl, by decide +kernel, rfl, by decide +kernel, by decide +kernel⟩
def rWSca : Rel := fun as s d s' => ∃ (W : List Int) (c : Int), as = [.val (.list (iD W)), .val (.int c)] ∧ W.length ≤ 100 ∧ Bd 3000 c ∧ (∀ x ∈ W, Bd 3000 x) ∧ d = .list (iD (strip (smul c W))) ∧ s' = s
theorem ok_wsca (F : Fun K "whole_scaled" "whole_scaled" sWSca f fd) (G : Dn P w K mg base 1 "trimmed" rTrim) : FnOk P w K mg base CX0 2 f fd ["wholes", "factor"] (spD rWSca) := by
  refine okD F scWSca (by rintro _ _ _ _ ⟨W, c, rfl, _⟩; rfl) fun cdv A0 outer s0 H0 E C z as s₁ d s h => ?_
  obtain ⟨W, c, rfl, hl, hc, hw, rfl, rfl⟩ := h
  have ez : iD (smul c W) = (iD W).map (fun d => match d with | .int i => .int (c * i) | d => d) := by
    unfold iD smul
    rw [List.map_map, List.map_map]
    rfl
  refine sr_ret (ev_call G C.hr (ea_cons (ev_lcF (j := 2) C.calm C.nd (fun d => match d with | .int i => .int (c * i) | d => d) (ev_var 0) (by rw [iD_len]; omega) (blkOk_by (N := ["wholes", "factor", "entry"]) (sc := defScope sWSca) (own := [("entry", 2)]) (by decide +kernel)) (fun _ _ _ _ _ => pg_name C.nd rfl (Or.inl rfl)) (fun d hd z' s0 H0 C' cl fp => ?_)) ea_nil) ⟨smul c W, .inl (by rw [ez]), by unfold smul; rw [List.length_map]; omega, rfl, rfl⟩)
  obtain ⟨t, ht, rfl⟩ := iD_mem hd
  exact ev_mul (hc.cmul (hw t ht)) (ev_var 1) (ev_var 2)
abbrev sWPro : Stmt := top 22
theorem scWPro : FnScope ["one", "other", "entries", "place", "entry", "further", "factor"] ["one", "other"] (defScope sWPro) := ⟨rfl, rfl, rfl, by decide +kernel, rfl, by decide +kernel, by decide +kernel⟩
def rWPro : Rel := fun as s d s' => ∃ V W : List Int, as = [.val (.list (iD V)), .val (.list (iD W))] ∧ V.length ≤ 100 ∧ W.length ≤ 100 ∧ (∀ x ∈ V, Bd 3000 x) ∧ (∀ x ∈ W, Bd 3000 x) ∧ d = .list (iD (strip (mul V W))) ∧ s' = s
theorem ok_wpro (F : Fun K "whole_product" "whole_product" sWPro f fd) (T : Top mg) (T8 : Top8 mg) (G : Dn P w K mg base 1 "trimmed" rTrim) : FnOk P w K mg base CX0 2 f fd ["one", "other"] (spD rWPro) := by
  refine okO F scWPro (by rintro _ _ _ _ ⟨V, W, rfl, _⟩; rfl) (by rintro _ _ _ _ ⟨V, W, rfl, _⟩ ds h; simp at h) fun cdv A0 outer s0 H0 E C as s₁ d s h => ?_
  obtain ⟨V, W, rfl, hv, hw, bv, bw, rfl, rfl⟩ := h
  generalize hL : V.length + W.length - 1 = L
  have rep : (List.replicate L [PyData.int 0]).flatten = iD (half V W L 0 0) := by
    rw [half_zero]
    unfold iD
    rw [List.map_replicate]
    clear hL
    induction L with
    | zero => rfl
    | succ n ih => rw [List.replicate_succ, List.replicate_succ, List.flatten_cons, ih]; rfl
  have mx : (max 0 ((V.length : Int) + (W.length : Int) - 1)).toNat = L := by omega
  refine so_new (s1 := s) (ds := iD (half V W L 0 0)) 2 C.nd (fun z => ?_) ?_
  · rw [← rep, ← mx]
    exact en_rep (by omega) (by omega) (by simp; omega) (ev_lst (ed_cons ev_int ed_nil)) (ev_bltn (call_max2 C.calm) (rb_max C.calm) T8.max (ed_cons ev_int (ed_cons (ev_sub (EV.is (ev_add (ev_bltn call_len rb_len T.len (ed_cons (ev_var 0) ed_nil)) (ev_bltn call_len rb_len T.len (ed_cons (ev_var 1) ed_nil))) (by rw [iD_len, iD_len])) ev_int) ed_nil)))
  · refine so_forE 3 4 C.hp C.calm T8.enum (fun z => ed_cons (ev_var 0) ed_nil) (fun i => [.val (.list (iD V)), .val (.list (iD W)), .own (iD (half V W L i 0)), .un, .un, .un, .un]) (fun _ => s) (Le.refl _) rfl (fun i d hd => ?_) ?_ (pg_tup C.calm (pgs_cons (pg_name C.nd rfl (.inl rfl)) (pgs_cons (pg_name C.nd rfl (.inl rfl)) pgs_nil)))
    · obtain ⟨x, hx, rfl⟩ := iD_get hd
      have hi : i < V.length := (List.getElem?_eq_some_iff.mp hx).1
      have cx := co_get hx
      refine so_forE 5 6 C.hp C.calm T8.enum (fun z => ed_cons (ev_var 1) ed_nil) (fun j => [.val (.list (iD V)), .val (.list (iD W)), .own (iD (half V W L i j)), .val (.int (i : Int)), .val (.int x), .un, .un]) (fun _ => s) (Le.refl _) rfl (fun j d hd => ?_) ?_ (pg_tup C.calm (pgs_cons (pg_name C.nd rfl (.inl rfl)) (pgs_cons (pg_name C.nd rfl (.inl rfl)) pgs_nil)))
      · obtain ⟨y, hy, rfl⟩ := iD_get hd
        have hj : j < W.length := (List.getElem?_eq_some_iff.mp hy).1
        have cy := co_get hy
        have hlt : i + j < L := by omega
        have hget : (iD (half V W L i j))[i + j]? = some (.int (co (half V W L i j) (i + j))) := by
          unfold iD
          rw [List.getElem?_map, get_co (p := half V W L i j) (by rw [half_len]; exact hlt)]
          rfl
        have ix : ∀ z, EV (cxOf CX0 P w K mg base ["one", "other", "entries", "place", "entry", "further", "factor"] "whole_product" (defScope sWPro) f cdv A0 outer s0 H0 E).nox z (match (loopB (loopB (defBody sWPro)[1]?)[0]?)[0]? with | some (Stmt.Assign [Expr.Subscript _ e _] _ _) => e | _ => .Constant .none 0 ⟨0, 0, 0, 0⟩) [.val (.list (iD V)), .val (.list (iD W)), .own (iD (half V W L i j)), .val (.int (i : Int)), .val (.int x), .val (.int (j : Int)), .val (.int y)] s (.int ((i + j : Nat) : Int)) s := fun z => EV.is (ev_add (ev_var 3) (ev_var 5)) (by rw [Int.natCast_add])
        refine so_set (ds := iD (half V W L i j)) (j := i + j) (d := .int (co (half V W L i j) (i + j) + x * y)) 2 (fun z => ev_add (ev_ixO (ds := iD (half V W L i j)) 2 (EV.is (ev_add (ev_var 3) (ev_var 5)) (by rw [← Int.natCast_add])) (atI_nat (j := i + j) hget)) (ev_mul ((bv x (List.mem_of_getElem? hx)).cmul (bw y (List.mem_of_getElem? hy))) (ev_var 4) (ev_var 6))) ix (by rw [iD_len, half_len]; exact hlt) (pg_sub (pe_var rfl (.inl rfl)) wE_ok set_list) ?_
        have e : (iD (half V W L i j)).set (i + j) (.int (co (half V W L i j) (i + j) + x * y)) = iD (half V W L i (j + 1)) := by
          rw [← half_next hlt, cx, cy]
          unfold iD
          rw [List.map_set]
        rw [e]
        exact so_le so_nil (.same (.same (.same (.same (.same (.un (.un .nil)))))))
      · rw [iD_len, half_row (Nat.le_refl _)]
        exact so_le so_nil (.same (.same (.same (.un (.un (.un (.un .nil)))))))
    · rw [iD_len, ← strip_ext _ _ (half_mul (p := V) (q := W) (L := L) (by omega))]
      exact so_ret fun z => ev_call G C.hr (ea_own 2 ea_nil) ⟨half V W L V.length 0, .inr rfl, by rw [half_len]; omega, rfl, rfl⟩
abbrev sWDer : Stmt := top 23
theorem scWDer : FnScope ["wholes", "index", "entry"] ["wholes"] (defScope sWDer) := ⟨rfl, rfl, rfl, by decide +kernel, rfl, by decide +kernel, by decide +kernel⟩
def rWDer : Rel := fun as s d s' => ∃ W : List Int, as = [.val (.list (iD W))] ∧ W.length ≤ 100 ∧ (∀ x ∈ W, Bd 3000 x) ∧ d = .list (iD (der W)) ∧ s' = s
theorem ok_wder (F : Fun K "whole_derived" "whole_derived" sWDer f fd) (T8 : Top8 mg) : FnOk P w K mg base CX0 1 f fd ["wholes"] (spD rWDer) := by
  refine okD F scWDer (by rintro _ _ _ _ ⟨W, rfl, _⟩; rfl) fun cdv A0 outer s0 H0 E C z as s₁ d s h => ?_
  obtain ⟨W, rfl, hl, bw, rfl, rfl⟩ := h
  have e : iD (der W) = DL.cutD ((iD W).mapIdx fun i d => match d with | .int w => .int ((i : Int) * w) | d => d) (some ((1 : Nat) : Int)) none := by
    rw [cut_from, der_tail]
    unfold iD
    rw [List.map_drop]
    congr 1
    apply List.ext_getElem?
    intro i
    rw [List.getElem?_map, derF_get, List.getElem?_mapIdx, List.getElem?_map]
    cases W[i]? with
    | none => rfl
    | some w =>
      show some (PyData.int (nc (0 + i) * w)) = some (.int ((i : Int) * w))
      rw [nc_i, Nat.zero_add]
  rw [e]
  refine sr_ret (ev_slFrom (ev_lcE (j := 1) (k := 2) C.calm C.nd T8.enum (by decide) _ (ed_cons (ev_var 0) ed_nil) (by rw [iD_len]; omega) (blkOk_by (N := ["wholes", "index", "entry"]) (sc := defScope sWDer) (own := [("index", 1), ("entry", 2)]) (by decide +kernel))
    (fun _ _ _ _ _ => pg_tup C.calm (pgs_cons (pg_name C.nd rfl (Or.inl rfl)) (pgs_cons (pg_name C.nd rfl (Or.inl rfl)) pgs_nil))) (fun i d hd z' s0 H0 C' cl fp => ?_)) ev_int)
  obtain ⟨x, hx, rfl⟩ := iD_get hd
  have hi : i < W.length := (List.getElem?_eq_some_iff.mp hx).1
  exact ev_mulL (by omega) (ev_var 1) (ev_var 2)
abbrev sSVal : Stmt := top 24
theorem scSVal : FnScope ["wholes", "top", "bottom", "value", "weight", "entry"] ["wholes", "top", "bottom"] (defScope sSVal) := ⟨rfl, rfl, rfl, by decide +kernel, rfl, by decide +kernel, by decide +kernel⟩
def rSVal : Rel := fun as s d s' => ∃ (W : List Int) (t b : Int), as = [.val (.list (iD W)), .val (.int t), .val (.int b)] ∧ W.length ≤ 100 ∧ (∀ x ∈ W, Bd 9000 x) ∧ Bd 9000 t ∧ Bd 9000 b ∧ (∀ i, i ≤ W.length → Bd 9000 (svF t b (W.drop (W.length - i))).1 ∧ Bd 9000 (svF t b (W.drop (W.length - i))).2) ∧ d = .int (svF t b W).1 ∧ s' = s
theorem ok_sval (F : Fun K "scaled_value" "scaled_value" sSVal f fd) : FnOk P w K mg base CX0 1 f fd ["wholes", "top", "bottom"] (spD rSVal) := by
  refine okD F scSVal (by rintro _ _ _ _ ⟨W, t, b, rfl, _⟩; rfl) fun cdv A0 outer s0 H0 E C z as s₁ d s h => ?_
  obtain ⟨W, t, b, rfl, hl, bw, bt, bb, bs, rfl, rfl⟩ := h
  have e0 : W.drop (W.length - 0) = [] := by rw [Nat.sub_zero, List.drop_length]
  refine sr_asg 3 C.nd ev_int (sr_asg 4 C.nd ev_int ?_)
  refine sr_forL 5 C.hp C.calm C.nd (ev_rev (ev_var 0)) (fun i => [.val (.list (iD W)), .val (.int t), .val (.int b), .val (.int (svF t b (W.drop (W.length - i))).1), .val (.int (svF t b (W.drop (W.length - i))).2), .un]) (fun _ => s) (by rw [e0]; exact Le.refl _) rfl (fun i d hd => ?_) ?_
  · unfold iD at hd
    have hi : i < W.length := by
      have := (List.getElem?_eq_some_iff.mp hd).1
      rwa [List.length_reverse, List.length_map] at this
    rw [List.getElem?_reverse (by rw [List.length_map]; exact hi), List.length_map, List.getElem?_map] at hd
    obtain ⟨x, hx⟩ : ∃ x, W[W.length - 1 - i]? = some x := ⟨_, List.getElem?_eq_getElem (by omega)⟩
    rw [hx] at hd
    cases Option.some.inj hd
    have dr : W.drop (W.length - (i + 1)) = x :: W.drop (W.length - i) := by
      rw [show W.length - (i + 1) = W.length - 1 - i by omega, show W.length - i = W.length - 1 - i + 1 by omega]
      obtain ⟨h1, h2⟩ := List.getElem?_eq_some_iff.mp hx
      rw [List.drop_eq_getElem_cons h1, h2]
    obtain ⟨b1, b2⟩ := bs i (by omega)
    rw [dr]
    refine sr_asg 3 C.nd (ev_add (ev_mul (b1.cmul bt) (ev_var 3) (ev_var 1)) (ev_mul ((bw x (List.mem_of_getElem? hx)).cmul b2) (ev_var 5) (ev_var 4))) ?_
    exact sr_asg 4 C.nd (ev_mul (b2.cmul bb) (ev_var 4) (ev_var 2)) (sr_le sr_nil (.same (.same (.same (.same (.same (.un .nil)))))))
  · rw [List.length_reverse, iD_len, Nat.sub_self, List.drop_zero]
    exact sr_ret (ev_var 3)
end
end K8


set_option Elab.async false
set_option linter.all false
set_option maxRecDepth 100000
set_option exponentiation.threshold 9000
namespace K8
open PySem PySem.Spec PyProof.Rows L2 DL PM
/-! ### data of little depth -/
def Pq (k : Nat) (d : PyData) : Prop := nod d = true ∧ d.canLay0 = true ∧ d.depth ≤ k
theorem pq_int {i : Int} {k : Nat} : Pq k (.int i) := ⟨rfl, rfl, by unfold PyData.depth; omega⟩
theorem pq_all {k : Nat} : ∀ {ds : List PyData}, (∀ d ∈ ds, Pq k d) → nodAll ds = true ∧ PyData.canLayAll0 ds = true ∧ PyData.depthAll ds ≤ k
  | [], _ => ⟨rfl, rfl, by unfold PyData.depthAll; omega⟩
  | d :: ds, h => by
    obtain ⟨a1, a2, a3⟩ := pq_all fun e he => h e (List.mem_cons_of_mem _ he)
    obtain ⟨b1, b2, b3⟩ := h d (List.mem_cons_self ..)
    refine ⟨?_, ?_, ?_⟩
    · simp only [nodAll, a1, b1, Bool.and_self]
    · simp only [PyData.canLayAll0, a2, b2, Bool.and_self]
    · simp only [PyData.depthAll]
      omega
theorem pq_tup {k : Nat} {ds : List PyData} (h : ∀ d ∈ ds, Pq k d) : Pq (k + 1) (.tuple ds) := by
  obtain ⟨a1, a2, a3⟩ := pq_all h
  exact ⟨by simp only [nod, a1], by simp only [PyData.canLay0, a2], by simp only [PyData.depth]; omega⟩
theorem pq_lst {k : Nat} {ds : List PyData} (h : ∀ d ∈ ds, Pq k d) : Pq (k + 1) (.list ds) := by
  obtain ⟨a1, a2, a3⟩ := pq_all h
  exact ⟨by simp only [nod, a1], by simp only [PyData.canLay0, a2], by simp only [PyData.depth]; omega⟩
theorem Pq.pl {k : Nat} {d : PyData} (h : Pq k d) (hk : k ≤ 64 := by decide) : Pl d := ⟨h.1, by
  unfold SeqAt.shaped
  rw [h.2.1, Bool.true_and, decide_eq_true_eq]
  exact Nat.le_trans h.2.2 hk⟩
theorem Pq.refl {k : Nat} {d : PyData} (h : Pq k d) : PyData.eqv d d = true := by
  first
    | exact SeqAt.eqv_refl d h.2.1
    | exact PySem.eqv_refl d h.2.1
    | exact PyData.eqv_refl d h.2.1
theorem pq_cD {q : Rat} : Pq 1 (cD q) := pq_tup fun d hd => by
  rcases List.mem_cons.mp hd with rfl | hd
  · exact pq_int
  · rcases List.mem_cons.mp hd with rfl | hd
    · exact pq_int
    · cases hd
theorem pq_nm {d : PyData} {t b : Int} (h : Nm d t b) : Pq 1 d := by
  cases h with
  | int _ _ => exact pq_int
  | fr _ _ =>
    refine pq_tup fun d hd => ?_
    rcases List.mem_cons.mp hd with rfl | hd
    · exact pq_int
    · rcases List.mem_cons.mp hd with rfl | hd
      · exact pq_int
      · cases hd
/-- the polynomial's datum -/
def pD (p : List Rat) : PyData := .tuple (p.map cD)
theorem pq_pD {p : List Rat} : Pq 2 (pD p) := pq_tup fun d hd => by
  obtain ⟨q, _, rfl⟩ := List.mem_map.mp hd
  exact pq_cD
theorem nm_num {v : PyData} (h : num v = true) : ∃ t b, Nm v t b := by
  unfold num at h
  cases hi : intg v with
  | true =>
    cases v <;> simp only [intg] at hi <;> try cases hi
    rename_i i
    simp only [Bool.and_eq_true, decide_eq_true_eq] at hi
    exact ⟨i, 1, .int hi.1 hi.2⟩
  | false =>
    rw [hi, Bool.false_or] at h
    match v with
    | .tuple [.int t, .int b] =>
      simp only [frac, fr2, Bool.and_eq_true, decide_eq_true_eq] at h
      exact ⟨t, b, .fr h.1 (by have := h.2; omega)⟩
    | .tuple [] => simp [frac] at h
    | .tuple [_] => simp [frac] at h
    | .tuple (_ :: _ :: _ :: _) => simp [frac] at h
    | .tuple [.int _, .none] => simp [frac, fr2] at h
    | .tuple [.int _, .bool _] => simp [frac, fr2] at h
    | .tuple [.int _, .str _] => simp [frac, fr2] at h
    | .tuple [.int _, .list _] => simp [frac, fr2] at h
    | .tuple [.int _, .tuple _] => simp [frac, fr2] at h
    | .tuple [.int _, .dict _] => simp [frac, fr2] at h
    | .tuple [.none, _] => simp [frac, fr2] at h
    | .tuple [.bool _, _] => simp [frac, fr2] at h
    | .tuple [.str _, _] => simp [frac, fr2] at h
    | .tuple [.list _, _] => simp [frac, fr2] at h
    | .tuple [.tuple _, _] => simp [frac, fr2] at h
    | .tuple [.dict _, _] => simp [frac, fr2] at h
    | .int _ => simp [frac] at h
    | .none => simp [frac] at h
    | .bool _ => simp [frac] at h
    | .str _ => simp [frac] at h
    | .list _ => simp [frac] at h
    | .dict _ => simp [frac] at h
/-- the top of a number -/
def topOf : PyData → Int
  | .int t => t
  | .tuple (.int t :: _) => t
  | _ => 0
theorem Nm.topOf {v : PyData} {t b : Int} (h : Nm v t b) : K8.topOf v = t := by
  cases h <;> rfl
/-- what is_poly says -/
def isP : PyData → Bool
  | .tuple ds => decide (ds.length ≤ 41) && (ds.all num && (ds.isEmpty || !decide (topOf (ds.getD (ds.length - 1) .none) = 0)))
  | _ => false
theorem isP_tup (ds : List PyData) : isP (.tuple ds) = (decide (ds.length ≤ 41) && (ds.all num && (ds.isEmpty || !decide (topOf (ds.getD (ds.length - 1) .none) = 0)))) := rfl
theorem atI_m1 {ds : List PyData} {d : PyData} (h0 : 0 < ds.length) (h : ds[ds.length - 1]? = some d) : atI ds (-1) = some d := by
  rcases List.eq_nil_or_concat ds with rfl | ⟨l, b, rfl⟩
  · cases h0
  · rw [List.concat_eq_append] at h ⊢
    rw [List.length_append, List.length_singleton, Nat.add_sub_cancel, List.getElem?_append_right (Nat.le_refl _), Nat.sub_self] at h
    rw [← Option.some.inj h]
    exact atI_last l _
/-- the data of a polynomial -/
structure PolyD (ds : List PyData) (p : List Rat) : Prop where
  l : NmL ds p
  t : Tidy p
  n : p.length ≤ 41
theorem NmL.get {ds : List PyData} {p : List Rat} (h : NmL ds p) : ∀ (i : Nat) (d : PyData), ds[i]? = some d → ∃ q, p[i]? = some q ∧ NmQ d q := by
  induction h with
  | nil => intro i d h; simp at h
  | cons h1 h2 ih =>
    intro i d h
    cases i with
    | zero =>
      cases Option.some.inj h
      exact ⟨_, rfl, h1⟩
    | succ i => exact ih i d h
theorem num_zero {q : Rat} (h : q.num = 0) : q = 0 := by
  have := rat_eq q
  rw [h, Rat.intCast_zero] at this
  have n := den_ne q
  grind
theorem PolyD.isP {ds : List PyData} {p : List Rat} (h : PolyD ds p) : K8.isP (.tuple ds) = true := by
  have hl := h.l.length
  have h1 : ds.all num = true := List.all_eq_true.mpr fun d hd => by
    obtain ⟨q, _, hn⟩ := h.l.mem hd
    exact Nm.num hn
  rw [isP_tup, decide_eq_true (by rw [hl]; exact h.n), Bool.true_and, h1, Bool.true_and]
  cases he : ds.isEmpty with
  | true => rfl
  | false =>
    rw [Bool.false_or]
    have hne : ds ≠ [] := fun e => by rw [e] at he; cases he
    have hpos : 0 < ds.length := List.length_pos_iff.mpr hne
    obtain ⟨d, hd⟩ : ∃ d, ds[ds.length - 1]? = some d := ⟨_, List.getElem?_eq_getElem (by omega)⟩
    obtain ⟨q, hq, hn⟩ := h.l.get _ _ hd
    have hp : p ≠ [] := fun e => by rw [e] at hl; rw [hl] at hpos; cases hpos
    have := tidy_last h.t hp
    rw [co_get (p := p) (a := q) (by rw [← hl]; exact hq)] at this
    rw [List.getD_eq_getElem?_getD, hd]
    show (!decide (topOf d = 0)) = true
    rw [Nm.topOf hn, decide_eq_false (fun e => this (num_zero e))]
    rfl
section
variable {P : Program} {w : World} {K : PySem.W.Frag} {mg : Str → Option Value} {base : Heap} {f : Addr} {fd : FuncData}
abbrev sIsP : Stmt := top 27
theorem scIsP : FnScope ["value", "entry"] ["value"] (defScope sIsP) := ⟨rfl, rfl, rfl, by decide +kernel, rfl, by decide +kernel, by decide +kernel⟩
def rIsP : Rel := fun as s d s' => ∃ v, as = [.val v] ∧ (∀ ds, v = .tuple ds → ds.length ≤ 1000) ∧ d = .bool (isP v) ∧ s' = s
theorem ok_isp (F : Fun K "is_poly" "is_poly" sIsP f fd) (T : Top mg) (T8 : Top8 mg) (G1 : Dn P w K mg base 3 "is_number" rNumber) (G2 : Dn P w K mg base 1 "as_pair" rPair) : FnOk P w K mg base CX0 4 f fd ["value"] (spD rIsP) := by
  refine okD F scIsP (by rintro _ _ _ _ ⟨v, rfl, _⟩; rfl) fun cdv A0 outer s0 H0 E C z as s₁ d s h => ?_
  obtain ⟨v, rfl, hv, rfl, rfl⟩ := h
  obtain ⟨tg, hdeg⟩ := T8.deg
  have bad : (∀ xs, v ≠ .tuple xs) → SR (cxOf CX0 P w K mg base ["value", "entry"] "is_poly" (defScope sIsP) f cdv A0 outer s0 H0 E).nox z (defBody sIsP) [.val v, .un] s (.rt (.bool false) s) := fun hv =>
    sr_ifT (et_w (ew_orT (et_notT (et_val (ev_isi T.isi T.tuple (ev_var 0) (by rw [k_tuple]; cases v <;> first | rfl | exact absurd rfl (hv _))))))) (sr_ret ev_bl)
  match v, bad, hv with
  | .int i, bad, _ => exact bad (fun _ h => by cases h)
  | .none, bad, _ => exact bad (fun _ h => by cases h)
  | .bool _, bad, _ => exact bad (fun _ h => by cases h)
  | .str _, bad, _ => exact bad (fun _ h => by cases h)
  | .list _, bad, _ => exact bad (fun _ h => by cases h)
  | .dict _, bad, _ => exact bad (fun _ h => by cases h)
  | .tuple ds, _, hv =>
    have hl := hv ds rfl
    rw [isP_tup]
    have t0 : ∀ {k : Bool}, decide (((ds.length : Nat) : Int) > 40 + 1) = k → ET (cxOf CX0 P w K mg base ["value", "entry"] "is_poly" (defScope sIsP) f cdv A0 outer s0 H0 E).nox z (match (defBody sIsP)[0]? with | some (Stmt.If e _ _ _) => e | _ => .Constant .none 0 ⟨0, 0, 0, 0⟩) [.val (.tuple ds), .un] s k s := fun hk =>
      et_w (ew_orF (et_notF (et_val (ev_isi T.isi T.tuple (ev_var 0) (k_tuple (.tuple ds))))) (ew_or1 (ET.is (et_gt (ev_bltn call_len rb_lenT T.len (ed_cons (ev_var 0) ed_nil)) (ev_add (ev_glob rfl hdeg ⟨tg, rfl⟩) ev_int)) hk)))
    by_cases h41 : ds.length ≤ 41
    · rw [decide_eq_true h41, Bool.true_and]
      refine sr_ifF (t0 (decide_eq_false (by omega))) ?_
      have ev_all : EV (cxOf CX0 P w K mg base ["value", "entry"] "is_poly" (defScope sIsP) f cdv A0 outer s0 H0 E).nox z (match (defBody sIsP)[1]? with | some (Stmt.If (Expr.UnaryOp _ e _) _ _ _) => e | _ => .Constant .none 0 ⟨0, 0, 0, 0⟩) [.val (.tuple ds), .un] s (.bool (ds.all num)) s := by
        have e1 : (PyData.list (ds.map fun d => .bool (num d))) = .list ((ds.map num).map .bool) := by
          rw [List.map_map]
          rfl
        have e2 : (ds.map num).all id = ds.all num := by
          rw [List.all_map]
          rfl
        refine EV.is (ev_bltn (cr_all C.calm) (rb_all (bs := ds.map num)) T.all (ed_cons (EV.is (ev_lcFT (j := 1) C.calm C.nd (fun d => .bool (num d)) (ev_var 0) (by omega) (blkOk_by (N := ["value", "entry"]) (sc := defScope sIsP) (own := [("entry", 1)]) (by decide +kernel)) (fun _ _ _ _ _ => pg_name C.nd rfl (Or.inl rfl)) (fun d hd z' s0 H0 C' cl fp => ?_)) e1) ed_nil)) (by rw [e2])
        exact ev_call G1 C.hr (ea_cons (ev_var 1) ea_nil) ⟨_, rfl, rfl, rfl⟩
      cases ha : ds.all num with
      | false =>
        rw [Bool.false_and]
        rw [ha] at ev_all
        exact sr_ifT (et_notT (et_val ev_all)) (sr_ret ev_bl)
      | true =>
        rw [Bool.true_and]
        rw [ha] at ev_all
        refine sr_ifF (et_notF (et_val ev_all)) ?_
        have hpl : Pl (.tuple ds) := (pq_tup (k := 1) fun d hd => by
          obtain ⟨t, b, hn⟩ := nm_num (List.all_eq_true.mp ha d hd)
          exact pq_nm hn).pl
        have h0 : Pl (.tuple []) := (pq_tup (k := 0) (ds := []) fun d hd => by cases hd).pl
        have eqe : PyData.eqv (.tuple ds) (.tuple []) = ds.isEmpty := by
          cases ds <;> rfl
        refine sr_ret (EV.is (ev_or (k2 := !decide (topOf (ds.getD (ds.length - 1) .none) = 0)) (EV.is (ev_eq C.hu hpl h0 (ev_var 0) (ev_tup ed_nil)) (by rw [eqe])) fun he => ?_) rfl)
        have hne : ds ≠ [] := fun e => by rw [e] at he; cases he
        have hpos : 0 < ds.length := List.length_pos_iff.mpr hne
        obtain ⟨d, hd⟩ : ∃ d, ds[ds.length - 1]? = some d := ⟨_, List.getElem?_eq_getElem (by omega)⟩
        obtain ⟨t, b, hn⟩ := nm_num (List.all_eq_true.mp ha d (List.mem_of_getElem? hd))
        have hat := atI_m1 hpos hd
        rw [List.getD_eq_getElem?_getD, hd]
        show EV _ _ _ _ _ (.bool (!decide (topOf d = 0))) _
        rw [hn.topOf]
        exact ev_b1 (EV.is (ev_ne C.hu pl_int pl_int (ev_ixT (i := 0) (ev_call G2 (C.hr.mono (by decide)) (ea_cons (ev_ixT (ev_var 0) (ev_neg ev_int) hat) ea_nil) ⟨_, _, _, rfl, hn, rfl, rfl⟩) ev_int (atI_nat (j := 0) rfl)) ev_int) rfl)
    · rw [decide_eq_false h41, Bool.false_and]
      exact sr_ifT (t0 (decide_eq_true (by omega))) (sr_ret ev_bl)
abbrev sNP : Stmt := top 28
theorem scNP : FnScope ["value"] ["value"] (defScope sNP) := ⟨rfl, rfl, rfl, by decide +kernel, rfl, by decide +kernel, by decide +kernel⟩
def rNP : Rel := fun as s d s' => ∃ ds p, as = [.val (.tuple ds)] ∧ PolyD ds p ∧ d = .none ∧ s' = s
theorem ok_np (F : Fun K "_need_poly" "_need_poly" sNP f fd) (G : Dn P w K mg base 4 "is_poly" rIsP) : FnOk P w K mg base CX0 5 f fd ["value"] (spD rNP) := by
  refine okN F scNP (by rintro _ _ _ _ ⟨ds, p, rfl, _⟩; rfl) fun cdv A outer s0 H0 E C z as s₁ d s h => ?_
  obtain ⟨ds, p, rfl, hp, rfl, rfl⟩ := h
  refine ⟨rfl, _, sr_ifF (et_notF (et_val (ev_call G C.hr (ea_cons (ev_var 0) ea_nil) ⟨_, rfl, fun ds h => ?_, by rw [hp.isP], rfl⟩))) sr_nil⟩
  cases h
  rw [hp.l.length]
  exact Nat.le_trans hp.n (by decide)
abbrev sNPs : Stmt := top 29
theorem scNPs : FnScope ["one", "other"] ["one", "other"] (defScope sNPs) := ⟨rfl, rfl, rfl, by decide +kernel, rfl, by decide +kernel, by decide +kernel⟩
def rNPs : Rel := fun as s d s' => ∃ ds p es q, as = [.val (.tuple ds), .val (.tuple es)] ∧ PolyD ds p ∧ PolyD es q ∧ d = .none ∧ s' = s
theorem ok_nps (F : Fun K "_need_polys" "_need_polys" sNPs f fd) (G : Dn P w K mg base 5 "_need_poly" rNP) : FnOk P w K mg base CX0 6 f fd ["one", "other"] (spD rNPs) := by
  refine okN F scNPs (by rintro _ _ _ _ ⟨ds, p, es, q, rfl, _⟩; rfl) fun cdv A outer s0 H0 E C z as s₁ d s h => ?_
  obtain ⟨ds, p, es, q, rfl, hp, hq, rfl, rfl⟩ := h
  exact ⟨rfl, _, sr_expr (ev_call G C.hr (ea_cons (ev_var 0) ea_nil) ⟨_, _, rfl, hp, rfl, rfl⟩) (sr_expr (ev_call G C.hr (ea_cons (ev_var 1) ea_nil) ⟨_, _, rfl, hq, rfl, rfl⟩) sr_nil)⟩
end
end K8


set_option Elab.async false
set_option linter.all false
set_option maxRecDepth 100000
set_option exponentiation.threshold 9000
namespace K8
open PySem PySem.Spec PyProof.Rows L2 DL PM
/-! ### polynomials: integers over a bottom and rational numbers -/
theorem co_map {α β : Type} [Lean.Grind.CommRing α] [Lean.Grind.CommRing β] (g : α → β) (h : g 0 = 0) (p : List α) (i : Nat) : co (p.map g) i = g (co p i) := by
  unfold co
  rw [List.getD_eq_getElem?_getD, List.getD_eq_getElem?_getD, List.getElem?_map]
  cases p[i]? with
  | none => exact h.symm
  | some a => rfl
theorem wr_co {p : List Rat} {M A : Nat} (ok : RowOk p M A) (i : Nat) : ((co (wr p) i : Int) : Rat) = ((cm p : Int) : Rat) * co p i := by
  unfold wr co
  rw [List.getD_eq_getElem?_getD, List.getD_eq_getElem?_getD, List.getElem?_map]
  cases h : p[i]? with
  | none =>
    show ((0 : Int) : Rat) = _ * (0 : Rat)
    rw [Rat.intCast_zero]
    grind
  | some q =>
    show ((q.num * ((cm p / q.den : Nat) : Int) : Int) : Rat) = _ * q
    have hd : q.den ∣ cm p := den_cmF (List.mem_of_getElem? h)
    have e : (cm p : Int) = (q.den : Int) * ((cm p / q.den : Nat) : Int) := by
      rw [← Int.natCast_mul, Nat.mul_div_cancel' hd]
    rw [e, Rat.intCast_mul, Rat.intCast_mul]
    have e1 := rat_eq q
    have n1 := den_ne q
    grind
theorem wr_len {p : List Rat} : (wr p).length = p.length := List.length_map ..
theorem wr_bd {p : List Rat} {M A : Nat} (ok : RowOk p M A) : ∀ x ∈ wr p, Bd 2940 x := fun x hx => by
  obtain ⟨q, hq, rfl⟩ := List.mem_map.mp hx
  have h4 := ok.cmB
  have h3 : cm p / q.den ≤ cm p := Nat.div_le_self ..
  refine (ok.num hq).mul (m := 40) ?_
  unfold Bd at *
  rw [Int.natAbs_natCast] at h4 ⊢
  exact Nat.lt_of_le_of_lt h3 h4
/-- the quotients of a stripped row -/
theorem frs {T : List Int} {c : Int} (hc : c ≠ 0) (hT : Tidy T) {r : List Rat} (h : ∀ i, ((co T i : Int) : Rat) = (c : Rat) * co r i) : T.map (fun t => frD t c) = (strip r).map cD := by
  have hcr := ic_ne hc
  have e : T.map (fun t => frD t c) = (T.map fun t : Int => (t : Rat) / (c : Rat)).map cD := by
    rw [List.map_map]
    apply List.map_congr_left
    intro t _
    exact frD_rat hc
  have z0 : ((0 : Int) : Rat) / (c : Rat) = 0 := by
    rw [Rat.intCast_zero]
    grind
  have cof : ∀ i, co (T.map fun t : Int => (t : Rat) / (c : Rat)) i = co r i := fun i => by
    rw [co_map (fun t : Int => (t : Rat) / (c : Rat)) z0 T i, h i]
    grind
  have ti : Tidy (T.map fun t : Int => (t : Rat) / (c : Rat)) := last_tidy fun hn => by
    rw [List.length_map, cof]
    intro e0
    have hT' : T ≠ [] := fun e => hn (by rw [e]; rfl)
    apply tidy_last hT hT'
    have := h (T.length - 1)
    rw [e0] at this
    exact Rat.intCast_eq_zero_iff.mp (by rw [this]; grind)
  rw [e, ← strip_ext _ _ (fun i => cof i)]
  exact congrArg (List.map cD) ti.symm
theorem msum_cast {V W : List Int} {p q : List Rat} {a b : Rat} (h1 : ∀ i, ((co V i : Int) : Rat) = a * co p i) (h2 : ∀ i, ((co W i : Int) : Rat) = b * co q i) (k : Nat) : ∀ n, ((msum V W k n : Int) : Rat) = a * b * msum p q k n
  | 0 => by
    show ((0 : Int) : Rat) = a * b * 0
    rw [Rat.intCast_zero]
    grind
  | n + 1 => by
    rw [msum, msum, Rat.intCast_add, msum_cast h1 h2 k n]
    by_cases h : n ≤ k
    · rw [if_pos h, if_pos h, Rat.intCast_mul, h1, h2]
      grind
    · rw [if_neg h, if_neg h, Rat.intCast_zero]
      grind
theorem tidy_der {p : List Rat} (h : Tidy p) : Tidy (der p) := last_tidy fun hn => by
  have hp : p ≠ [] := fun e => hn (by rw [e]; rfl)
  have hl : (der p).length = p.length - 1 := by
    rw [der_tail, List.length_drop]
    have : ∀ (p : List Rat) (n : Nat), (derF n p).length = p.length := fun p => by
      induction p with
      | nil => intro n; rfl
      | cons a p ih => intro n; rw [derF, List.length_cons, List.length_cons, ih]
    rw [this]
  have h1 : 1 < p.length := by
    have := List.length_pos_iff.mpr hn
    omega
  rw [hl, co_der, show p.length - 1 - 1 + 1 = p.length - 1 by omega]
  have := tidy_last h hp
  rw [nc_int]
  intro e
  rcases Rat.mul_eq_zero.mp e with e | e
  · have := Rat.intCast_eq_zero_iff.mp e
    omega
  · exact this e
theorem nc_castI : ∀ n : Nat, ((nc n : Int) : Rat) = (nc n : Rat) := fun n => by rw [nc_i, nc_int]
/-- scaled_value is the value, scaled -/
theorem sv_pow (t b : Int) : ∀ l : List Int, (svF t b l).2 = b ^ l.length
  | [] => (Int.pow_zero b).symm
  | e :: l => by rw [svF, List.length_cons, Int.pow_succ, sv_pow t b l]
theorem sv_ev {t b : Int} {x c : Rat} (hb : (b : Rat) ≠ 0) (hx : (t : Rat) = x * (b : Rat)) : ∀ {l : List Int} {p : List Rat}, l.length = p.length → (∀ i, ((co l i : Int) : Rat) = c * co p i) → (((svF t b l).1 : Int) : Rat) * (b : Rat) = c * (((b ^ l.length : Int)) : Rat) * ev x p
  | [], [], _, _ => by
    show ((0 : Int) : Rat) * _ = c * _ * 0
    rw [Rat.intCast_zero]
    grind
  | e :: l, a :: p, hl, h => by
    have ih := sv_ev hb hx (l := l) (p := p) (by simpa using hl) fun i => by
      have := h (i + 1)
      rwa [co_succ, co_succ] at this
    have h0 := h 0
    rw [co_zero, co_zero] at h0
    rw [svF, ev, List.length_cons, sv_pow, Rat.intCast_add, Rat.intCast_mul, Rat.intCast_mul, Int.pow_succ, Rat.intCast_mul, hx, h0]
    generalize ((b ^ l.length : Int) : Rat) = B at *
    generalize (((svF t b l).1 : Int) : Rat) = v at *
    grind
  | [], _ :: _, hl, _ => by simp at hl
  | _ :: _, [], hl, _ => by simp at hl
section
variable {P : Program} {w : World} {K : PySem.W.Frag} {mg : Str → Option Value} {base : Heap} {f : Addr} {fd : FuncData}
abbrev sWei : Stmt := top 30
theorem scWei : FnScope ["one", "other", "weight", "tops", "bottom", "overs", "under", "total"] ["one", "other", "weight"] (defScope sWei) := ⟨rfl, rfl, rfl, by decide +kernel, rfl, by decide +kernel, by decide +kernel⟩
/-- two polynomials to be reckoned with -/
structure Duo (ds es : List PyData) (p q : List Rat) (M A N B : Nat) : Prop where
  pd : PolyD ds p
  qd : PolyD es q
  op : RowOk p M A
  oq : RowOk q N B
def rWei : Rel := fun as s d s' => ∃ ds es p q M A N B, ∃ k : Int, as = [.val (.tuple ds), .val (.tuple es), .val (.int k)] ∧ Duo ds es p q M A N B ∧ k.natAbs = 1 ∧ d = pD (strip (add p (smul (k : Rat) q))) ∧ s' = s
theorem ok_wei (F : Fun K "_weighted_sum" "_weighted_sum" sWei f fd) (G1 : Dn P w K mg base 2 "whole_row" rWRow) (G2 : Dn P w K mg base 2 "whole_sum" rWSum) (G3 : Dn P w K mg base 2 "whole_scaled" rWSca) (G4 : Dn P w K mg base 3 "fractions_of" rFOf) : FnOk P w K mg base CX0 4 f fd ["one", "other", "weight"] (spD rWei) := by
  refine okD F scWei (by rintro _ _ _ _ ⟨ds, es, p, q, M, A, N, B, k, rfl, _⟩; rfl) fun cdv A0 outer s0 H0 E C z as s₁ d s h => ?_
  obtain ⟨ds, es, p, q, M, A, N, B, k, rfl, H, hk, rfl, rfl⟩ := h
  have lp := H.op.len
  have lq := H.oq.len
  have c1 := H.op.cm0
  have c2 := H.oq.cm0
  have b1 := H.op.cmB
  have b2 := H.oq.cmB
  have bk : Bd 1 k := by unfold Bd; omega
  have sl : ∀ {p : List Int}, (strip p).length ≤ p.length := fun {p} => by
    induction p with
    | nil => exact Nat.le_refl _
    | cons a p ih =>
      rw [PM.strip]
      cases hs : strip p with
      | nil => by_cases ha : a = 0 <;> simp [ha]
      | cons b q => rw [hs] at ih; simp at ih ⊢; exact ih
  have al : ∀ p q : List Int, (add p q).length ≤ p.length + q.length := fun p => by
    induction p with
    | nil => intro q; rw [add]; simp
    | cons a p ih =>
      intro q
      cases q with
      | nil => rw [add]; simp; simp
      | cons b q => rw [add, List.length_cons, List.length_cons, List.length_cons]; have := ih q; omega
  have ml : ∀ (c : Int) (p : List Int), (smul c p).length = p.length := fun c p => List.length_map ..
  have s1 := sl (p := smul (cm q : Int) (wr p))
  have s2 := sl (p := smul (k * (cm p : Int)) (wr q))
  rw [ml, wr_len] at s1 s2
  refine sr_unp2 3 4 C.calm C.nd (ev_call G1 (C.hr.mono (by decide)) (ea_cons (ev_var 0) ea_nil) ⟨_, _, _, _, rfl, H.pd.l, H.op, rfl, rfl⟩) ?_
  refine sr_unp2 5 6 C.calm C.nd (ev_call G1 (C.hr.mono (by decide)) (ea_cons (ev_var 1) ea_nil) ⟨_, _, _, _, rfl, H.qd.l, H.oq, rfl, rfl⟩) ?_
  refine sr_asg 7 C.nd (ev_call G2 (C.hr.mono (by decide)) (ea_cons (ev_call G3 (C.hr.mono (by decide)) (ea_cons (ev_var 3) (ea_cons (ev_var 6) ea_nil)) ⟨wr p, (cm q : Int), rfl, by rw [wr_len]; omega, b2.mono (by decide), fun x hx => (wr_bd H.op x hx).mono (by decide), rfl, rfl⟩)
    (ea_cons (ev_call G3 (C.hr.mono (by decide)) (ea_cons (ev_var 5) (ea_cons (ev_mul (bk.cmul b1) (ev_var 2) (ev_var 4)) ea_nil)) ⟨wr q, k * (cm p : Int), rfl, by rw [wr_len]; omega, (bk.mul b1).mono (by decide), fun x hx => (wr_bd H.oq x hx).mono (by decide), rfl, rfl⟩) ea_nil))
    ⟨_, _, rfl, by omega, by omega, rfl, rfl⟩) ?_
  have hc : (cm p : Int) * (cm q : Int) ≠ 0 := Int.mul_ne_zero (by omega) (by omega)
  refine sr_is (o := .rt (.tuple ((strip (add (strip (smul (cm q : Int) (wr p))) (strip (smul (k * (cm p : Int)) (wr q))))).map fun t => frD t ((cm p : Int) * (cm q : Int)))) s)
    (sr_ret (ev_call G4 C.hr (ea_cons (ev_var 7) (ea_cons (ev_mul (b1.cmul b2) (ev_var 4) (ev_var 6)) ea_nil)) ⟨_, _, rfl, hc, (b1.mul b2).mono (by decide), by have := sl (p := add (strip (smul (cm q : Int) (wr p))) (strip (smul (k * (cm p : Int)) (wr q)))); have := al (strip (smul (cm q : Int) (wr p))) (strip (smul (k * (cm p : Int)) (wr q))); omega, rfl, rfl⟩)) ?_
  congr 2
  refine frs hc (strip_tidy _) fun i => ?_
  rw [strip_eqv _ i, co_add, strip_eqv _ i, strip_eqv _ i, co_smul, co_smul, co_add, co_smul, Rat.intCast_add, Rat.intCast_mul, Rat.intCast_mul, Rat.intCast_mul, Rat.intCast_mul, wr_co H.op, wr_co H.oq]
  grind
abbrev sPSum : Stmt := top 31
theorem scPSum : FnScope ["one", "other"] ["one", "other"] (defScope sPSum) := ⟨rfl, rfl, rfl, by decide +kernel, rfl, by decide +kernel, by decide +kernel⟩
def rPSum : Rel := fun as s d s' => ∃ ds es p q M A N B, as = [.val (.tuple ds), .val (.tuple es)] ∧ Duo ds es p q M A N B ∧ d = pD (strip (add p q)) ∧ s' = s
theorem ok_psum (F : Fun K "poly_sum" "poly_sum" sPSum f fd) (G1 : Dn P w K mg base 6 "_need_polys" rNPs) (G2 : Dn P w K mg base 4 "_weighted_sum" rWei) : FnOk P w K mg base CX0 7 f fd ["one", "other"] (spD rPSum) := by
  refine okD F scPSum (by rintro _ _ _ _ ⟨ds, es, p, q, M, A, N, B, rfl, _⟩; rfl) fun cdv A0 outer s0 H0 E C z as s₁ d s h => ?_
  obtain ⟨ds, es, p, q, M, A, N, B, rfl, H, rfl, rfl⟩ := h
  refine sr_expr (ev_call G1 C.hr (ea_cons (ev_var 0) (ea_cons (ev_var 1) ea_nil)) ⟨_, _, _, _, rfl, H.pd, H.qd, rfl, rfl⟩) ?_
  refine sr_ret (EV.is (ev_call G2 (C.hr.mono (by decide)) (ea_cons (ev_var 0) (ea_cons (ev_var 1) (ea_cons ev_int ea_nil))) ⟨_, _, _, _, _, _, _, _, 1, rfl, H, rfl, rfl, rfl⟩) ?_)
  congr 1
  refine strip_ext _ _ (add_eqv (fun _ => rfl) fun i => ?_)
  rw [co_smul, show ((1 : Int) : Rat) = 1 from rfl]
  grind
abbrev sPLes : Stmt := top 32
theorem scPLes : FnScope ["one", "other"] ["one", "other"] (defScope sPLes) := ⟨rfl, rfl, rfl, by decide +kernel, rfl, by decide +kernel, by decide +kernel⟩
def rPLes : Rel := fun as s d s' => ∃ ds es p q M A N B, as = [.val (.tuple ds), .val (.tuple es)] ∧ Duo ds es p q M A N B ∧ d = pD (strip (add p (q.map (- ·)))) ∧ s' = s
theorem ok_ples (F : Fun K "poly_less" "poly_less" sPLes f fd) (G1 : Dn P w K mg base 6 "_need_polys" rNPs) (G2 : Dn P w K mg base 4 "_weighted_sum" rWei) : FnOk P w K mg base CX0 7 f fd ["one", "other"] (spD rPLes) := by
  refine okD F scPLes (by rintro _ _ _ _ ⟨ds, es, p, q, M, A, N, B, rfl, _⟩; rfl) fun cdv A0 outer s0 H0 E C z as s₁ d s h => ?_
  obtain ⟨ds, es, p, q, M, A, N, B, rfl, H, rfl, rfl⟩ := h
  refine sr_expr (ev_call G1 C.hr (ea_cons (ev_var 0) (ea_cons (ev_var 1) ea_nil)) ⟨_, _, _, _, rfl, H.pd, H.qd, rfl, rfl⟩) ?_
  refine sr_ret (EV.is (ev_call G2 (C.hr.mono (by decide)) (ea_cons (ev_var 0) (ea_cons (ev_var 1) (ea_cons (ev_neg ev_int) ea_nil))) ⟨_, _, _, _, _, _, _, _, -1, rfl, H, rfl, rfl, rfl⟩) ?_)
  congr 1
  refine strip_ext _ _ (add_eqv (fun _ => rfl) fun i => ?_)
  rw [co_smul, co_map _ (by grind), show ((-1 : Int) : Rat) = -1 from rfl]
  grind
abbrev sPPro : Stmt := top 33
theorem scPPro : FnScope ["one", "other", "tops", "bottom", "overs", "under"] ["one", "other"] (defScope sPPro) := ⟨rfl, rfl, rfl, by decide +kernel, rfl, by decide +kernel, by decide +kernel⟩
def rPPro : Rel := fun as s d s' => ∃ ds es p q M A N B, as = [.val (.tuple ds), .val (.tuple es)] ∧ Duo ds es p q M A N B ∧ p.length + q.length ≤ 42 ∧ d = pD (strip (mul p q)) ∧ s' = s
theorem ok_ppro (F : Fun K "poly_product" "poly_product" sPPro f fd) (T : Top mg) (T8 : Top8 mg) (G1 : Dn P w K mg base 6 "_need_polys" rNPs) (G2 : Dn P w K mg base 2 "whole_row" rWRow) (G3 : Dn P w K mg base 2 "whole_product" rWPro) (G4 : Dn P w K mg base 3 "fractions_of" rFOf) : FnOk P w K mg base CX0 7 f fd ["one", "other"] (spD rPPro) := by
  refine okD F scPPro (by rintro _ _ _ _ ⟨ds, es, p, q, M, A, N, B, rfl, _⟩; rfl) fun cdv A0 outer s0 H0 E C z as s₁ d s h => ?_
  obtain ⟨ds, es, p, q, M, A, N, B, rfl, H, h42, rfl, rfl⟩ := h
  obtain ⟨tg, hdeg⟩ := T8.deg
  have c1 := H.op.cm0
  have c2 := H.oq.cm0
  have b1 := H.op.cmB
  have b2 := H.oq.cmB
  have hl1 := H.pd.l.length
  have hl2 := H.qd.l.length
  refine sr_expr (ev_call G1 C.hr (ea_cons (ev_var 0) (ea_cons (ev_var 1) ea_nil)) ⟨_, _, _, _, rfl, H.pd, H.qd, rfl, rfl⟩) ?_
  refine sr_ifF (ET.is (et_gt (ev_sub (ev_add (ev_bltn call_len rb_lenT T.len (ed_cons (ev_var 0) ed_nil)) (ev_bltn call_len rb_lenT T.len (ed_cons (ev_var 1) ed_nil))) ev_int) (ev_glob rfl hdeg ⟨tg, rfl⟩)) (decide_eq_false (by omega))) ?_
  refine sr_unp2 2 3 C.calm C.nd (ev_call G2 (C.hr.mono (by decide)) (ea_cons (ev_var 0) ea_nil) ⟨_, _, _, _, rfl, H.pd.l, H.op, rfl, rfl⟩) ?_
  refine sr_unp2 4 5 C.calm C.nd (ev_call G2 (C.hr.mono (by decide)) (ea_cons (ev_var 1) ea_nil) ⟨_, _, _, _, rfl, H.qd.l, H.oq, rfl, rfl⟩) ?_
  have hc : (cm p : Int) * (cm q : Int) ≠ 0 := Int.mul_ne_zero (by omega) (by omega)
  have hm : strip (mul (wr p) (wr q)) = strip (half (wr p) (wr q) 100 (wr p).length 0) := strip_ext _ _ fun i => (half_mul (by rw [wr_len, wr_len]; omega) i).symm
  have ln : (strip (mul (wr p) (wr q))).length ≤ 100 := by
    rw [hm]
    have sl : ∀ {p : List Int}, (strip p).length ≤ p.length := fun {p} => by
      induction p with
      | nil => exact Nat.le_refl _
      | cons a p ih =>
        rw [PM.strip]
        cases hs : strip p with
        | nil => by_cases ha : a = 0 <;> simp [ha]
        | cons b q => rw [hs] at ih; simp at ih ⊢; exact ih
    have := sl (p := half (wr p) (wr q) 100 (wr p).length 0)
    rwa [half_len] at this
  refine sr_is (o := .rt (.tuple ((strip (mul (wr p) (wr q))).map fun t => frD t ((cm p : Int) * (cm q : Int)))) s)
    (sr_ret (ev_call G4 (C.hr.mono (by decide)) (ea_cons (ev_call G3 (C.hr.mono (by decide)) (ea_cons (ev_var 2) (ea_cons (ev_var 4) ea_nil)) ⟨_, _, rfl, by rw [wr_len]; omega, by rw [wr_len]; omega, fun x hx => (wr_bd H.op x hx).mono (by decide), fun x hx => (wr_bd H.oq x hx).mono (by decide), rfl, rfl⟩) (ea_cons (ev_mul (b1.cmul b2) (ev_var 3) (ev_var 5)) ea_nil)) ⟨_, _, rfl, hc, (b1.mul b2).mono (by decide), by omega, rfl, rfl⟩)) ?_
  congr 2
  refine frs hc (strip_tidy _) fun i => ?_
  rw [strip_eqv _ i, co_mul, co_mul, msum_cast (fun i => wr_co H.op i) (fun i => wr_co H.oq i), wr_len, Rat.intCast_mul]
abbrev sPDer : Stmt := top 35
theorem scPDer : FnScope ["poly", "wholes", "bottom"] ["poly"] (defScope sPDer) := ⟨rfl, rfl, rfl, by decide +kernel, rfl, by decide +kernel, by decide +kernel⟩
def rPDer : Rel := fun as s d s' => ∃ ds p M A, as = [.val (.tuple ds)] ∧ PolyD ds p ∧ RowOk p M A ∧ d = pD (der p) ∧ s' = s
theorem ok_pder (F : Fun K "derived" "derived" sPDer f fd) (G1 : Dn P w K mg base 5 "_need_poly" rNP) (G2 : Dn P w K mg base 2 "whole_row" rWRow) (G3 : Dn P w K mg base 1 "whole_derived" rWDer) (G4 : Dn P w K mg base 3 "fractions_of" rFOf) : FnOk P w K mg base CX0 6 f fd ["poly"] (spD rPDer) := by
  refine okD F scPDer (by rintro _ _ _ _ ⟨ds, p, M, A, rfl, _⟩; rfl) fun cdv A0 outer s0 H0 E C z as s₁ d s h => ?_
  obtain ⟨ds, p, M, A, rfl, hp, op, rfl, rfl⟩ := h
  have c1 := op.cm0
  have b1 := op.cmB
  have l60 := op.len
  have dl : (der (wr p)).length ≤ p.length := by
    rw [der_tail, List.length_drop]
    have : ∀ (p : List Int) (n : Nat), (derF n p).length = p.length := fun p => by
      induction p with
      | nil => intro n; rfl
      | cons a p ih => intro n; rw [derF, List.length_cons, List.length_cons, ih]
    rw [this, wr_len]
    omega
  refine sr_expr (ev_call G1 C.hr (ea_cons (ev_var 0) ea_nil) ⟨_, _, rfl, hp, rfl, rfl⟩) ?_
  refine sr_unp2 1 2 C.calm C.nd (ev_call G2 (C.hr.mono (by decide)) (ea_cons (ev_var 0) ea_nil) ⟨_, _, _, _, rfl, hp.l, op, rfl, rfl⟩) ?_
  refine sr_is (o := .rt (.tuple ((der (wr p)).map fun t => frD t (cm p : Int))) s)
    (sr_ret (ev_call G4 (C.hr.mono (by decide)) (ea_cons (ev_call G3 (C.hr.mono (by decide)) (ea_cons (ev_var 1) ea_nil) ⟨_, rfl, by rw [wr_len]; omega, fun x hx => (wr_bd op x hx).mono (by decide), rfl, rfl⟩) (ea_cons (ev_var 2) ea_nil)) ⟨_, _, rfl, by omega, b1.mono (by decide), by omega, rfl, rfl⟩)) ?_
  congr 2
  have cof : ∀ i, ((co (der (wr p)) i : Int) : Rat) = ((cm p : Int) : Rat) * co (der p) i := fun i => by
    rw [co_der, co_der, Rat.intCast_mul, nc_castI, wr_co op]
    grind
  have td := tidy_der hp.t
  rw [frs (by omega) (last_tidy fun hn => ?_) cof, td]
  intro e0
  have hl : (der (wr p)).length = (der p).length := by
    rw [der_tail, der_tail, List.length_drop, List.length_drop]
    have h1 : ∀ (p : List Int) (n : Nat), (derF n p).length = p.length := fun p => by
      induction p with
      | nil => intro n; rfl
      | cons a p ih => intro n; rw [derF, List.length_cons, List.length_cons, ih]
    have h2 : ∀ (p : List Rat) (n : Nat), (derF n p).length = p.length := fun p => by
      induction p with
      | nil => intro n; rfl
      | cons a p ih => intro n; rw [derF, List.length_cons, List.length_cons, ih]
    rw [h1, h2, wr_len]
  have hn2 : der p ≠ [] := fun e => by
    rw [e] at hl
    exact hn (List.eq_nil_of_length_eq_zero hl)
  have := tidy_last td hn2
  apply this
  have h3 := cof ((der p).length - 1)
  rw [← hl, e0, Rat.intCast_zero] at h3
  rcases Rat.mul_eq_zero.mp h3.symm with h | h
  · exact absurd (Rat.intCast_eq_zero_iff.mp h) (by omega)
  · rw [← hl]
    exact h
end
end K8


set_option Elab.async false
set_option linter.all false
set_option maxRecDepth 100000
set_option exponentiation.threshold 9000
namespace K8
open PySem PySem.Spec PyProof.Rows L2 DL PM
theorem co_drop {α : Type} [Lean.Grind.CommRing α] (p : List α) (k i : Nat) : co (p.drop k) i = co p (k + i) := by
  unfold co
  rw [List.getD_eq_getElem?_getD, List.getD_eq_getElem?_getD, List.getElem?_drop]
theorem bd_of_le {n : Nat} {t : Int} {b : Nat} (h : t.natAbs ≤ b) (k : b < 2 ^ n) : Bd n t := Nat.lt_of_le_of_lt h k
/-- what poly_value asks of its number -/
structure AtOk (x : Rat) (p : List Rat) (M A N B : Nat) : Prop where
  op : RowOk p M A
  n : N ≠ 0
  sz : Sz N B x
  d : x.den < 2 ^ 30
  t : Bd 3000 x.num
  len : p.length ≤ 20
  big : A * (B + 1) ^ 20 < 2 ^ 7000
section
variable {x : Rat} {p : List Rat} {M A N B : Nat}
theorem AtOk.all (h : AtOk x p M A N B) (i : Nat) (hi : i ≤ (wr p).length) : Bd 9000 (svF x.num (x.den : Int) ((wr p).drop ((wr p).length - i))).1 ∧ Bd 9000 (svF x.num (x.den : Int) ((wr p).drop ((wr p).length - i))).2 := by
  have hl : (wr p).length = p.length := wr_len
  rw [hl] at hi ⊢
  have hlen : ((wr p).drop (p.length - i)).length = (p.drop (p.length - i)).length := by
    rw [List.length_drop, List.length_drop, hl]
  have hli : (p.drop (p.length - i)).length = i := by
    rw [List.length_drop]
    omega
  have hco : ∀ j, ((co ((wr p).drop (p.length - i)) j : Int) : Rat) = ((cm p : Int) : Rat) * co (p.drop (p.length - i)) j := fun j => by
    rw [co_drop, co_drop, wr_co h.op]
  have d0 := den_pos x
  have hd : (x.den : Int).natAbs < 2 ^ 30 := by
    rw [Int.natAbs_natCast]
    exact h.d
  have e := sv_ev (t := x.num) (b := (x.den : Int)) (x := x) (den_ne x) (by have := rat_eq x; have := den_ne x; grind) hlen hco
  have sz : Sz (M * N ^ (p.drop (p.length - i)).length) (A * (B + 1) ^ (p.drop (p.length - i)).length) (ev x (p.drop (p.length - i))) := PSz.ev h.sz fun q hq => h.op.sz q (List.mem_of_mem_drop hq)
  rw [hlen] at e
  rw [hli] at sz e
  have pw : ((x.den : Int) ^ i).natAbs ≤ 2 ^ 600 := by
    rw [Int.natAbs_pow]
    have h1 : (x.den : Int).natAbs ^ i ≤ (2 ^ 30) ^ i := Nat.pow_le_pow_left (Nat.le_of_lt hd) i
    have h2 : ((2 : Nat) ^ 30) ^ i ≤ (2 ^ 30) ^ 20 := Nat.pow_le_pow_right (by decide) (Nat.le_trans hi h.len)
    have h3 : ((2 : Nat) ^ 30) ^ 20 = 2 ^ 600 := by rw [← Nat.pow_mul]
    omega
  generalize hv : (svF x.num (x.den : Int) ((wr p).drop (p.length - i))).1 = v at *
  constructor
  · have h1 := sz.whole (v := v * (x.den : Int)) (c := (cm p : Int) * (x.den : Int) ^ i) (Nat.mul_ne_zero h.op.m (Nat.ne_of_gt (Nat.pow_pos (Nat.pos_of_ne_zero h.n)))) (by rw [Rat.intCast_mul, Rat.intCast_mul, e])
    have h2 : v.natAbs ≤ (v * (x.den : Int)).natAbs := by
      rw [Int.natAbs_mul, Int.natAbs_natCast]
      exact Nat.le_mul_of_pos_right _ x.den_pos
    have h3 := h.op.cmB
    have h4 : A * (B + 1) ^ i ≤ A * (B + 1) ^ 20 := Nat.mul_le_mul_left _ (Nat.pow_le_pow_right (by omega) (Nat.le_trans hi h.len))
    have h5 := h.big
    rw [Int.natAbs_mul (cm p : Int)] at h1
    have h6 : (cm p : Int).natAbs * ((x.den : Int) ^ i).natAbs * (A * (B + 1) ^ i) ≤ 2 ^ 40 * 2 ^ 600 * 2 ^ 7000 := Nat.mul_le_mul (Nat.mul_le_mul (Nat.le_of_lt h3) pw) (Nat.le_of_lt (Nat.lt_of_le_of_lt h4 h5))
    refine bd_of_le (Nat.le_trans h2 (Nat.le_trans h1 h6)) ?_
    rw [← Nat.pow_add, ← Nat.pow_add]
    exact Nat.pow_lt_pow_right (by decide) (by decide)
  · rw [sv_pow, hlen, hli]
    exact bd_of_le pw (Nat.pow_lt_pow_right (by decide) (by decide))
end
section
variable {P : Program} {w : World} {K : PySem.W.Frag} {mg : Str → Option Value} {base : Heap} {f : Addr} {fd : FuncData}
abbrev sPVal : Stmt := top 34
theorem scPVal : FnScope ["poly", "number", "top", "bottom", "wholes", "common"] ["poly", "number"] (defScope sPVal) := ⟨rfl, rfl, rfl, by decide +kernel, rfl, by decide +kernel, by decide +kernel⟩
def rPVal : Rel := fun as s d s' => ∃ ds p v x M A N B, as = [.val (.tuple ds), .val v] ∧ PolyD ds p ∧ NmQ v x ∧ AtOk x p M A N B ∧ d = cD (ev x p) ∧ s' = s
theorem ok_pval (F : Fun K "poly_value" "poly_value" sPVal f fd) (T : Top mg) (T8 : Top8 mg) (G1 : Dn P w K mg base 5 "_need_poly" rNP) (G2 : Dn P w K mg base 4 "need_number" rNeed) (G3 : Dn P w K mg base 1 "as_pair" rPair) (G4 : Dn P w K mg base 2 "whole_row" rWRow) (G5 : Dn P w K mg base 2 "fraction" rQuot) (G6 : Dn P w K mg base 1 "scaled_value" rSVal) (G7 : Dn P w K mg base 1 "raised" rRaised) : FnOk P w K mg base CX0 6 f fd ["poly", "number"] (spD rPVal) := by
  refine okD F scPVal (by rintro _ _ _ _ ⟨ds, p, v, x, M, A, N, B, rfl, _⟩; rfl) fun cdv A0 outer s0 H0 E C z as s₁ d s h => ?_
  obtain ⟨ds, p, v, x, M, A, N, B, rfl, hp, hx, ok, rfl, rfl⟩ := h
  have c1 := ok.op.cm0
  have b1 := ok.op.cmB
  have hl := hp.l.length
  have l20 := ok.len
  have d0 := den_pos x
  have bd : Bd 30 (x.den : Int) := by
    have := ok.d
    unfold Bd
    omega
  have hmx : max 0 ((ds.length : Int) - 1) = ((p.length - 1 : Nat) : Int) := by omega
  have bp : Bd 1201 ((x.den : Int) ^ (p.length - 1)) := bd_pow40 bd (by omega)
  have np : (x.den : Int) ^ (p.length - 1) ≠ 0 := by
    have : 0 < (x.den : Int) ^ (p.length - 1) := Int.pow_pos (by omega)
    omega
  refine sr_expr (ev_call G1 C.hr (ea_cons (ev_var 0) ea_nil) ⟨_, _, rfl, hp, rfl, rfl⟩) ?_
  refine sr_expr (ev_call G2 (C.hr.mono (by decide)) (ea_cons (ev_var 1) ea_nil) ⟨_, rfl, Nm.num hx, rfl, rfl⟩) ?_
  refine sr_unp2 2 3 C.calm C.nd (ev_call G3 (C.hr.mono (by decide)) (ea_cons (ev_var 1) ea_nil) ⟨_, _, _, rfl, hx, rfl, rfl⟩) ?_
  refine sr_unp2 4 5 C.calm C.nd (ev_call G4 (C.hr.mono (by decide)) (ea_cons (ev_var 0) ea_nil) ⟨_, _, _, _, rfl, hp.l, ok.op, rfl, rfl⟩) ?_
  refine sr_is (o := .rt (frD (svF x.num (x.den : Int) (wr p)).1 ((cm p : Int) * (x.den : Int) ^ (p.length - 1))) s) (sr_ret (ev_call G5 (C.hr.mono (by decide)) (ea_cons (ev_call G6 (C.hr.mono (by decide)) (ea_cons (ev_var 4) (ea_cons (ev_var 2) (ea_cons (ev_var 3) ea_nil)))
      ⟨wr p, x.num, (x.den : Int), rfl, by rw [wr_len]; omega, fun y hy => (wr_bd ok.op y hy).mono (by decide), ok.t.mono (by decide), bd.mono (by decide), ok.all, rfl, rfl⟩)
    (ea_cons (ev_mul (b1.cmul bp) (ev_var 5) (ev_call G7 (C.hr.mono (by decide)) (ea_cons (ev_var 3) (ea_cons (EV.is (ev_bltn (call_max2 C.calm) (rb_max C.calm) T8.max (ed_cons ev_int (ed_cons (ev_sub (ev_bltn call_len rb_lenT T.len (ed_cons (ev_var 0) ed_nil)) ev_int) ed_nil))) (by rw [hmx])) ea_nil)) ⟨_, _, rfl, by omega, bd, rfl, rfl⟩)) ea_nil))
    ⟨_, _, rfl, Int.mul_ne_zero (by omega) np, (b1.mul bp).mono (by decide), rfl, rfl⟩)) ?_
  congr 1
  rw [frD_rat (Int.mul_ne_zero (by omega) np)]
  congr 1
  have e := sv_ev (t := x.num) (b := (x.den : Int)) (x := x) (den_ne x) (by have := rat_eq x; have := den_ne x; grind) (wr_len (p := p)) (wr_co ok.op)
  rw [wr_len] at e
  have nz := den_ne x
  have cz := ic_ne (show (cm p : Int) ≠ 0 by omega)
  have pz := ic_ne np
  rw [Rat.intCast_mul]
  cases p with
  | nil =>
    show ((0 : Int) : Rat) / _ = 0
    rw [Rat.intCast_zero]
    grind
  | cons a p =>
    rw [List.length_cons, Int.pow_succ, Rat.intCast_mul] at e
    rw [List.length_cons, Nat.add_sub_cancel] at pz ⊢
    generalize (((x.den : Int) ^ p.length : Int) : Rat) = Bp at *
    generalize ((x.den : Int) : Rat) = b at *
    generalize (((svF x.num (x.den : Int) (wr (a :: p))).1 : Int) : Rat) = v' at *
    generalize ((cm (a :: p) : Int) : Rat) = c at *
    generalize ev x (a :: p) = y at *
    have : v' = c * Bp * y := by grind
    grind
end
end K8


set_option Elab.async false
set_option linter.all false
set_option maxRecDepth 100000
set_option exponentiation.threshold 9000
namespace K8
open PySem PySem.Spec PyProof.Rows L2 DL PM
/-! ### the dice -/
def oneV (s : S) : Int := (s.2.1 + 99990067 * (s.2.2 + 1)).fmod 2305843009213693381
def twoV (s : S) : Int := (oneV s * oneV s + 89 * (s.2.2 + 1)).fmod 2305843009213693343 * 8675309 + oneV s
def rollV (s : S) (n : Int) : Int := if 0 < s.1 then s.1.fmod n else ((twoV s).fdiv 65551).fmod n
def rollS (s : S) (n : Int) : S := if 0 < s.1 then (s.1.fdiv n, s.2.1, s.2.2) else (s.1, s.2.1, s.2.2 + 1)
theorem fmod_bd {i n : Int} (h : 0 < n) : 0 ≤ i.fmod n ∧ i.fmod n < n := by
  rw [Int.fmod_eq_emod_of_nonneg _ (by omega)]
  exact ⟨Int.emod_nonneg _ (by omega), Int.emod_lt_of_pos _ h⟩
theorem roll_bd (s : S) {n : Int} (h : 0 < n) : 0 ≤ rollV s n ∧ rollV s n < n := by
  unfold rollV
  split <;> exact fmod_bd h
theorem gcd_turn (x y : Nat) : Nat.gcd y (x % y) = Nat.gcd x y := by
  rw [Nat.gcd_comm y (x % y), ← Nat.gcd_rec, Nat.gcd_comm]
section
variable {P : Program} {w : World} {K : PySem.W.Frag} {mg : Str → Option Value} {base : Heap} {f : Addr} {fd : FuncData}
abbrev sRoll : Stmt := top 38
theorem scRoll : FnScope ["_law_dice_here", "_law_total", "_law_one", "_law_two", "_law_found"] ["_law_dice_here", "_law_total"] (defScope sRoll) := ⟨rfl, rfl, rfl, by decide +kernel, rfl, by decide +kernel, by decide +kernel⟩
def rRoll : Rel := fun as s d s' => ∃ n, as = [.dice, .val (.int n)] ∧ 0 < n ∧ Bd 9000 n ∧ d = .int (rollV s n) ∧ s' = rollS s n
theorem ok_roll (F : Fun K "_law_roll" "_law_roll" sRoll f fd) (T : Top mg) : FnOk P w K mg base CX0 1 f fd ["_law_dice_here", "_law_total"] (spD rRoll) := by
  refine okD F scRoll (by rintro _ _ _ _ ⟨n, rfl, _⟩; rfl) fun cdv A outer s0 H0 E C z as s d s' h => ?_
  obtain ⟨n, rfl, n0, hn, rfl, rfl⟩ := h
  obtain ⟨a, b, c⟩ := s
  by_cases h0 : 0 < a
  · have e1 : rollV (a, b, c) n = a.fmod n := if_pos h0
    have e2 : rollS (a, b, c) n = (a.fdiv n, b, c) := if_pos h0
    rw [e1, e2]
    refine sr_ifT (ET.is (et_gt (ev_dice 0 0) ev_int) (decide_eq_true h0)) ?_
    refine sr_asg 4 C.nd (ev_mod (show n ≠ 0 by omega) (ev_bty call_int1 rb_int T.int (ed_cons (ev_dice 0 0) ed_nil)) (ev_var 1)) ?_
    refine sr_put 0 0 (ev_div (hn.cdiv (by omega)) (ev_dice 0 0) (ev_var 1)) ?_
    exact sr_ret (ev_var 4)
  · have e1 : rollV (a, b, c) n = ((twoV (a, b, c)).fdiv 65551).fmod n := if_neg h0
    have e2 : rollS (a, b, c) n = (a, b, c + 1) := if_neg h0
    rw [e1, e2]
    have m1 : -(2 ^ 64) < oneV (a, b, c) ∧ oneV (a, b, c) < 2 ^ 64 := by
      have := fmod_bd (i := b + 99990067 * (c + 1)) (n := 2305843009213693381) (by decide)
      unfold oneV
      dsimp only
      omega
    have m2 : -(2 ^ 64) < (oneV (a, b, c) * oneV (a, b, c) + 89 * (c + 1)).fmod 2305843009213693343 ∧ (oneV (a, b, c) * oneV (a, b, c) + 89 * (c + 1)).fmod 2305843009213693343 < 2 ^ 64 := by
      have := fmod_bd (i := oneV (a, b, c) * oneV (a, b, c) + 89 * (c + 1)) (n := 2305843009213693343) (by decide)
      omega
    refine sr_ifF (ET.is (et_gt (ev_dice 0 0) ev_int) (decide_eq_false h0)) ?_
    refine sr_put 0 2 (ev_add (ev_dice 0 2) ev_int) ?_
    refine sr_asg (d := .int (oneV (a, b, c))) 2 C.nd (ev_mod (by decide) (ev_bty call_int1 rb_int T.int (ed_cons (ev_add (ev_dice 0 1) (ev_mulL (by decide) ev_int (ev_dice 0 2))) ed_nil)) ev_int) ?_
    refine sr_asg (d := .int (twoV (a, b, c))) 3 C.nd (ev_add (ev_mulL m2 (ev_mod (by decide) (ev_bty call_int1 rb_int T.int (ed_cons (ev_add (ev_mulL m1 (ev_var 2) (ev_var 2)) (ev_mulL (by decide) ev_int (ev_dice 0 2))) ed_nil)) ev_int) ev_int) (ev_var 2)) ?_
    exact sr_ret (ev_mod (show n ≠ 0 by omega) (ev_bty call_int1 rb_int T.int (ed_cons (ev_div ⟨by decide, by decide⟩ (ev_var 3) ev_int) ed_nil)) (ev_var 1))
abbrev sGcd : Stmt := top 39
theorem scGcd : FnScope ["_law_one", "_law_other"] ["_law_one", "_law_other"] (defScope sGcd) := ⟨rfl, rfl, rfl, by decide +kernel, rfl, by decide +kernel, by decide +kernel⟩
def rGcd' : Rel := fun as s d s' => ∃ a b, as = [.val (.int a), .val (.int b)] ∧ d = .int (Nat.gcd a.natAbs b.natAbs : Nat) ∧ s' = s
theorem ok_gcd (F : Fun K "_law_gcd" "_law_gcd" sGcd f fd) (T : Top mg) : FnOk P w K mg base CX0 1 f fd ["_law_one", "_law_other"] (spD rGcd') := by
  refine okD F scGcd (by rintro _ _ _ _ ⟨a, b, rfl, _⟩; rfl) fun cdv A outer s0 H0 E C z as s₁ d s h => ?_
  obtain ⟨a, b, rfl, rfl, rfl⟩ := h
  refine sr_par 0 1 C.calm C.nd (ed_cons (ev_bltn call_abs rb_abs T.abs (ed_cons (ev_var 0) ed_nil)) (ed_cons (ev_bltn call_abs rb_abs T.abs (ed_cons (ev_var 1) ed_nil)) ed_nil)) ?_
  refine sr_whileW C.hp (fun m es s' => s' = s ∧ ∃ x : Nat, es = [.val (.int (x : Int)), .val (.int (m : Int))] ∧ Nat.gcd x m = Nat.gcd a.natAbs b.natAbs) (m0 := b.natAbs) ⟨rfl, a.natAbs, rfl, rfl⟩ ?_
  rintro m es s' ⟨rfl, x, rfl, hg⟩
  by_cases hm : 0 < m
  · right
    refine ⟨ET.is (et_gt (ev_var 1) ev_int) (decide_eq_true (by omega)), _, s', x % m, Nat.mod_lt _ hm, ⟨rfl, m, rfl, by rw [gcd_turn, hg]⟩, ?_⟩
    have e : ((x : Int)).fmod (m : Int) = ((x % m : Nat) : Int) := by
      rw [Int.fmod_eq_emod_of_nonneg _ (by omega)]
      rfl
    refine sr_par 0 1 C.calm C.nd (ed_cons (ev_var 1) (ed_cons (EV.is (ev_mod (show (m : Int) ≠ 0 by omega) (ev_bty call_int1 rb_int T.int (ed_cons (ev_var 0) ed_nil)) (ev_var 1)) (by rw [e])) ed_nil)) sr_nil
  · left
    have e0 : m = 0 := by omega
    subst e0
    rw [Nat.gcd_zero_right] at hg
    subst hg
    exact ⟨ET.is (et_gt (ev_var 1) ev_int) (decide_eq_false (by decide)), sr_ret (ev_var 0)⟩
abbrev sLFr : Stmt := top 40
theorem scLFr : FnScope ["_law_top", "_law_bottom", "_law_shared"] ["_law_top", "_law_bottom"] (defScope sLFr) := ⟨rfl, rfl, rfl, by decide +kernel, rfl, by decide +kernel, by decide +kernel⟩
theorem ok_lfr (F : Fun K "_law_fraction" "_law_fraction" sLFr f fd) (G : Dn P w K mg base 1 "_law_gcd" rGcd') : FnOk P w K mg base CX0 2 f fd ["_law_top", "_law_bottom"] (spD rQuot) := by
  refine okD F scLFr (by rintro _ _ _ _ ⟨v, t, rfl, _⟩; rfl) fun cdv A outer s0 H0 E C z as s₁ d s h => ?_
  obtain ⟨t, b, rfl, hb, hB, rfl, rfl⟩ := h
  refine sr_asg 2 C.nd (ev_call G C.hr (ea_cons (ev_var 0) (ea_cons (ev_var 1) ea_nil)) ⟨_, _, rfl, rfl, rfl⟩) ?_
  have fin : SR (cxOf CX0 P w K mg base ["_law_top", "_law_bottom", "_law_shared"] "_law_fraction" (defScope sLFr) f cdv A outer s0 H0 E).nox z ((defBody sLFr).drop 2) [.val (.int t), .val (.int b), .val (.int (gq t b))] s (.rt (frD t b) s) :=
    sr_ret (ev_tup (ed_cons (ev_div ((gq_bd hb hB).cdiv (gq_ne hb)) (ev_var 0) (ev_var 2)) (ed_cons (ev_div ((gq_bd hb hB).cdiv (gq_ne hb)) (ev_var 1) (ev_var 2)) ed_nil)))
  by_cases h0 : b < 0
  · have e : gq t b = -((Nat.gcd t.natAbs b.natAbs : Nat) : Int) := if_pos h0
    rw [e] at fin
    exact sr_ifTn (ET.is (et_lt (ev_var 1) ev_int) (decide_eq_true h0)) (sr_asg 2 C.nd (ev_neg (ev_var 2)) sr_nil) fin
  · have e : gq t b = ((Nat.gcd t.natAbs b.natAbs : Nat) : Int) := if_neg h0
    rw [e] at fin
    exact sr_ifF (ET.is (et_lt (ev_var 1) ev_int) (decide_eq_false h0)) fin
/-! ### the law's own sums -/
def prD (t b : Int) : PyData := .tuple [.int t, .int b]
theorem ev_fst {X : Cx} {z : Z} {e : Expr} {es : List Sl} {s s1 : S} {t b : Int} {pos p : Pos} {j} (h : EV X z e es s (prD t b) s1) : EV X z (.Subscript e (.Constant (.int 0) j p) pos) es s (.int t) s1 := ev_ixT h ev_int (atI_nat (j := 0) rfl)
theorem ev_snd {X : Cx} {z : Z} {e : Expr} {es : List Sl} {s s1 : S} {t b : Int} {pos p : Pos} {j} (h : EV X z e es s (prD t b) s1) : EV X z (.Subscript e (.Constant (.int 1) j p) pos) es s (.int b) s1 := ev_ixT h ev_int (atI_nat (j := 1) rfl)
def rPlus : Rel := fun as s d s' => ∃ t b o u, as = [.val (prD t b), .val (prD o u)] ∧ Bd 3000 t ∧ Bd 3000 b ∧ Bd 3000 o ∧ Bd 3000 u ∧ b * u ≠ 0 ∧ d = frD (t * u + o * b) (b * u) ∧ s' = s
abbrev sPlus : Stmt := top 41
theorem scPlus : FnScope ["_law_one", "_law_other"] ["_law_one", "_law_other"] (defScope sPlus) := ⟨rfl, rfl, rfl, by decide +kernel, rfl, by decide +kernel, by decide +kernel⟩
theorem ok_plus (F : Fun K "_law_plus" "_law_plus" sPlus f fd) (G : Dn P w K mg base 2 "_law_fraction" rQuot) : FnOk P w K mg base CX0 3 f fd ["_law_one", "_law_other"] (spD rPlus) := by
  refine okD F scPlus (by rintro _ _ _ _ ⟨t, b, o, u, rfl, _⟩; rfl) fun cdv A outer s0 H0 E C z as s₁ d s h => ?_
  obtain ⟨t, b, o, u, rfl, ht, hb, ho, hu, h0, rfl, rfl⟩ := h
  exact sr_ret (ev_call G C.hr (ea_cons (ev_add (ev_mul (ht.cmul hu) (ev_fst (ev_var 0)) (ev_snd (ev_var 1))) (ev_mul (ho.cmul hb) (ev_fst (ev_var 1)) (ev_snd (ev_var 0)))) (ea_cons (ev_mul (hb.cmul hu) (ev_snd (ev_var 0)) (ev_snd (ev_var 1))) ea_nil)) ⟨_, _, rfl, h0, (hb.mul hu).mono (by decide), rfl, rfl⟩)
def rTimes : Rel := fun as s d s' => ∃ t b o u, as = [.val (prD t b), .val (prD o u)] ∧ Bd 3000 t ∧ Bd 3000 b ∧ Bd 3000 o ∧ Bd 3000 u ∧ b * u ≠ 0 ∧ d = frD (t * o) (b * u) ∧ s' = s
abbrev sTimes : Stmt := top 42
theorem scTimes : FnScope ["_law_one", "_law_other"] ["_law_one", "_law_other"] (defScope sTimes) := ⟨rfl, rfl, rfl, by decide +kernel, rfl, by decide +kernel, by decide +kernel⟩
theorem ok_times (F : Fun K "_law_times" "_law_times" sTimes f fd) (G : Dn P w K mg base 2 "_law_fraction" rQuot) : FnOk P w K mg base CX0 3 f fd ["_law_one", "_law_other"] (spD rTimes) := by
  refine okD F scTimes (by rintro _ _ _ _ ⟨t, b, o, u, rfl, _⟩; rfl) fun cdv A outer s0 H0 E C z as s₁ d s h => ?_
  obtain ⟨t, b, o, u, rfl, ht, hb, ho, hu, h0, rfl, rfl⟩ := h
  exact sr_ret (ev_call G C.hr (ea_cons (ev_mul (ht.cmul ho) (ev_fst (ev_var 0)) (ev_fst (ev_var 1))) (ea_cons (ev_mul (hb.cmul hu) (ev_snd (ev_var 0)) (ev_snd (ev_var 1))) ea_nil)) ⟨_, _, rfl, h0, (hb.mul hu).mono (by decide), rfl, rfl⟩)
def rLessL : Rel := fun as s d s' => ∃ t b o u, as = [.val (prD t b), .val (prD o u)] ∧ Bd 3000 t ∧ Bd 3000 b ∧ Bd 2000 o ∧ Bd 3000 u ∧ b * u ≠ 0 ∧ d = frD (t * u + (0 - o) * b) (b * u) ∧ s' = s
abbrev sLessL : Stmt := top 43
theorem scLessL : FnScope ["_law_one", "_law_other"] ["_law_one", "_law_other"] (defScope sLessL) := ⟨rfl, rfl, rfl, by decide +kernel, rfl, by decide +kernel, by decide +kernel⟩
theorem bd_sub0 {o : Int} {n m : Nat} (h : Bd n o) (k : n ≤ m) : Bd m (0 - o) := by
  have := h.neg.mono k
  rwa [Int.zero_sub]
theorem ok_lessL (F : Fun K "_law_less" "_law_less" sLessL f fd) (G : Dn P w K mg base 3 "_law_plus" rPlus) : FnOk P w K mg base CX0 4 f fd ["_law_one", "_law_other"] (spD rLessL) := by
  refine okD F scLessL (by rintro _ _ _ _ ⟨t, b, o, u, rfl, _⟩; rfl) fun cdv A outer s0 H0 E C z as s₁ d s h => ?_
  obtain ⟨t, b, o, u, rfl, ht, hb, ho, hu, h0, rfl, rfl⟩ := h
  exact sr_ret (ev_call G C.hr (ea_cons (ev_var 0) (ea_cons (ev_tup (ed_cons (ev_sub ev_int (ev_fst (ev_var 1))) (ed_cons (ev_snd (ev_var 1)) ed_nil))) ea_nil)) ⟨t, b, 0 - o, u, rfl, ht, hb, bd_sub0 ho (by decide), hu, h0, rfl, rfl⟩)

end
/-! ### the law's sums, on rational numbers -/
/-- of at most 3000 bits -/
def Qb (q : Rat) : Prop := Bd 3000 q.num ∧ Bd 3000 (q.den : Int)
def rPlusQ : Rel := fun as s d s' => ∃ p q, as = [.val (cD p), .val (cD q)] ∧ Qb p ∧ Qb q ∧ d = cD (p + q) ∧ s' = s
def rTimesQ : Rel := fun as s d s' => ∃ p q, as = [.val (cD p), .val (cD q)] ∧ Qb p ∧ Qb q ∧ d = cD (p * q) ∧ s' = s
def rLessQ : Rel := fun as s d s' => ∃ p q, as = [.val (cD p), .val (cD q)] ∧ Qb p ∧ Qb q ∧ Bd 2000 q.num ∧ d = cD (p - q) ∧ s' = s
theorem den_mul_ne (p q : Rat) : (p.den : Int) * (q.den : Int) ≠ 0 := by
  have h1 := den_pos p
  have h2 := den_pos q
  exact Int.mul_ne_zero (by omega) (by omega)
theorem Qb.plus {as : List Sl} {s s' : S} {d : PyData} (h : rPlusQ as s d s') : rPlus as s d s' := by
  obtain ⟨p, q, rfl, hp, hq, rfl, rfl⟩ := h
  exact ⟨_, _, _, _, rfl, hp.1, hp.2, hq.1, hq.2, den_mul_ne p q, (fr_add p q).symm, rfl⟩
theorem Qb.times {as : List Sl} {s s' : S} {d : PyData} (h : rTimesQ as s d s') : rTimes as s d s' := by
  obtain ⟨p, q, rfl, hp, hq, rfl, rfl⟩ := h
  exact ⟨_, _, _, _, rfl, hp.1, hp.2, hq.1, hq.2, den_mul_ne p q, (fr_mul p q).symm, rfl⟩
theorem Qb.less {as : List Sl} {s s' : S} {d : PyData} (h : rLessQ as s d s') : rLessL as s d s' := by
  obtain ⟨p, q, rfl, hp, hq, h2, rfl, rfl⟩ := h
  exact ⟨_, _, _, _, rfl, hp.1, hp.2, h2, hq.2, den_mul_ne p q, (fr_sub p q).symm, rfl⟩
theorem Sz.qb {M A : Nat} {q : Rat} (h : Sz M A q) (hM : M ≠ 0) (k : A * M < 2 ^ 3000) (k2 : M < 2 ^ 3000) : Qb q := ⟨Nat.lt_of_le_of_lt (h.num hM) k, by
  have := h.denLe hM
  unfold Bd
  rw [Int.natAbs_natCast]
  exact Nat.lt_of_le_of_lt this k2⟩
end K8


set_option Elab.async false
set_option linter.all false
set_option maxRecDepth 100000
set_option exponentiation.threshold 9000
namespace K8
open PySem PySem.Spec PyProof.Rows L2 DL PM
section
variable {X : Cx} {z : Z} {es es1 es2 fs : List Sl} {s s1 s2 s' : S} {iter elt cond a b e : Expr} {ds : List PyData} {d : PyData} {o : Out} {rest body : List Stmt} {pos p p1 p2 p3 p4 : Pos}
/-- for x in a tuple -/
theorem sr_forT (l : Nat) {x : Str} (hp : PassesOwn (model X.prog X.w) X.A X.env X.xe) (hc : X.calm = true) (hN : X.N.Nodup) (h : EV X z iter es s (.tuple ds) s1) (E : Nat → List Sl) (T : Nat → S) (h0 : Le es (E 0)) (t0 : T 0 = s1)
    (hb : ∀ (i : Nat) d, ds[i]? = some d → SR X z body ((E i).set l (.val d)) (T i) (.nx (E (i + 1)) (T (i + 1)))) (k : SR X z rest (E ds.length) (T ds.length) o)
    (hi : X.N[l]? = some x := by rfl) (hx : Loc X.env.scope x := by first | exact Or.inl rfl | exact Or.inr rfl) (hf : X.fn x = true ∨ X.env.scope.names.lookup x = some .local := by first | exact .inl rfl | exact .inr rfl) (hfo : ∀ x, foldedSetIterable iter X.env x = pure x := by intro _; rfl) :
    SR X z (.For (.Name x p) iter body [] pos :: rest) es s o := fun σ H en at_ D q =>
  ⟨_, pss_cons (ps_for hp hc (pi_tup wE_ok) (pg_name hN hi hx hf) wB_ok hfo) wB_ok, h σ H en at_ _ fun v H1 e1 a1 v1 => by
    cases v1 with
    | @tup a xs _ fa ha r =>
      have hx : xs.length = ds.length := r.length
      refine ⟨a, rfl, ⟨xs, .inl (.inl ha)⟩, for_it (walk_tup (K := X.K) (a := a) (xs := xs)) (fun i σ' H' => Ez z H1 H' ∧ At z H' (T i) ∧ En z H' σ' (E i)) ⟨.refl _, t0 ▸ a1, (en.mono e1).le h0⟩ (fun i σ' H' _ w => .inl (.inl (w.1 a _ fa ha))) (fun i x σ' H' H2 hi w hy => ?_) fun σ' H' w => ?_⟩
      · obtain ⟨rfl, hy⟩ := hy
        obtain ⟨d, hd, hv⟩ := r.getV i x hy
        exact hb i d hd _ H2 (w.2.2.set l (.val (hv.mono w.1))) w.2.1 _ fun σ2 H3 e2 a2 n2 => ⟨w.1.trans e2, a2, n2⟩
      · rw [hx] at w
        exact k σ' H' w.2.2 w.2.1 D (q.mono (e1.trans w.1))⟩
/-- [e for i, x in enumerate(a tuple) if c] -/
theorem ev_lcETIf {j k : Nat} {x y : Str} {scope : Scope} {kt : Nat} (hc : X.calm = true) (hN : X.N.Nodup) (hm : X.mg "enumerate" = none) (hjk : j ≠ k) (kb : Nat → Bool) (A : Nat → List PyData) (hA0 : A 0 = []) (hit : ED X z [a] es s [.tuple ds] s) (hl : ds.length ≤ 100000) (hB : BlkOk X.N X.env.scope scope [(x, j), (y, k)])
    (hg : PgIn X scope (.Tuple [.Name x p, .Name y p1] kt p2) (gTup X.K 2 (gCons (gName j) (gCons (gName k) gNil))))
    (Ht : ∀ (i : Nat) d, ds[i]? = some d → ∀ z' : Z, Blk X scope fun Y => ET Y z' cond ((es.set j (.val (.int (i : Int)))).set k (.val d)) s (kb i) s)
    (He : ∀ (i : Nat) d, ds[i]? = some d → kb i = true → ∃ y, A (i + 1) = A i ++ [y] ∧ ∀ z' : Z, Blk X scope fun Y => EV Y z' elt ((es.set j (.val (.int (i : Int)))).set k (.val d)) s y s)
    (hn : ∀ (i : Nat) d, ds[i]? = some d → kb i = false → A (i + 1) = A i) (hgl : Gl X "enumerate" := by rfl) (hst : starEach [a] X.env = [(false, eval a X.env)] := by rfl)
    (hs : ∀ x, foldedSetIterable (.Call (.Name "enumerate" p3) [a] [] p4) X.env x = pure x := by intro _; rfl) :
    EV X z (.ListComp elt [{ target := .Tuple [.Name x p, .Name y p1] kt p2, iter := .Call (.Name "enumerate" p3) [a] [] p4, ifs := [cond], is_async := 0 }] scope pos) es s (.list (A ds.length)) s :=
  .mk (pe_lc (own := [(x, j), (y, k)]) hc hN (pi_enumT hgl hm wA_ok hst) hB hg tTs_ok tEl_ok hs) fun σ H en at_ Q q => by
    refine hit σ H en at_ _ fun vs H1 e1 a1 v1 => ?_
    cases v1 with
    | cons h1 r =>
      cases r
      cases h1 with
      | @tup a1' xs _ fa ha r1 =>
        have hx : xs.length = ds.length := r1.length
        have g1 : ∀ i, i < xs.length → ds[i]? = some (ds.getD i .none) := fun i hi => by
          rw [List.getD_eq_getElem?_getD, List.getElem?_eq_getElem (by omega)]
          rfl
        refine ⟨a1', xs, rfl, .inl (.inl ha), fun D hD => ?_⟩
        refine lc_two (K := X.K) (walk_enumT (K := X.K) (a := a1') (xs := xs)) (fun _ => s) (fun _ => s) (en.mono e1) a1 hD hjk (fun i => .int (i : Int)) (fun i => ds.getD i .none) (fun H' e => .inl (.inl (e _ _ fa ha))) (fun i x H' H2 hi eH hY => ?_) (by omega) kb A hA0
          (fun z' i hi σ H en at_ Q q s0 H0 C cl fp => Ht i _ (g1 i hi) z' s0 H0 C cl fp σ H en at_ Q q) (fun z' i hi hk => by
            obtain ⟨y, hy, go⟩ := He i _ (g1 i hi) hk
            exact ⟨y, hy, fun σ H en at_ Q q s0 H0 C cl fp => go z' s0 H0 C cl fp σ H en at_ Q q⟩) (fun i hi hk => ⟨hn i _ (g1 i hi) hk, rfl⟩) (fun H' e a2 d2 => ?_)
        · obtain ⟨T, u, v, rfl, nT, rfl, hu, hv⟩ := hY
          cases hu
          obtain ⟨d, hd, hdv⟩ := r1.getV i v hv
          rw [g1 i hi] at hd
          exact ⟨T, _, v, rfl, .inl (.inl upd_same), .inr ⟨nT, rfl⟩, .int _, by rw [Option.some.inj hd]; exact hdv⟩
        · rw [hx] at d2
          exact q _ H' (e1.trans e) a2 d2
end
/-! ### the law's polynomials -/
theorem qD_get {p : List Rat} {i : Nat} {d : PyData} (h : (p.map cD)[i]? = some d) : ∃ q, p[i]? = some q ∧ d = cD q := by
  rw [List.getElem?_map] at h
  cases hw : p[i]? with
  | none => rw [hw] at h; cases h
  | some w => rw [hw] at h; exact ⟨w, rfl, (Option.some.inj h).symm⟩
theorem qb_zero : Qb 0 := ⟨by unfold Bd; decide, by unfold Bd; decide⟩
theorem num_eq0 {q : Rat} : q.num = 0 ↔ q = 0 := ⟨num_zero, fun h => by rw [h]; rfl⟩
theorem pl_qs (p : List Rat) : Pl (.list (p.map cD)) := (pq_lst (k := 1) fun d hd => by
  obtain ⟨q, _, rfl⟩ := List.mem_map.mp hd
  exact pq_cD).pl
theorem pl_nl : Pl (.list []) := (pq_lst (k := 0) (ds := []) fun d hd => by cases hd).pl
section
variable {P : Program} {w : World} {K : PySem.W.Frag} {mg : Str → Option Value} {base : Heap} {f : Addr} {fd : FuncData}
abbrev sMade : Stmt := top 44
theorem scMade : FnScope ["_law_entries", "_law_found"] ["_law_entries"] (defScope sMade) := ⟨rfl, rfl, rfl, by decide +kernel, rfl, by decide +kernel, by decide +kernel⟩
def rMade : Rel := fun as s d s' => ∃ p : List Rat, (as = [.val (.list (p.map cD))] ∨ as = [.own (p.map cD)]) ∧ p.length ≤ 1000 ∧ d = pD (strip p) ∧ s' = s
theorem ok_made (F : Fun K "_law_py_made" "_law_py_made" sMade f fd) (T : Top mg) (T8 : Top8 mg) : FnOk P w K mg base CX0 1 f fd ["_law_entries"] (spD rMade) := by
  refine okOF F scMade (by rintro _ _ _ _ ⟨p, rfl | rfl, _⟩ <;> rfl) 1 (by rfl) fun cdv A0 outer s0 H0 E C => ⟨⟨C.nd, rfl, by first | exact Or.inl rfl | exact Or.inr rfl, rfl, by first | exact .inl rfl | exact .inr rfl⟩, fun as s₁ d s h => ?_⟩
  obtain ⟨p, has, hl, rfl, rfl⟩ := h
  have loop : ∀ sl : Sl, SO (cxOf CX0 P w K mg base ["_law_entries", "_law_found"] "_law_py_made" (defScope sMade) f cdv A0 outer s0 H0 E).nox ((defBody sMade).drop 1) [sl, .own (p.map cD)] s (.rt (pD (strip p)) s) := fun sl => by
    refine so_whileW C.hp (fun m es s' => s' = s ∧ es = [sl, .own ((p.take m).map cD)] ∧ m ≤ p.length ∧ strip (p.take m) = strip p) (m0 := p.length) ⟨rfl, by rw [List.take_length], Nat.le_refl _, by rw [List.take_length]⟩ ?_
    rintro m es s' ⟨rfl, rfl, hm, hs⟩
    have ne : ∀ z, ET (cxOf CX0 P w K mg base ["_law_entries", "_law_found"] "_law_py_made" (defScope sMade) f cdv A0 outer s0 H0 E).nox z (match (defBody sMade)[1]? with | some (Stmt.While (Expr.BoolOp _ [e, _] _) _ _ _) => e | _ => .Constant .none 0 ⟨0, 0, 0, 0⟩) [sl, .own ((p.take m).map cD)] s' (!decide (m = 0)) s' := fun z => ET.is (et_neO 1 C.hu (pl_qs _) pl_nl (ev_lst ed_nil)) (by
      cases m with
      | zero => rfl
      | succ m =>
        cases p with
        | nil => simp at hm
        | cons a p => rfl)
    have fin : (m = 0 ∨ co p (m - 1) ≠ 0) → SO (cxOf CX0 P w K mg base ["_law_entries", "_law_found"] "_law_py_made" (defScope sMade) f cdv A0 outer s0 H0 E).nox ((defBody sMade).drop 2) [sl, .own ((p.take m).map cD)] s' (.rt (pD (strip p)) s') := fun h => by
      rw [← hs, tidy_take hm h]
      exact so_ret fun z => ev_tupO 1 T.tuple
    by_cases h0 : 0 < m
    · have hg := get_co (p := p) (i := m - 1) (by omega)
      have hat : atI ((p.take m).map cD) (-1) = some (cD (co p (m - 1))) := atI_m1 (by rw [List.length_map, List.length_take]; omega) (by
        rw [List.length_map, List.length_take, Nat.min_eq_left hm, List.getElem?_map, List.getElem?_take, if_pos (by omega), hg]
        rfl)
      have t2 : ∀ z, ET (cxOf CX0 P w K mg base ["_law_entries", "_law_found"] "_law_py_made" (defScope sMade) f cdv A0 outer s0 H0 E).nox z (match (defBody sMade)[1]? with | some (Stmt.While (Expr.BoolOp _ [_, e] _) _ _ _) => e | _ => .Constant .none 0 ⟨0, 0, 0, 0⟩) [sl, .own ((p.take m).map cD)] s' (decide ((co p (m - 1)).num = 0)) s' := fun z =>
        et_eqI C.hu (ev_ixT (i := 0) (ev_ixO (ds := (p.take m).map cD) 1 (ev_neg ev_int) hat) ev_int (atI_nat (j := 0) rfl)) ev_int
      by_cases h1 : co p (m - 1) = 0
      · right
        refine ⟨fun z => et_w (ew_andT (ET.is (ne z) (by rw [decide_eq_false (by omega)]; rfl)) (ew_and1 (ET.is (t2 z) (decide_eq_true (num_eq0.mpr h1))))), _, s', m - 1, by omega, ⟨rfl, rfl, by omega, ?_⟩, ?_⟩
        · rw [take_down (by omega) h1, show m - 1 + 1 = m by omega, hs]
        · have dl : ((p.take m).map cD).dropLast = (p.take (m - 1)).map cD := by
            rw [List.dropLast_eq_take, ← List.map_take, List.take_take, List.length_map, List.length_take]
            congr 2
            omega
          refine so_pop 1 (ds := (p.take m).map cD) (by
            intro e
            have := congrArg List.length e
            rw [List.length_map, List.length_take, List.length_nil] at this
            omega) ?_
          rw [dl]
          exact so_nil
      · left
        exact ⟨fun z => et_w (ew_andT (ET.is (ne z) (by rw [decide_eq_false (by omega)]; rfl)) (ew_and1 (ET.is (t2 z) (decide_eq_false (fun e => h1 (num_eq0.mp e)))))), fin (.inr h1)⟩
    · left
      exact ⟨fun z => et_w (ew_andF (ET.is (ne z) (by rw [decide_eq_true (by omega)]; rfl))), fin (.inl (by omega))⟩
  refine ⟨p.map cD, s, [.un, .un], ?_, fun fs h => by simp at h, fun z => ?_, loop .un⟩
  · rcases has with rfl | rfl <;> exact .un (.un .nil)
  · rcases has with rfl | rfl
    · exact en_list T8.list (ed_cons (ev_var 0) ed_nil) (.inl rfl)
    · exact en_listO 0 T8.list
end
end K8


set_option Elab.async false
set_option linter.all false
set_option maxRecDepth 100000
set_option exponentiation.threshold 9000
namespace K8
open PySem PySem.Spec PyProof.Rows L2 DL PM
theorem Sz.msum {M A N B : Nat} {p q : List Rat} (hp : PSz M A p) (hq : PSz N B q) (k : Nat) : ∀ n, Sz (M * N) (n * (A * B)) (PM.msum p q k n)
  | 0 => by rw [PM.msum]; exact .zero
  | n + 1 => by
    rw [PM.msum, show (n + 1) * (A * B) = n * (A * B) + A * B by grind]
    refine (Sz.msum hp hq k n).add ?_
    have gc : ∀ {M A : Nat} {p : List Rat} (h : PSz M A p) (i : Nat), Sz M A (co p i) := fun {M A p} h i => by
      by_cases hi : i < p.length
      · exact h _ (List.mem_of_getElem? (get_co hi))
      · rw [co_ge p (by omega)]
        exact .zero
    split
    · exact (gc hp n).mul (gc hq _)
    · exact .zero
theorem psz_co {M A : Nat} {p : List Rat} (h : PSz M A p) (i : Nat) : Sz M A (co p i) := by
  by_cases hi : i < p.length
  · exact h _ (List.mem_of_getElem? (get_co hi))
  · rw [co_ge p (by omega)]
    exact .zero
theorem cD_pair (q : Rat) : cD q = prD q.num (q.den : Int) := rfl
theorem cD_neg (q : Rat) : PyData.tuple [.int (0 - q.num), .int (q.den : Int)] = cD (-q) := by
  unfold cD
  rw [Int.zero_sub]
  rfl
theorem rep_qs (n : Nat) : (List.replicate n [cD 0]).flatten = (List.replicate n (0 : Rat)).map cD := by
  rw [List.map_replicate]
  induction n with
  | zero => rfl
  | succ n ih => rw [List.replicate_succ, List.replicate_succ, List.flatten_cons, ih]; rfl
/-- the law's sums and products may be taken of these -/
structure Mul2 (p q : List Rat) (M A N B : Nat) : Prop where
  m : M ≠ 0
  n : N ≠ 0
  a : PSz M A p
  b : PSz N B q
  lp : p.length ≤ 100
  lq : q.length ≤ 100
  big : p.length * (A * B) * (M * N) < 2 ^ 3000
  ka : A * M < 2 ^ 3000
  kb : B * N < 2 ^ 3000
  kab : A * B * (M * N) < 2 ^ 3000
  m2 : M < 2 ^ 1000
  n2 : N < 2 ^ 1000
section
variable {P : Program} {w : World} {K : PySem.W.Frag} {mg : Str → Option Value} {base : Heap} {f : Addr} {fd : FuncData}
abbrev sPrs : Stmt := top 45
theorem scPrs : FnScope ["_law_poly", "_law_one"] ["_law_poly"] (defScope sPrs) := ⟨rfl, rfl, rfl, by decide +kernel, rfl, by decide +kernel, by decide +kernel⟩
def rPrs : Rel := fun as s d s' => ∃ ds p, as = [.val (.tuple ds)] ∧ NmL ds p ∧ p.length ≤ 1000 ∧ d = pD p ∧ s' = s
theorem ok_prs (F : Fun K "_law_py_pairs" "_law_py_pairs" sPrs f fd) (T : Top mg) : FnOk P w K mg base CX0 1 f fd ["_law_poly"] (spD rPrs) := by
  refine okD F scPrs (by rintro _ _ _ _ ⟨ds, p, rfl, _⟩; rfl) fun cdv A0 outer s0 H0 E C z as s₁ d s h => ?_
  obtain ⟨ds, p, rfl, hp, hl, rfl, rfl⟩ := h
  have hlen := hp.length
  have e : pD p = .tuple (ds.map pairOf) := by
    rw [hp.pairs]
    rfl
  rw [e]
  refine sr_ret (ev_bty call_tuple_of rb_tuple T.tuple (ed_cons (ev_lcFT (j := 1) C.calm C.nd pairOf (ev_var 0) (by omega) (blkOk_by (N := ["_law_poly", "_law_one"]) (sc := defScope sPrs) (own := [("_law_one", 1)]) (by decide +kernel)) (fun _ _ _ _ _ => pg_name C.nd rfl (Or.inl rfl)) (fun d hd z' s0 H0 C' cl fp => ?_)) ed_nil))
  obtain ⟨q, hq, hn⟩ := hp.mem hd
  unfold NmQ at hn
  generalize q.num = t at hn
  generalize (q.den : Int) = b at hn
  cases hn with
  | int h1 h2 => exact ev_ifF (et_val (ev_isi T.isi T.tuple (ev_var 1) (k_tuple (.int t)))) (ev_tup (ed_cons (ev_var 1) (ed_cons ev_int ed_nil)))
  | fr h1 h2 => exact ev_ifT (et_val (ev_isi T.isi T.tuple (ev_var 1) (k_tuple (.tuple [.int t, .int b])))) (ev_var 1)
abbrev sLSum : Stmt := top 46
theorem scLSum : FnScope ["_law_one", "_law_other", "_law_most", "_law_left", "_law_right_here", "_law_first", "_law_second"] ["_law_one", "_law_other"] (defScope sLSum) := ⟨rfl, rfl, rfl, by decide +kernel, rfl, by decide +kernel, by decide +kernel⟩
def rLSum : Rel := fun as s d s' => ∃ p q, as = [.val (pD p), .val (pD q)] ∧ p.length ≤ 100 ∧ q.length ≤ 100 ∧ (∀ a ∈ p, Qb a) ∧ (∀ a ∈ q, Qb a) ∧ d = pD (strip (add p q)) ∧ s' = s
theorem ok_lsum (F : Fun K "_law_py_sum" "_law_py_sum" sLSum f fd) (T : Top mg) (T8 : Top8 mg) (G1 : Dn P w K mg base 3 "_law_plus" rPlus) (G2 : Dn P w K mg base 1 "_law_py_made" rMade) : FnOk P w K mg base CX0 4 f fd ["_law_one", "_law_other"] (spD rLSum) := by
  refine okD F scLSum (by rintro _ _ _ _ ⟨p, q, rfl, _⟩; rfl) fun cdv A0 outer s0 H0 E C z as s₁ d s h => ?_
  obtain ⟨p, q, rfl, hp, hq, bp, bq, rfl, rfl⟩ := h
  have ln : ∀ p : List Rat, (p.map cD).length = p.length := fun p => List.length_map ..
  have mx : (max (p.length : Int) (q.length : Int)) = ((max p.length q.length : Nat) : Int) := by omega
  have pad : ∀ (U : List Rat) (n : Nat), U.map cD ++ (List.replicate n [cD 0]).flatten = (U ++ List.replicate n 0).map cD := fun U n => by
    rw [List.map_append, rep_qs]
  generalize hn : max p.length q.length = n at *
  refine sr_asg (d := .int (n : Int)) 2 C.nd (EV.is (ev_bltn (call_max2 C.calm) (rb_max C.calm) T8.max (ed_cons (ev_bltn call_len rb_lenT T.len (ed_cons (ev_var 0) ed_nil)) (ed_cons (ev_bltn call_len rb_lenT T.len (ed_cons (ev_var 1) ed_nil)) ed_nil))) (by rw [ln, ln, mx])) ?_
  refine sr_asg (d := .list ((p ++ List.replicate (n - p.length) 0).map cD)) 3 C.nd (EV.is (ev_catL (ds := p.map cD) (by rw [ln]; simp; omega) (ev_bty call_list_of rb_listT T8.list (ed_cons (ev_var 0) ed_nil)) (ev_rep (ds := [cD 0]) (n := (n : Int) - (p.length : Int)) (by omega) (by omega) (by simp; omega) (ev_lst (ed_cons (ev_tup (ed_cons ev_int (ed_cons ev_int ed_nil))) ed_nil)) (EV.is (ev_sub (ev_var 2) (ev_bltn call_len rb_lenT T.len (ed_cons (ev_var 0) ed_nil))) (by rw [ln])))) (by rw [show ((n : Int) - (p.length : Int)).toNat = n - p.length by omega, pad])) ?_
  refine sr_asg (d := .list ((q ++ List.replicate (n - q.length) 0).map cD)) 4 C.nd (EV.is (ev_catL (ds := q.map cD) (by rw [ln]; simp; omega) (ev_bty call_list_of rb_listT T8.list (ed_cons (ev_var 1) ed_nil)) (ev_rep (ds := [cD 0]) (n := (n : Int) - (q.length : Int)) (by omega) (by omega) (by simp; omega) (ev_lst (ed_cons (ev_tup (ed_cons ev_int (ed_cons ev_int ed_nil))) ed_nil)) (EV.is (ev_sub (ev_var 2) (ev_bltn call_len rb_lenT T.len (ed_cons (ev_var 1) ed_nil))) (by rw [ln])))) (by rw [show ((n : Int) - (q.length : Int)).toNat = n - q.length by omega, pad])) ?_
  rw [← strip_ext _ _ (pad_add p q n hn)]
  have l1 : (p ++ List.replicate (n - p.length) (0 : Rat)).length = n := by rw [List.length_append, List.length_replicate]; omega
  have l2 : (q ++ List.replicate (n - q.length) (0 : Rat)).length = n := by rw [List.length_append, List.length_replicate]; omega
  have ba : ∀ a ∈ p ++ List.replicate (n - p.length) (0 : Rat), Qb a := fun a ha => by
    rcases List.mem_append.mp ha with h | h
    · exact bp a h
    · rw [List.eq_of_mem_replicate h]
      exact qb_zero
  have bb : ∀ a ∈ q ++ List.replicate (n - q.length) (0 : Rat), Qb a := fun a ha => by
    rcases List.mem_append.mp ha with h | h
    · exact bq a h
    · rw [List.eq_of_mem_replicate h]
      exact qb_zero
  generalize p ++ List.replicate (n - p.length) (0 : Rat) = a at *
  generalize q ++ List.replicate (n - q.length) (0 : Rat) = b at *
  let g : PyData → PyData → PyData := fun d e => match d, e with
    | .tuple [.int t, .int b], .tuple [.int o, .int u] => frD (t * u + o * b) (b * u)
    | _, _ => .none
  have gz : ∀ x y : Rat, g (cD x) (cD y) = cD (x + y) := fun x y => fr_add x y
  have ez : (List.zipWith (· + ·) a b).map cD = List.zipWith g (a.map cD) (b.map cD) := by
    rw [List.zipWith_map, List.map_zipWith]
    congr 1
    funext x y
    exact (gz x y).symm
  refine sr_ret (ev_call G2 (C.hr.mono (by decide)) (ea_cons (ev_lcZ (j := 5) (k := 6) C.calm C.nd T8.zip (by decide) g (ed_cons (ev_var 3) (ed_cons (ev_var 4) ed_nil)) (by rw [ln, ln]; omega) (by rw [ln]; omega) (blkOk_by (N := ["_law_one", "_law_other", "_law_most", "_law_left", "_law_right_here", "_law_first", "_law_second"]) (sc := defScope sLSum) (own := [("_law_first", 5), ("_law_second", 6)]) (by decide +kernel))
    (fun _ _ _ _ _ => pg_tup C.calm (pgs_cons (pg_name C.nd rfl (Or.inl rfl)) (pgs_cons (pg_name C.nd rfl (Or.inl rfl)) pgs_nil))) (fun i d1 d2 h1 h2 z' s0 H0 C' cl fp => ?_)) ea_nil) ⟨List.zipWith (· + ·) a b, .inl (by rw [ez]), by rw [List.length_zipWith]; omega, rfl, rfl⟩)
  obtain ⟨x, hx, rfl⟩ := qD_get h1
  obtain ⟨y, hy, rfl⟩ := qD_get h2
  rw [gz]
  exact ev_call G1 C.hr (ea_cons (ev_var 5) (ea_cons (ev_var 6) ea_nil)) (Qb.plus ⟨x, y, rfl, ba x (List.mem_of_getElem? hx), bb y (List.mem_of_getElem? hy), rfl, rfl⟩)
abbrev sLTim : Stmt := top 47
theorem scLTim : FnScope ["_law_one", "_law_other", "_law_found", "_law_at", "_law_first", "_law_to", "_law_second"] ["_law_one", "_law_other"] (defScope sLTim) := ⟨rfl, rfl, rfl, by decide +kernel, rfl, by decide +kernel, by decide +kernel⟩
def rLTim : Rel := fun as s d s' => ∃ p q M A N B, as = [.val (pD p), .val (pD q)] ∧ Mul2 p q M A N B ∧ d = pD (strip (mul p q)) ∧ s' = s
theorem ok_ltim (F : Fun K "_law_py_times" "_law_py_times" sLTim f fd) (T : Top mg) (T8 : Top8 mg) (G1 : Dn P w K mg base 3 "_law_plus" rPlus) (G2 : Dn P w K mg base 3 "_law_times" rTimes) (G3 : Dn P w K mg base 1 "_law_py_made" rMade) : FnOk P w K mg base CX0 4 f fd ["_law_one", "_law_other"] (spD rLTim) := by
  refine okO F scLTim (by rintro _ _ _ _ ⟨p, q, M, A, N, B, rfl, _⟩; rfl) (by rintro _ _ _ _ ⟨p, q, M, A, N, B, rfl, _⟩ ds h; simp at h) fun cdv A0 outer s0 H0 E C as s₁ d s h => ?_
  obtain ⟨p, q, M, A, N, B, rfl, H, rfl, rfl⟩ := h
  have hp := H.lp
  have hq := H.lq
  have ln : ∀ p : List Rat, (p.map cD).length = p.length := fun p => List.length_map ..
  generalize hL : p.length + q.length = L
  have qa : ∀ a ∈ p, Qb a := fun a ha => (H.a a ha).qb H.m H.ka (Nat.lt_trans H.m2 (Nat.pow_lt_pow_right (by decide) (by decide)))
  have qb : ∀ a ∈ q, Qb a := fun a ha => (H.b a ha).qb H.n H.kb (Nat.lt_trans H.n2 (Nat.pow_lt_pow_right (by decide) (by decide)))
  have mn : M * N < 2 ^ 3000 := by
    have : M * N ≤ 2 ^ 1000 * 2 ^ 1000 := Nat.mul_le_mul (Nat.le_of_lt H.m2) (Nat.le_of_lt H.n2)
    rw [← Nat.pow_add] at this
    exact Nat.lt_of_le_of_lt this (Nat.pow_lt_pow_right (by decide) (by decide))
  have mn0 : M * N ≠ 0 := Nat.mul_ne_zero H.m H.n
  refine so_new (s1 := s) (ds := (half p q L 0 0).map cD) 2 C.nd (fun z => ?_) ?_
  · have e : (half p q L 0 0).map cD = (List.replicate ((p.length : Int) + (q.length : Int)).toNat [cD 0]).flatten := by
      rw [half_zero, rep_qs, show ((p.length : Int) + (q.length : Int)).toNat = L by omega]
    rw [e]
    exact en_rep (by omega) (by omega) (by simp; omega) (ev_lst (ed_cons (ev_tup (ed_cons ev_int (ed_cons ev_int ed_nil))) ed_nil)) (EV.is (ev_add (ev_bltn call_len rb_lenT T.len (ed_cons (ev_var 0) ed_nil)) (ev_bltn call_len rb_lenT T.len (ed_cons (ev_var 1) ed_nil))) (by rw [ln, ln]))
  · refine so_forET 3 4 C.hp C.calm T8.enum (fun z => ed_cons (ev_var 0) ed_nil) (fun i => [.val (pD p), .val (pD q), .own ((half p q L i 0).map cD), .un, .un, .un, .un]) (fun _ => s) (Le.refl _) rfl (fun i d hd => ?_) ?_ (pg_tup C.calm (pgs_cons (pg_name C.nd rfl (.inl rfl)) (pgs_cons (pg_name C.nd rfl (.inl rfl)) pgs_nil)))
    · obtain ⟨x, hx, rfl⟩ := qD_get hd
      have hi : i < p.length := (List.getElem?_eq_some_iff.mp hx).1
      have cx := co_get hx
      refine so_forET 5 6 C.hp C.calm T8.enum (fun z => ed_cons (ev_var 1) ed_nil) (fun j => [.val (pD p), .val (pD q), .own ((half p q L i j).map cD), .val (.int (i : Int)), .val (cD x), .un, .un]) (fun _ => s) (Le.refl _) rfl (fun j d hd => ?_) ?_ (pg_tup C.calm (pgs_cons (pg_name C.nd rfl (.inl rfl)) (pgs_cons (pg_name C.nd rfl (.inl rfl)) pgs_nil)))
      · obtain ⟨y, hy, rfl⟩ := qD_get hd
        have hj : j < q.length := (List.getElem?_eq_some_iff.mp hy).1
        have cy := co_get hy
        have hlt : i + j < L := by omega
        have hget : ((half p q L i j).map cD)[i + j]? = some (cD (co (half p q L i j) (i + j))) := by
          rw [List.getElem?_map, get_co (p := half p q L i j) (by rw [half_len]; exact hlt)]
          rfl
        have val : co (half p q L i j) (i + j) = PM.msum p q (i + j) i := by
          rw [co_get (half_get hlt), if_neg (by omega)]
          grind
        have qv : Qb (co (half p q L i j) (i + j)) := by
          rw [val]
          refine ((Sz.msum H.a H.b (i + j) i).mono (Nat.mul_le_mul_right _ (Nat.le_of_lt hi))).qb mn0 ?_ mn
          exact H.big
        have qxy : Qb (x * y) := ((H.a x (List.mem_of_getElem? hx)).mul (H.b y (List.mem_of_getElem? hy))).qb mn0 H.kab mn
        have ix : ∀ z, EV (cxOf CX0 P w K mg base ["_law_one", "_law_other", "_law_found", "_law_at", "_law_first", "_law_to", "_law_second"] "_law_py_times" (defScope sLTim) f cdv A0 outer s0 H0 E).nox z (match (loopB (loopB (defBody sLTim)[1]?)[0]?)[0]? with | some (Stmt.Assign [Expr.Subscript _ e _] _ _) => e | _ => .Constant .none 0 ⟨0, 0, 0, 0⟩) [.val (pD p), .val (pD q), .own ((half p q L i j).map cD), .val (.int (i : Int)), .val (cD x), .val (.int (j : Int)), .val (cD y)] s (.int ((i + j : Nat) : Int)) s := fun z => EV.is (ev_add (ev_var 3) (ev_var 5)) (by rw [Int.natCast_add])
        refine so_set (ds := (half p q L i j).map cD) (j := i + j) (d := cD (co (half p q L i j) (i + j) + x * y)) 2 (fun z => ev_call G1 C.hr (ea_cons (ev_ixO (ds := (half p q L i j).map cD) 2 (EV.is (ev_add (ev_var 3) (ev_var 5)) (by rw [← Int.natCast_add])) (atI_nat (j := i + j) hget)) (ea_cons (ev_call G2 C.hr (ea_cons (ev_var 4) (ea_cons (ev_var 6) ea_nil)) (Qb.times ⟨x, y, rfl, qa x (List.mem_of_getElem? hx), qb y (List.mem_of_getElem? hy), rfl, rfl⟩)) ea_nil)) (Qb.plus ⟨_, _, rfl, qv, qxy, rfl, rfl⟩)) ix (by rw [ln, half_len]; exact hlt) (pg_sub (pe_var rfl (.inl rfl)) wE_ok set_list) ?_
        have e : ((half p q L i j).map cD).set (i + j) (cD (co (half p q L i j) (i + j) + x * y)) = (half p q L i (j + 1)).map cD := by
          rw [← half_next hlt, cx, cy, List.map_set]
        rw [e]
        exact so_le so_nil (.same (.same (.same (.same (.same (.un (.un .nil)))))))
      · rw [ln, half_row (Nat.le_refl _)]
        exact so_le so_nil (.same (.same (.same (.un (.un (.un (.un .nil)))))))
    · rw [ln, ← strip_ext _ _ (half_mul (p := p) (q := q) (L := L) (by omega))]
      exact so_ret fun z => ev_call G3 (C.hr.mono (by decide)) (ea_own 2 ea_nil) ⟨half p q L p.length 0, .inr rfl, by rw [half_len]; omega, rfl, rfl⟩
abbrev sLBck : Stmt := top 48
theorem scLBck : FnScope ["_law_poly", "_law_one"] ["_law_poly"] (defScope sLBck) := ⟨rfl, rfl, rfl, by decide +kernel, rfl, by decide +kernel, by decide +kernel⟩
def rLBck : Rel := fun as s d s' => ∃ p : List Rat, as = [.val (pD p)] ∧ p.length ≤ 1000 ∧ d = pD (p.map (- ·)) ∧ s' = s
theorem ok_lbck (F : Fun K "_law_py_back" "_law_py_back" sLBck f fd) (T : Top mg) : FnOk P w K mg base CX0 1 f fd ["_law_poly"] (spD rLBck) := by
  refine okD F scLBck (by rintro _ _ _ _ ⟨p, rfl, _⟩; rfl) fun cdv A0 outer s0 H0 E C z as s₁ d s h => ?_
  obtain ⟨p, rfl, hl, rfl, rfl⟩ := h
  let g : PyData → PyData := fun d => match d with
    | .tuple [.int t, .int b] => .tuple [.int (0 - t), .int b]
    | d => d
  have e : pD (p.map (- ·)) = .tuple ((p.map cD).map g) := by
    unfold pD
    rw [List.map_map, List.map_map]
    congr 1
    apply List.map_congr_left
    intro q _
    exact (cD_neg q).symm
  rw [e]
  refine sr_ret (ev_bty call_tuple_of rb_tuple T.tuple (ed_cons (ev_lcFT (j := 1) C.calm C.nd g (ev_var 0) (by rw [List.length_map]; omega) (blkOk_by (N := ["_law_poly", "_law_one"]) (sc := defScope sLBck) (own := [("_law_one", 1)]) (by decide +kernel)) (fun _ _ _ _ _ => pg_name C.nd rfl (Or.inl rfl)) (fun d hd z' s0 H0 C' cl fp => ?_)) ed_nil))
  obtain ⟨q, _, rfl⟩ := List.mem_map.mp hd
  exact ev_tup (ed_cons (ev_sub ev_int (ev_fst (t := q.num) (b := (q.den : Int)) (ev_var 1))) (ed_cons (ev_snd (t := q.num) (b := (q.den : Int)) (ev_var 1)) ed_nil))
abbrev sLVal : Stmt := top 49
theorem scLVal : FnScope ["_law_poly", "_law_number", "_law_found", "_law_entry"] ["_law_poly", "_law_number"] (defScope sLVal) := ⟨rfl, rfl, rfl, by decide +kernel, rfl, by decide +kernel, by decide +kernel⟩
def rLVal : Rel := fun as s d s' => ∃ p x, as = [.val (pD p), .val (cD x)] ∧ p.length ≤ 1000 ∧ Qb x ∧ (∀ a ∈ p, Qb a) ∧ (∀ i, Qb (ev x (p.drop i)) ∧ Qb (ev x (p.drop i) * x)) ∧ d = cD (ev x p) ∧ s' = s
theorem ok_lval (F : Fun K "_law_py_value" "_law_py_value" sLVal f fd) (G1 : Dn P w K mg base 3 "_law_plus" rPlus) (G2 : Dn P w K mg base 3 "_law_times" rTimes) : FnOk P w K mg base CX0 4 f fd ["_law_poly", "_law_number"] (spD rLVal) := by
  refine okD F scLVal (by rintro _ _ _ _ ⟨p, x, rfl, _⟩; rfl) fun cdv A0 outer s0 H0 E C z as s₁ d s h => ?_
  obtain ⟨p, x, rfl, hl, hx, hp, hb, rfl, rfl⟩ := h
  refine sr_asg (d := cD 0) 2 C.nd (ev_tup (ed_cons ev_int (ed_cons ev_int ed_nil))) ?_
  refine sr_forT 3 C.hp C.calm C.nd (ev_revT (ev_var 0)) (fun i => [.val (pD p), .val (cD x), .val (cD (ev x (p.drop (p.length - i)))), .un]) (fun _ => s) (by rw [Nat.sub_zero, List.drop_length]; exact Le.refl _) rfl (fun i d hd => ?_) ?_
  · have hi : i < p.length := by
      have := (List.getElem?_eq_some_iff.mp hd).1
      rwa [List.length_reverse, List.length_map] at this
    rw [List.getElem?_reverse (by rw [List.length_map]; exact hi), List.length_map] at hd
    obtain ⟨a, ha, rfl⟩ := qD_get hd
    have dr : p.drop (p.length - (i + 1)) = a :: p.drop (p.length - i) := by
      rw [show p.length - (i + 1) = p.length - 1 - i by omega, show p.length - i = p.length - 1 - i + 1 by omega]
      obtain ⟨h1, h2⟩ := List.getElem?_eq_some_iff.mp ha
      rw [List.drop_eq_getElem_cons h1, h2]
    have ee : ev x (p.drop (p.length - i)) * x + a = ev x (p.drop (p.length - (i + 1))) := by
      rw [dr, ev]
      grind
    rw [← ee]
    exact sr_asg 2 C.nd (ev_call G1 C.hr (ea_cons (ev_call G2 C.hr (ea_cons (ev_var 2) (ea_cons (ev_var 1) ea_nil)) (Qb.times ⟨_, _, rfl, (hb _).1, hx, rfl, rfl⟩)) (ea_cons (ev_var 3) ea_nil)) (Qb.plus ⟨_, _, rfl, (hb _).2, hp a (List.mem_of_getElem? ha), rfl, rfl⟩)) (sr_le sr_nil (.same (.same (.same (.un .nil)))))
  · rw [List.length_reverse, List.length_map, Nat.sub_self, List.drop_zero]
    exact sr_ret (ev_var 2)
abbrev sLDer : Stmt := top 52
theorem scLDer : FnScope ["_law_poly", "_law_at", "_law_entry"] ["_law_poly"] (defScope sLDer) := ⟨rfl, rfl, rfl, by decide +kernel, rfl, by decide +kernel, by decide +kernel⟩
def rLDer : Rel := fun as s d s' => ∃ p : List Rat, as = [.val (pD p)] ∧ p.length ≤ 1000 ∧ (∀ a ∈ p, Qb a) ∧ d = pD (strip (der p)) ∧ s' = s
theorem ok_lder (F : Fun K "_law_derived" "_law_derived" sLDer f fd) (T8 : Top8 mg) (G1 : Dn P w K mg base 3 "_law_times" rTimes) (G2 : Dn P w K mg base 1 "_law_py_made" rMade) : FnOk P w K mg base CX0 4 f fd ["_law_poly"] (spD rLDer) := by
  refine okD F scLDer (by rintro _ _ _ _ ⟨p, rfl, _⟩; rfl) fun cdv A0 outer s0 H0 E C z as s₁ d s h => ?_
  obtain ⟨p, rfl, hl, bp, rfl, rfl⟩ := h
  have dfl : (derF 0 p).length = p.length := by
    have : ∀ (p : List Rat) (n : Nat), (derF n p).length = p.length := fun p => by
      induction p with
      | nil => intro n; rfl
      | cons a p ih => intro n; rw [derF, List.length_cons, List.length_cons, ih]
    exact this p 0
  have e : ((derF 0 p).take (p.map cD).length).drop 1 = der p := by
    rw [List.length_map, List.take_of_length_le (by omega), der_tail]
  refine sr_ret (ev_call G2 (C.hr.mono (by decide)) (ea_cons (ev_lcETIf (j := 1) (k := 2) C.calm C.nd T8.enum (by decide) (fun i => decide (i > 0)) (fun i => (((derF 0 p).take i).drop 1).map cD) rfl (ed_cons (ev_var 0) ed_nil) (by rw [List.length_map]; omega) (blkOk_by (N := ["_law_poly", "_law_at", "_law_entry"]) (sc := defScope sLDer) (own := [("_law_at", 1), ("_law_entry", 2)]) (by decide +kernel))
    (fun _ _ _ _ _ => pg_tup C.calm (pgs_cons (pg_name C.nd rfl (Or.inl rfl)) (pgs_cons (pg_name C.nd rfl (Or.inl rfl)) pgs_nil))) (fun i d hd z' s0 H0 C' cl fp => ?_) (fun i d hd hk => ?_) (fun i d hd hk => ?_)) ea_nil) ⟨der p, .inl (by rw [e]), by rw [der_tail, List.length_drop, dfl]; omega, rfl, rfl⟩)
  · exact ET.is (et_gt (ev_var 1) ev_int) (by
      by_cases h : i > 0
      · rw [decide_eq_true h, decide_eq_true (by omega)]
      · rw [decide_eq_false h, decide_eq_false (by omega)])
  · obtain ⟨a, ha, rfl⟩ := qD_get hd
    have hi : i < p.length := (List.getElem?_eq_some_iff.mp ha).1
    have i0 : 0 < i := of_decide_eq_true hk
    refine ⟨cD ((nc i : Rat) * a), ?_, fun z' s0 H0 C' cl fp => ?_⟩
    · rw [List.take_add_one, derF_get, ha, Nat.zero_add, List.drop_append_of_le_length (by rw [List.length_take, dfl]; omega), List.map_append]
      rfl
    · have q1 : cD ((nc i : Rat)) = .tuple [.int (i : Int), .int 1] := by
        rw [nc_int]
        rfl
      have qi : Qb (nc i : Rat) := by
        rw [nc_int]
        refine ⟨?_, show Bd 3000 (1 : Int) by unfold Bd; decide⟩
        show Bd 3000 (i : Int)
        have : Bd 20 (i : Int) := by
          unfold Bd
          omega
        exact this.mono (by decide)
      have cm : (nc i : Rat) * a = a * (nc i : Rat) := by grind
      rw [cm]
      exact ev_call G1 C.hr (ea_cons (ev_var 2) (ea_cons (EV.is (ev_tup (ed_cons (ev_var 1) (ed_cons ev_int ed_nil))) q1.symm) ea_nil)) (Qb.times ⟨_, _, rfl, bp a (List.mem_of_getElem? ha), qi, rfl, rfl⟩)
  · have i0 : i = 0 := by
      have := of_decide_eq_false hk
      omega
    subst i0
    rw [List.take_zero, List.drop_nil]
    show (((derF 0 p).take 1).drop 1).map cD = []
    rw [List.drop_eq_nil_of_le (by rw [List.length_take]; omega)]
    rfl
end
end K8


set_option Elab.async false
set_option linter.all false
set_option maxRecDepth 100000
set_option exponentiation.threshold 9000
namespace K8
open PySem PySem.Spec PyProof.Rows L2 DL PM
/-! ### drawn numbers and polynomials -/
def nmT (s : S) : Int := rollV (rollS s 8) 41 - 20
def nmB (s : S) : Int := 1 + rollV (rollS (rollS s 8) 41) 12
def nmS (s : S) : S := if rollV s 8 < 4 then rollS (rollS s 8) 9 else if rollV s 8 = 7 then rollS (rollS s 8) (10 ^ 30) else rollS (rollS (rollS s 8) 41) 12
def nmQ (s : S) : Rat := if rollV s 8 < 4 then ((rollV (rollS s 8) 9 - 4 : Int) : Rat) else if rollV s 8 = 7 then ((rollV (rollS s 8) (10 ^ 30) - 10 ^ 29 : Int) : Rat) else (nmT s : Rat) / (nmB s : Rat)
def nmD (s : S) : PyData := if rollV s 8 < 4 then .int (rollV (rollS s 8) 9 - 4) else if rollV s 8 = 7 then .int (rollV (rollS s 8) (10 ^ 30) - 10 ^ 29) else if (nmQ s).den = 1 ∧ rollV s 8 = 4 then .int (nmQ s).num else cD (nmQ s)
theorem nmB_bd (s : S) : 1 ≤ nmB s ∧ nmB s ≤ 12 := by
  have := roll_bd (rollS (rollS s 8) 41) (n := 12) (by decide)
  unfold nmB
  omega
theorem nmT_bd (s : S) : -20 ≤ nmT s ∧ nmT s ≤ 20 := by
  have := roll_bd (rollS s 8) (n := 41) (by decide)
  unfold nmT
  omega
theorem sz_frac {t b : Int} (h1 : 1 ≤ b) (h2 : b ≤ 12) (h3 : t.natAbs ≤ 20) : Sz 27720 20 ((t : Rat) / (b : Rat)) := by
  have hd : ∃ c : Int, (27720 : Int) = b * c ∧ 0 ≤ c ∧ c ≤ 27720 := by
    have : b = 1 ∨ b = 2 ∨ b = 3 ∨ b = 4 ∨ b = 5 ∨ b = 6 ∨ b = 7 ∨ b = 8 ∨ b = 9 ∨ b = 10 ∨ b = 11 ∨ b = 12 := by omega
    rcases this with rfl | rfl | rfl | rfl | rfl | rfl | rfl | rfl | rfl | rfl | rfl | rfl
    · exact ⟨27720, by decide, by decide, by decide⟩
    · exact ⟨13860, by decide, by decide, by decide⟩
    · exact ⟨9240, by decide, by decide, by decide⟩
    · exact ⟨6930, by decide, by decide, by decide⟩
    · exact ⟨5544, by decide, by decide, by decide⟩
    · exact ⟨4620, by decide, by decide, by decide⟩
    · exact ⟨3960, by decide, by decide, by decide⟩
    · exact ⟨3465, by decide, by decide, by decide⟩
    · exact ⟨3080, by decide, by decide, by decide⟩
    · exact ⟨2772, by decide, by decide, by decide⟩
    · exact ⟨2520, by decide, by decide, by decide⟩
    · exact ⟨2310, by decide, by decide, by decide⟩
  obtain ⟨c, hc, c0, c1⟩ := hd
  have hb := ic_ne (show b ≠ 0 by omega)
  refine ⟨t * c, ?_, ?_⟩
  · rw [show ((27720 : Nat) : Int) = b * c from hc, Rat.intCast_mul, Rat.intCast_mul]
    grind
  · rw [Int.natAbs_mul]
    exact Nat.mul_le_mul h3 (by omega)
theorem nmQ_sz (s : S) : Sz 27720 (2 ^ 100) (nmQ s) := by
  unfold nmQ
  split
  · have := roll_bd (rollS s 8) (n := 9) (by decide)
    exact Sz.int (by omega)
  · split
    · have := roll_bd (rollS s 8) (n := 10 ^ 30) (by decide)
      exact Sz.int (by omega)
    · have h1 := nmB_bd s
      have h2 := nmT_bd s
      exact (sz_frac h1.1 h1.2 (by omega)).mono (by decide)
theorem nmq_cD (q : Rat) : NmQ (cD q) q := .fr (den_pos q) (by rw [Int.natAbs_natCast]; exact q.reduced)
theorem nmq_int {i : Int} (h : -(10 ^ 60) < i ∧ i < 10 ^ 60) : NmQ (.int i) (i : Rat) := .int h.1 h.2
theorem nmD_q (s : S) : NmQ (nmD s) (nmQ s) := by
  unfold nmD
  by_cases h1 : rollV s 8 < 4
  · rw [if_pos h1]
    have := roll_bd (rollS s 8) (n := 9) (by decide)
    have e : nmQ s = ((rollV (rollS s 8) 9 - 4 : Int) : Rat) := if_pos h1
    rw [e]
    exact nmq_int (by omega)
  · rw [if_neg h1]
    by_cases h2 : rollV s 8 = 7
    · rw [if_pos h2]
      have := roll_bd (rollS s 8) (n := 10 ^ 30) (by decide)
      have e : nmQ s = ((rollV (rollS s 8) (10 ^ 30) - 10 ^ 29 : Int) : Rat) := by
        unfold nmQ
        rw [if_neg h1, if_pos h2]
      rw [e]
      exact nmq_int (by omega)
    · rw [if_neg h2]
      by_cases h3 : (nmQ s).den = 1 ∧ rollV s 8 = 4
      · rw [if_pos h3]
        unfold NmQ
        have hz := (nmQ_sz s).num (by decide)
        rw [h3.1]
        exact .int (by omega) (by omega)
      · rw [if_neg h3]
        exact nmq_cD _
/-- the states on the way -/
def drT (s : S) : Nat → S
  | 0 => s
  | i + 1 => nmS (drT s i)
def drN (s : S) (m : Int) : Nat := (rollV s (m + 2)).toNat
def drL (s : S) (m : Int) : List Rat := (List.range (drN s m)).map fun i => nmQ (drT (rollS s (m + 2)) i)
def drP (s : S) (m : Int) : List Rat := strip (drL s m)
def drD (s : S) (m : Int) : List PyData := ((List.range (drN s m)).map fun i => nmD (drT (rollS s (m + 2)) i)).take (drP s m).length
def drS (s : S) (m : Int) : S := drT (rollS s (m + 2)) (drN s m)
theorem nml_map {α : Type} (f : α → PyData) (g : α → Rat) (h : ∀ x, NmQ (f x) (g x)) : ∀ l : List α, NmL (l.map f) (l.map g)
  | [] => .nil
  | x :: l => .cons (h x) (nml_map f g h l)
theorem NmL.take {ds : List PyData} {p : List Rat} (h : NmL ds p) (m : Nat) : NmL (ds.take m) (p.take m) := by
  induction h generalizing m with
  | nil => simp only [List.take_nil]; exact .nil
  | cons h1 _ ih =>
    cases m with
    | zero => exact .nil
    | succ m => exact .cons h1 (ih m)
theorem strip_take : ∀ p : List Rat, p.take (strip p).length = strip p
  | [] => rfl
  | a :: p => by
    have ih := strip_take p
    rw [PM.strip]
    cases hs : PM.strip p with
    | nil =>
      by_cases ha : a = 0
      · simp [ha]
      · simp [ha]
    | cons b q =>
      rw [hs] at ih
      show (a :: p).take ((b :: q).length + 1) = _
      rw [List.take_succ_cons, ih]
theorem drN_le {s : S} {m : Int} (h0 : 0 ≤ m) (h : m ≤ 8) : drN s m ≤ 9 := by
  have := roll_bd s (n := m + 2) (by omega)
  unfold drN
  omega
theorem dr_poly {s : S} {m : Int} (h0 : 0 ≤ m) (h : m ≤ 8) : PolyD (drD s m) (drP s m) := by
  refine ⟨?_, strip_tidy _, ?_⟩
  · unfold drD drP
    have := (nml_map _ _ (fun i => nmD_q (drT (rollS s (m + 2)) i)) (List.range (drN s m))).take (strip (drL s m)).length
    have e := strip_take (drL s m)
    unfold drL at e this ⊢
    rwa [e] at this
  · have h1 : (drP s m).length ≤ (drL s m).length := strip_len
    have h2 : (drL s m).length = drN s m := by unfold drL; rw [List.length_map, List.length_range]
    have := drN_le (s := s) h0 h
    omega
theorem dr_len {s : S} {m : Int} (h0 : 0 ≤ m) (h : m ≤ 8) : (drP s m).length ≤ 9 := by
  have h1 : (drP s m).length ≤ (drL s m).length := strip_len
  have h2 : (drL s m).length = drN s m := by unfold drL; rw [List.length_map, List.length_range]
  have := drN_le (s := s) h0 h
  omega
theorem dr_sz {s : S} {m : Int} : PSz 27720 (2 ^ 100) (drP s m) := PSz.strip fun q hq => by
  obtain ⟨i, _, rfl⟩ := List.mem_map.mp hq
  exact nmQ_sz _
theorem room65 {k : Nat} {A : Around} (r : Room k A) : A.units + 65 < cLine := by have := r.un; omega
/-- d is 0 or (0, 1) -/
theorem nm_in0 {d : PyData} {q : Rat} (h : NmQ d q) : ([PyData.int 0, .tuple [.int 0, .int 1]].any fun z => PyData.eqv z d) = decide (q = 0) := by
  unfold NmQ at h
  have hz := num_eq0 (q := q)
  have hd : q = 0 → (q.den : Int) = 1 := fun e => by rw [e]; rfl
  generalize hn : q.num = t at *
  generalize hb : (q.den : Int) = b at *
  cases h with
  | int h1 h2 =>
    by_cases h0 : t = 0
    · rw [decide_eq_true (hz.mp h0), h0]
      rfl
    · rw [decide_eq_false (fun e => h0 (hz.mpr e))]
      simp [PyData.eqv]
      omega
  | fr h1 h2 =>
    by_cases h0 : t = 0
    · rw [decide_eq_true (hz.mp h0), h0, hd (hz.mp h0)]
      rfl
    · rw [decide_eq_false (fun e => h0 (hz.mpr e))]
      simp [PyData.eqv, PyData.eqvAll]
      omega
section
variable {P : Program} {w : World} {K : PySem.W.Frag} {mg : Str → Option Value} {base : Heap} {f : Addr} {fd : FuncData}
abbrev sNum : Stmt := top 50
theorem scNum : FnScope ["_law_dice_here", "_law_way", "_law_found"] ["_law_dice_here"] (defScope sNum) := ⟨rfl, rfl, rfl, by decide +kernel, rfl, by decide +kernel, by decide +kernel⟩
def rNum : Rel := fun as s d s' => as = [.dice] ∧ d = nmD s ∧ s' = nmS s
theorem cpow10 {j : Int} (h0 : 0 ≤ j) (h : j ≤ 100) : CPow 10 j := ⟨h0, by omega, by decide⟩
theorem ok_lnum (F : Fun K "_law_py_number" "_law_py_number" sNum f fd) (G1 : Dn P w K mg base 1 "_law_roll" rRoll) (G2 : Dn P w K mg base 2 "_law_fraction" rQuot) : FnOk P w K mg base CX0 3 f fd ["_law_dice_here"] (spD rNum) := by
  refine okD F scNum (by rintro _ _ _ _ ⟨rfl, _⟩; rfl) fun cdv A0 outer s0 H0 E C z as s₁ d s h => ?_
  obtain ⟨rfl, rfl, rfl⟩ := h
  have B : ∀ n : Int, n.natAbs < 2 ^ 200 → Bd 9000 n := fun n h => Nat.lt_of_lt_of_le h (Nat.pow_le_pow_right (by decide) (by decide))
  refine sr_asg (d := .int (rollV s₁ 8)) (s1 := rollS s₁ 8) 1 C.nd (ev_call G1 (C.hr.mono (by decide)) (ea_dice 0 (ea_cons ev_int ea_nil)) ⟨8, rfl, by decide, B 8 (by decide), rfl, rfl⟩) ?_
  by_cases h1 : rollV s₁ 8 < 4
  · have e1 : nmD s₁ = .int (rollV (rollS s₁ 8) 9 - 4) := if_pos h1
    have e2 : nmS s₁ = rollS (rollS s₁ 8) 9 := if_pos h1
    rw [e1, e2]
    exact sr_ifT (ET.is (et_lt (ev_var 1) ev_int) (decide_eq_true h1)) (sr_ret (ev_sub (ev_call G1 (C.hr.mono (by decide)) (ea_dice 0 (ea_cons ev_int ea_nil)) ⟨9, rfl, by decide, B 9 (by decide), rfl, rfl⟩) ev_int))
  · refine sr_ifF (ET.is (et_lt (ev_var 1) ev_int) (decide_eq_false h1)) ?_
    by_cases h2 : rollV s₁ 8 = 7
    · have e1 : nmD s₁ = .int (rollV (rollS s₁ 8) (10 ^ 30) - 10 ^ 29) := by
        unfold nmD
        rw [if_neg h1, if_pos h2]
      have e2 : nmS s₁ = rollS (rollS s₁ 8) (10 ^ 30) := by
        unfold nmS
        rw [if_neg h1, if_pos h2]
      rw [e1, e2]
      exact sr_ifT (ET.is (et_eqI C.hu (ev_var 1) ev_int) (decide_eq_true h2)) (sr_ret (ev_sub (ev_call G1 (C.hr.mono (by decide)) (ea_dice 0 (ea_cons (EV.is (ev_pow (cpow10 (by decide) (by decide)) ev_int ev_int) (by rfl)) ea_nil)) ⟨10 ^ 30, rfl, by decide, B _ (by decide), rfl, rfl⟩) (EV.is (ev_pow (cpow10 (by decide) (by decide)) ev_int ev_int) (by rfl))))
    · refine sr_ifF (ET.is (et_eqI C.hu (ev_var 1) ev_int) (decide_eq_false h2)) ?_
      have e0 : nmQ s₁ = (nmT s₁ : Rat) / (nmB s₁ : Rat) := by
        unfold nmQ
        rw [if_neg h1, if_neg h2]
      have e2 : nmS s₁ = rollS (rollS (rollS s₁ 8) 41) 12 := by
        unfold nmS
        rw [if_neg h1, if_neg h2]
      have hb := nmB_bd s₁
      rw [e2]
      refine sr_asg (d := cD (nmQ s₁)) (s1 := rollS (rollS (rollS s₁ 8) 41) 12) 2 C.nd (EV.is (ev_call G2 C.hr (ea_cons (ev_sub (ev_call G1 (C.hr.mono (by decide)) (ea_dice 0 (ea_cons ev_int ea_nil)) ⟨41, rfl, by decide, B 41 (by decide), rfl, rfl⟩) ev_int) (ea_cons (ev_add ev_int (ev_call G1 (C.hr.mono (by decide)) (ea_dice 0 (ea_cons ev_int ea_nil)) ⟨12, rfl, by decide, B 12 (by decide), rfl, rfl⟩)) ea_nil)) ⟨nmT s₁, nmB s₁, rfl, by omega, B _ (by omega), rfl, rfl⟩) (by rw [frD_rat (by omega), ← e0])) ?_
      refine sr_ret ?_
      unfold nmD
      rw [if_neg h1, if_neg h2]
      have d1 : ∀ {k : Bool}, decide (((nmQ s₁).den : Int) = 1) = k → ET (cxOf CX0 P w K mg base ["_law_dice_here", "_law_way", "_law_found"] "_law_py_number" (defScope sNum) f cdv A0 outer s0 H0 E).nox z (match (defBody sNum)[4]? with | some (Stmt.Return (some (Expr.IfExp (Expr.BoolOp _ [e, _] _) _ _ _)) _) => e | _ => .Constant .none 0 ⟨0, 0, 0, 0⟩) [.dice, .val (.int (rollV s₁ 8)), .val (cD (nmQ s₁))] (rollS (rollS (rollS s₁ 8) 41) 12) k (rollS (rollS (rollS s₁ 8) 41) 12) := fun hk =>
        ET.is (et_eqI C.hu (ev_snd (t := (nmQ s₁).num) (b := ((nmQ s₁).den : Int)) (ev_var 2)) ev_int) hk
      by_cases h3 : (nmQ s₁).den = 1
      · by_cases h4 : rollV s₁ 8 = 4
        · rw [if_pos ⟨h3, h4⟩]
          exact ev_ifT (et_w (ew_andT (d1 (decide_eq_true (by omega))) (ew_and1 (ET.is (et_eqI C.hu (ev_var 1) ev_int) (decide_eq_true h4))))) (ev_fst (t := (nmQ s₁).num) (b := ((nmQ s₁).den : Int)) (ev_var 2))
        · rw [if_neg (fun h => h4 h.2)]
          exact ev_ifF (et_w (ew_andT (d1 (decide_eq_true (by omega))) (ew_and1 (ET.is (et_eqI C.hu (ev_var 1) ev_int) (decide_eq_false h4))))) (ev_var 2)
      · rw [if_neg (fun h => h3 h.1)]
        exact ev_ifF (et_w (ew_andF (d1 (decide_eq_false (by omega))))) (ev_var 2)
abbrev sDrw : Stmt := top 51
theorem scDrw : FnScope ["_law_dice_here", "_law_most", "_law_found", "_law_turn"] ["_law_dice_here", "_law_most"] (defScope sDrw) := ⟨rfl, rfl, rfl, by decide +kernel, rfl, by decide +kernel, by decide +kernel⟩
def rDrw : Rel := fun as s d s' => ∃ m : Int, as = [.dice, .val (.int m)] ∧ 0 ≤ m ∧ m ≤ 8 ∧ d = .tuple (drD s m) ∧ s' = drS s m
theorem ok_ldrw (F : Fun K "_law_py_drawn" "_law_py_drawn" sDrw f fd) (T : Top mg) (T8 : Top8 mg) (G1 : Dn P w K mg base 1 "_law_roll" rRoll) (G2 : Dn P w K mg base 3 "_law_py_number" rNum) : FnOk P w K mg base CX0 4 f fd ["_law_dice_here", "_law_most"] (spD rDrw) := by
  refine okO F scDrw (by rintro _ _ _ _ ⟨m, rfl, _⟩; rfl) (by rintro _ _ _ _ ⟨m, rfl, _⟩ ds h; simp at h) fun cdv A0 outer s0 H0 E C as s₁ d s h => ?_
  obtain ⟨m, rfl, hm0, hm8, rfl, rfl⟩ := h
  have hr := roll_bd s₁ (n := m + 2) (by omega)
  have hn9 := drN_le (s := s₁) hm0 hm8
  have en : (rollV s₁ (m + 2)) = ((drN s₁ m : Nat) : Int) := by unfold drN; omega
  have bm : Bd 9000 (m + 2) := by
    have : Bd 20 (m + 2) := by unfold Bd; omega
    exact this.mono (by decide)
  refine so_lcR (n := drN s₁ m) (s1 := rollS s₁ (m + 2)) (j := 3) (k := 2) C.calm C.nd T.range (fun i => nmD (drT (rollS s₁ (m + 2)) i)) (fun i => drT (rollS s₁ (m + 2)) i) (fun z => ed_cons (EV.is (ev_call G1 (C.hr.mono (by decide)) (ea_dice 0 (ea_cons (ev_add (ev_var 1) ev_int) ea_nil)) ⟨m + 2, rfl, by omega, bm, rfl, rfl⟩) (by rw [en])) ed_nil) rfl (by omega) (blkOk_by (N := ["_law_dice_here", "_law_most", "_law_found", "_law_turn"]) (sc := defScope sDrw) (own := [("_law_turn", 3)]) (by decide +kernel)) (fun _ _ _ _ _ => pg_name C.nd rfl (Or.inl rfl)) (fun i hi z' s0 H0 C' cl fp => ?_) ?_
  · exact ev_call G2 C.hr (ea_dice 0 ea_nil) ⟨rfl, rfl, rfl⟩
  · show SO _ _ _ (drS s₁ m) (.rt (.tuple (drD s₁ m)) (drS s₁ m))
    generalize hs : drS s₁ m = s2
    have hl : ((List.range (drN s₁ m)).map fun i => nmD (drT (rollS s₁ (m + 2)) i)).length = drN s₁ m := by rw [List.length_map, List.length_range]
    have hlq : (drL s₁ m).length = drN s₁ m := by unfold drL; rw [List.length_map, List.length_range]
    have hnm : NmL ((List.range (drN s₁ m)).map fun i => nmD (drT (rollS s₁ (m + 2)) i)) (drL s₁ m) := nml_map _ _ (fun i => nmD_q (drT (rollS s₁ (m + 2)) i)) (List.range (drN s₁ m))
    have hD : drD s₁ m = ((List.range (drN s₁ m)).map fun i => nmD (drT (rollS s₁ (m + 2)) i)).take (strip (drL s₁ m)).length := rfl
    rw [hD]
    generalize (List.range (drN s₁ m)).map (fun i => nmD (drT (rollS s₁ (m + 2)) i)) = ds at *
    generalize drL s₁ m = p at *
    generalize drN s₁ m = n at *
    refine so_whileW C.hp (fun k es s' => s' = s2 ∧ es = [.dice, .val (.int m), .own (ds.take k), .un] ∧ k ≤ p.length ∧ strip (p.take k) = strip p) (m0 := p.length) ⟨rfl, by rw [List.take_of_length_le (by omega)]; rfl, Nat.le_refl _, by rw [List.take_length]⟩ ?_
    rintro k es s' ⟨rfl, rfl, hk, hst⟩
    have pl : ∀ k, Pl (.list (ds.take k)) := fun k => (pq_lst (k := 1) fun d hd => by
      obtain ⟨q, _, hn⟩ := hnm.mem (List.mem_of_mem_take hd)
      exact pq_nm hn).pl
    have ne : ∀ z, ET (cxOf CX0 P w K mg base ["_law_dice_here", "_law_most", "_law_found", "_law_turn"] "_law_py_drawn" (defScope sDrw) f cdv A0 outer s0 H0 E).nox z (match (defBody sDrw)[1]? with | some (Stmt.While (Expr.BoolOp _ [e, _] _) _ _ _) => e | _ => .Constant .none 0 ⟨0, 0, 0, 0⟩) [.dice, .val (.int m), .own (ds.take k), .un] s' (!decide (k = 0)) s' := fun z => ET.is (et_neO 2 C.hu (pl k) pl_nl (ev_lst ed_nil)) (by
      cases k with
      | zero => rfl
      | succ k =>
        cases ds with
        | nil => simp at hl; omega
        | cons a p => rfl)
    have fin : (k = 0 ∨ co p (k - 1) ≠ 0) → SO (cxOf CX0 P w K mg base ["_law_dice_here", "_law_most", "_law_found", "_law_turn"] "_law_py_drawn" (defScope sDrw) f cdv A0 outer s0 H0 E).nox ((defBody sDrw).drop 2) [.dice, .val (.int m), .own (ds.take k), .un] s' (.rt (.tuple (ds.take (strip p).length)) s') := fun h => by
      rw [← hst, tidy_take hk h, List.length_take, Nat.min_eq_left hk]
      exact so_ret fun z => ev_tupO 2 T.tuple
    by_cases h0 : 0 < k
    · obtain ⟨d, hd⟩ : ∃ d, ds[k - 1]? = some d := ⟨_, List.getElem?_eq_getElem (by omega)⟩
      obtain ⟨q, hq, hn⟩ := hnm.get _ _ hd
      have cq := co_get hq
      have hat : atI (ds.take k) (-1) = some d := atI_m1 (by rw [List.length_take]; omega) (by
        rw [List.length_take, Nat.min_eq_left (by omega), List.getElem?_take, if_pos (by omega), hd])
      have t2 : ∀ z, ET (cxOf CX0 P w K mg base ["_law_dice_here", "_law_most", "_law_found", "_law_turn"] "_law_py_drawn" (defScope sDrw) f cdv A0 outer s0 H0 E).nox z (match (defBody sDrw)[1]? with | some (Stmt.While (Expr.BoolOp _ [_, e] _) _ _ _) => e | _ => .Constant .none 0 ⟨0, 0, 0, 0⟩) [.dice, .val (.int m), .own (ds.take k), .un] s' (decide (q = 0)) s' := fun z =>
        ET.is (et_inT (room65 C.hr) (pq_nm hn).pl ((pq_tup (k := 1) (fun d hd => by
          rcases List.mem_cons.mp hd with rfl | hd
          · exact pq_int
          · rcases List.mem_cons.mp hd with rfl | hd
            · exact pq_cD (q := 0)
            · cases hd)).pl) (ev_ixO (ds := ds.take k) 2 (ev_neg ev_int) hat) (ev_tup (ed_cons ev_int (ed_cons (ev_tup (ed_cons ev_int (ed_cons ev_int ed_nil))) ed_nil)))) (nm_in0 hn)
      by_cases h1 : q = 0
      · right
        refine ⟨fun z => et_w (ew_andT (ET.is (ne z) (by rw [decide_eq_false (by omega)]; rfl)) (ew_and1 (ET.is (t2 z) (decide_eq_true h1)))), _, s', k - 1, by omega, ⟨rfl, rfl, by omega, ?_⟩, ?_⟩
        · rw [take_down (by omega) (by rw [cq, h1]), show k - 1 + 1 = k by omega, hst]
        · have dl : (ds.take k).dropLast = ds.take (k - 1) := by
            rw [List.dropLast_eq_take, List.take_take, List.length_take]
            congr 1
            omega
          refine so_pop 2 (ds := ds.take k) (by
            intro e
            have := congrArg List.length e
            rw [List.length_take, List.length_nil] at this
            omega) ?_
          rw [dl]
          exact so_nil
      · left
        exact ⟨fun z => et_w (ew_andT (ET.is (ne z) (by rw [decide_eq_false (by omega)]; rfl)) (ew_and1 (ET.is (t2 z) (decide_eq_false h1)))), fin (.inr (by rw [cq]; exact h1))⟩
    · left
      exact ⟨fun z => et_w (ew_andF (ET.is (ne z) (by rw [decide_eq_true (by omega)]; rfl))), fin (.inl (by omega))⟩
end
end K8


set_option Elab.async false
set_option linter.all false
set_option maxRecDepth 100000
set_option exponentiation.threshold 9000
namespace K8
open PySem PySem.Spec PyProof.Rows L2 DL PM
/-! ### the first half of the law -/
theorem nml_cD : ∀ p : List Rat, NmL (p.map cD) p
  | [] => .nil
  | q :: p => .cons (nmq_cD q) (nml_cD p)
theorem poly_cD {p : List Rat} (h : Tidy p) (hl : p.length ≤ 41) : PolyD (p.map cD) p := ⟨nml_cD p, h, hl⟩
theorem rowOk {p : List Rat} {M A : Nat} (h : PSz M A p) (m : M ≠ 0) (m2 : M < 2 ^ 40) (a : A * M < 2 ^ 2900) (l : p.length ≤ 60) : RowOk p M A := ⟨m, m2, a, h, l⟩
theorem add_len : ∀ p q : List Rat, (add p q).length ≤ max p.length q.length
  | [], q => by rw [add]; exact Nat.le_max_right ..
  | a :: p, [] => by rw [add]; exact Nat.le_max_left ..; simp
  | a :: p, b :: q => by
    have := add_len p q
    rw [add, List.length_cons, List.length_cons, List.length_cons]
    omega
theorem mul_slen {p q : List Rat} (h : 0 < p.length + q.length) : (strip (mul p q)).length ≤ p.length + q.length - 1 := by
  have hm : strip (mul p q) = strip (half p q (p.length + q.length - 1) p.length 0) := strip_ext _ _ fun i => (half_mul (by omega) i).symm
  rw [hm]
  have := strip_len (p := half p q (p.length + q.length - 1) p.length 0)
  rwa [half_len] at this
theorem der_len (p : List Rat) : (der p).length ≤ p.length := by
  rw [der_tail, List.length_drop]
  have : ∀ (p : List Rat) (n : Nat), (derF n p).length = p.length := fun p => by
    induction p with
    | nil => intro n; rfl
    | cons a p ih => intro n; rw [derF, List.length_cons, List.length_cons, ih]
  rw [this]
  omega
theorem ev_neg_map (x : Rat) : ∀ p : List Rat, PM.ev x (p.map (- ·)) = - PM.ev x p
  | [] => by show (0 : Rat) = -0; grind
  | a :: p => by
    have := ev_neg_map x p
    rw [List.map_cons, PM.ev, PM.ev, this]
    grind
/-- two drawn polynomials and a number -/
structure Drn (p q : List Rat) (x : Rat) : Prop where
  sp : PSz 27720 (2 ^ 100) p
  sq : PSz 27720 (2 ^ 100) q
  tp : Tidy p
  tq : Tidy q
  lp : p.length ≤ 9
  lq : q.length ≤ 9
  sx : Sz 27720 (2 ^ 100) x
section
variable {p q : List Rat} {x : Rat}
theorem pw_lt {a b : Nat} (h : a < b) : (2 : Nat) ^ a < 2 ^ b := Nat.pow_lt_pow_right (by decide) h
theorem n27 : (27720 : Nat) < 2 ^ 15 := by decide
theorem n27w : (27720 * 27720 : Nat) < 2 ^ 30 := by decide
/-- all sizes that come up -/
theorem szQb {M A m a : Nat} {y : Rat} (h : Sz M A y) (hM : M ≠ 0) (k1 : M ≤ 2 ^ m) (k2 : A ≤ 2 ^ a) (k : m + a < 3000) : Qb y := h.qb hM (by
  have : A * M ≤ 2 ^ a * 2 ^ m := Nat.mul_le_mul k2 k1
  rw [← Nat.pow_add] at this
  exact Nat.lt_of_le_of_lt this (pw_lt (by omega))) (Nat.lt_of_le_of_lt k1 (pw_lt (by omega)))
theorem evQb {M A m a n : Nat} (h : PSz M A p) (hM : M ≠ 0) (hx : Sz 27720 (2 ^ 100) x) (k1 : M ≤ 2 ^ m) (k2 : A ≤ 2 ^ a) (hl : p.length ≤ n) (k : m + 15 * (n + 1) + a + 101 * n + 100 < 3000) (i : Nat) : Qb (PM.ev x (p.drop i)) ∧ Qb (PM.ev x (p.drop i) * x) := by
  have hd : (p.drop i).length ≤ n := by rw [List.length_drop]; omega
  have s1 : Sz (M * 27720 ^ (p.drop i).length) (A * (2 ^ 100 + 1) ^ (p.drop i).length) (PM.ev x (p.drop i)) := PSz.ev hx fun q hq => h q (List.mem_of_mem_drop hq)
  generalize (p.drop i).length = l at *
  have e1 : M * 27720 ^ l ≤ 2 ^ (m + 15 * n) := by
    have h1 : (27720 : Nat) ^ l ≤ (2 ^ 15) ^ l := Nat.pow_le_pow_left (Nat.le_of_lt n27) l
    have h2 : ((2 : Nat) ^ 15) ^ l ≤ (2 ^ 15) ^ n := Nat.pow_le_pow_right (by decide) hd
    rw [← Nat.pow_mul 2 15 n] at h2
    rw [Nat.pow_add]
    exact Nat.mul_le_mul k1 (Nat.le_trans h1 h2)
  have e2 : A * (2 ^ 100 + 1) ^ l ≤ 2 ^ (a + 101 * n) := by
    have h1 : (2 ^ 100 + 1 : Nat) ^ l ≤ (2 ^ 101) ^ l := Nat.pow_le_pow_left (by decide) l
    have h2 : ((2 : Nat) ^ 101) ^ l ≤ (2 ^ 101) ^ n := Nat.pow_le_pow_right (by decide) hd
    rw [← Nat.pow_mul 2 101 n] at h2
    rw [Nat.pow_add]
    exact Nat.mul_le_mul k2 (Nat.le_trans h1 h2)
  have m0 : M * 27720 ^ l ≠ 0 := Nat.mul_ne_zero hM (Nat.ne_of_gt (Nat.pow_pos (by decide)))
  refine ⟨szQb s1 m0 e1 e2 (by omega), ?_⟩
  refine szQb (m := m + 15 * n + 15) (a := a + 101 * n + 100) (s1.mul hx) (Nat.mul_ne_zero m0 (by decide)) ?_ ?_ (by omega)
  · rw [Nat.pow_add]
    exact Nat.mul_le_mul e1 (Nat.le_of_lt n27)
  · rw [Nat.pow_add]
    exact Nat.mul_le_mul_right _ e2
theorem atOk {M A m a : Nat} (h : PSz M A p) (hM : M ≠ 0) (hx : Sz 27720 (2 ^ 100) x) (k1 : M ≤ 2 ^ m) (k2 : A ≤ 2 ^ a) (hl : p.length ≤ 20) (hm : m < 40) (ha : a ≤ 300) : AtOk x p M A 27720 (2 ^ 100) := by
  refine ⟨⟨hM, Nat.lt_of_le_of_lt k1 (pw_lt hm), ?_, h, by omega⟩, by decide, hx, Nat.lt_of_le_of_lt (hx.denLe (by decide)) (by decide), ?_, hl, ?_⟩
  · have : A * M ≤ 2 ^ a * 2 ^ m := Nat.mul_le_mul k2 k1
    rw [← Nat.pow_add] at this
    exact Nat.lt_of_le_of_lt this (pw_lt (by omega))
  · exact Nat.lt_of_le_of_lt (hx.num (by decide)) (by decide)
  · have h1 : (2 ^ 100 + 1 : Nat) ^ 20 ≤ (2 ^ 101) ^ 20 := Nat.pow_le_pow_left (by decide) 20
    rw [← Nat.pow_mul] at h1
    have : A * (2 ^ 100 + 1) ^ 20 ≤ 2 ^ a * 2 ^ (101 * 20) := Nat.mul_le_mul k2 h1
    rw [← Nat.pow_add] at this
    exact Nat.lt_of_le_of_lt this (pw_lt (by omega))
theorem row_of {M A m a : Nat} (h : PSz M A p) (hM : M ≠ 0) (k1 : M ≤ 2 ^ m) (k2 : A ≤ 2 ^ a) (hl : p.length ≤ 60) (hm : m < 40) (ha : a ≤ 300) : RowOk p M A := ⟨hM, Nat.lt_of_le_of_lt k1 (pw_lt hm), by
  have : A * M ≤ 2 ^ a * 2 ^ m := Nat.mul_le_mul k2 k1
  rw [← Nat.pow_add] at this
  exact Nat.lt_of_le_of_lt this (pw_lt (by omega)), h, hl⟩
theorem mul2_of {M A m a N B n b : Nat} (h : PSz M A p) (k : PSz N B q) (hM : M ≠ 0) (hN : N ≠ 0) (k1 : M ≤ 2 ^ m) (k2 : A ≤ 2 ^ a) (k3 : N ≤ 2 ^ n) (k4 : B ≤ 2 ^ b) (lp : p.length ≤ 100) (lq : q.length ≤ 100) (hm : m < 40) (ha : a ≤ 300) (hn : n < 40) (hb : b ≤ 300) : Mul2 p q M A N B := by
  have ab : A * B * (M * N) ≤ 2 ^ (a + b + (m + n)) := by
    rw [Nat.pow_add, Nat.pow_add 2 a b, Nat.pow_add 2 m n]
    exact Nat.mul_le_mul (Nat.mul_le_mul k2 k4) (Nat.mul_le_mul k1 k3)
  refine ⟨hM, hN, h, k, lp, lq, ?_, ?_, ?_, Nat.lt_of_le_of_lt ab (pw_lt (by omega)), Nat.lt_of_le_of_lt k1 (pw_lt (by omega)), Nat.lt_of_le_of_lt k3 (pw_lt (by omega))⟩
  · rw [Nat.mul_assoc]
    have : p.length * (A * B * (M * N)) ≤ 2 ^ 7 * 2 ^ (a + b + (m + n)) := Nat.mul_le_mul (by omega) ab
    rw [← Nat.pow_add] at this
    exact Nat.lt_of_le_of_lt this (pw_lt (by omega))
  · have : A * M ≤ 2 ^ a * 2 ^ m := Nat.mul_le_mul k2 k1
    rw [← Nat.pow_add] at this
    exact Nat.lt_of_le_of_lt this (pw_lt (by omega))
  · have : B * N ≤ 2 ^ b * 2 ^ n := Nat.mul_le_mul k4 k3
    rw [← Nat.pow_add] at this
    exact Nat.lt_of_le_of_lt this (pw_lt (by omega))
end
end K8


set_option Elab.async false
set_option linter.all false
set_option maxRecDepth 100000
set_option exponentiation.threshold 9000
namespace K8
open PySem PySem.Spec PyProof.Rows L2 DL PM
section
variable {X : Cx} {z : Z} {es : List Sl} {s s1 s2 : S} {a b : Expr} {pos : Pos} {d d1 d2 : PyData}
theorem sr_par3 (i j l : Nat) {c : Expr} {d3 : PyData} {rest : List Stmt} {o : Out} {x y w : Str} {kt k2 : Nat} {p1 p2 p3 p4 p5 : Pos} (hc : X.calm = true) (hN : X.N.Nodup) (h : ED X z [a, b, c] es s [d1, d2, d3] s1) (k : SR X z rest (((es.set i (.val d1)).set j (.val d2)).set l (.val d3)) s1 o)
    (hi : X.N[i]? = some x := by rfl) (hj : X.N[j]? = some y := by rfl) (hl : X.N[l]? = some w := by rfl) (hij : i ≠ j := by decide) (hil : i ≠ l := by decide) (hjl : j ≠ l := by decide) (hx : X.env.scope.names.lookup x = some .local := by rfl) (hy : X.env.scope.names.lookup y = some .local := by rfl) (hz : X.env.scope.names.lookup w = some .local := by rfl)
    (hw : swappedStores [.Tuple [.Name x p1, .Name y p2, .Name w p5] kt p3] (.Tuple [a, b, c] k2 p4) X.env = pure (some [x, y, w]) := by rfl) (hs : swapsWithSole [.Tuple [.Name x p1, .Name y p2, .Name w p5] kt p3] (.Tuple [a, b, c] k2 p4) pos.line X.env = pure false := by rfl) :
    SR X z (.Assign [.Tuple [.Name x p1, .Name y p2, .Name w p5] kt p3] (.Tuple [a, b, c] k2 p4) pos :: rest) es s o := fun σ H en at_ D q =>
  ⟨_, pss_cons (ps_par3 hc hN hi hj hl hij hil hjl hx hy hz wA_ok hw hs) wB_ok, h σ H en at_ _ fun vs H1 e1 a1 v1 => by
    cases v1 with
    | cons h1 r =>
      cases r with
      | cons h2 r =>
        cases r with
        | cons h3 r =>
          cases r
          exact ⟨_, _, _, rfl, k _ H1 ((((en.mono e1).set i (.val h1)).set j (.val h2)).set l (.val h3)) a1 D (q.mono e1)⟩⟩
theorem et_neS {k : Nat} (hu : X.A.units + 64 < cLine) (h : Pq k d) (hk : k ≤ 64) (ha : EV X z a es s d s1) (hb : EV X z b es s1 d s2) : ET X z (.Compare a [.NotEq] [b] pos) es s false s2 :=
  ET.is (et_ne hu (h.pl hk) (h.pl hk) ha hb) (by rw [h.refl]; rfl)
theorem ev_eqS {k : Nat} (hu : X.A.units + 64 < cLine) (h : Pq k d) (hk : k ≤ 64) (ha : EV X z a es s d s1) (hb : EV X z b es s1 d s2) : EV X z (.Compare a [.Eq] [b] pos) es s (.bool true) s2 :=
  EV.is (ev_eq hu (h.pl hk) (h.pl hk) ha hb) (by rw [h.refl])
end
section
variable {P : Program} {w : World} {K : PySem.W.Frag} {mg : Str → Option Value} {base : Heap} {f : Addr} {fd : FuncData}
def rtS (s : S) : S := nmS (drS (drS s 8) 8)
def rRgt : Rel := fun as s d s' => as = [.dice] ∧ d = .bool true ∧ s' = rtS s
abbrev sRgt : Stmt := top 53
abbrev NR : List Str := ["_law_dice_here", "_law_one", "_law_other", "_law_first", "_law_second", "_law_whole", "_law_apart", "_law_times_here", "_law_number", "_law_at", "_law_left", "_law_right_here", "_law_due"]
theorem scRgt : FnScope ["_law_dice_here", "_law_one", "_law_other", "_law_first", "_law_second", "_law_whole", "_law_apart", "_law_times_here", "_law_number", "_law_at", "_law_left", "_law_right_here", "_law_due"] ["_law_dice_here"] (defScope sRgt) := ⟨rfl, rfl, rfl, by decide +kernel, rfl, by decide +kernel, by decide +kernel⟩
/-- all that the first half calls -/
structure Gs (P : Program) (w : World) (K : PySem.W.Frag) (mg : Str → Option Value) (base : Heap) : Prop where
  drw : Dn P w K mg base 4 "_law_py_drawn" rDrw
  prs : Dn P w K mg base 1 "_law_py_pairs" rPrs
  psum : Dn P w K mg base 7 "poly_sum" rPSum
  ples : Dn P w K mg base 7 "poly_less" rPLes
  ppro : Dn P w K mg base 7 "poly_product" rPPro
  pval : Dn P w K mg base 6 "poly_value" rPVal
  pder : Dn P w K mg base 6 "derived" rPDer
  isp : Dn P w K mg base 4 "is_poly" rIsP
  lsum : Dn P w K mg base 4 "_law_py_sum" rLSum
  ltim : Dn P w K mg base 4 "_law_py_times" rLTim
  lbck : Dn P w K mg base 1 "_law_py_back" rLBck
  lval : Dn P w K mg base 4 "_law_py_value" rLVal
  lder : Dn P w K mg base 4 "_law_derived" rLDer
  num : Dn P w K mg base 3 "_law_py_number" rNum
  plus : Dn P w K mg base 3 "_law_plus" rPlus
  times : Dn P w K mg base 3 "_law_times" rTimes
  less : Dn P w K mg base 4 "_law_less" rLessL
set_option maxHeartbeats 4000000 in
theorem ok_right (F : Fun K "_law_right" "_law_right" sRgt f fd) (T : Top mg) (G : Gs P w K mg base) : FnOk P w K mg base CX0 8 f fd ["_law_dice_here"] (spD rRgt) := by
  refine okD F scRgt (by rintro _ _ _ _ ⟨rfl, _⟩; rfl) fun cdv A0 outer s0 H0 E C z as s₁ d s h => ?_
  obtain ⟨rfl, rfl, rfl⟩ := h
  have L : ∀ {j : Nat}, j ≤ 7 → Room j _ := fun h => C.hr.mono h
  show SR _ _ _ _ _ (.rt _ (nmS (drS (drS s₁ 8) 8)))
  refine sr_par (d1 := .tuple (drD s₁ 8)) (d2 := .tuple (drD (drS s₁ 8) 8)) (s1 := drS (drS s₁ 8) 8) 1 2 C.calm C.nd (ed_cons (ev_call G.drw (L (by decide)) (ea_dice 0 (ea_cons ev_int ea_nil)) ⟨8, rfl, by decide, by decide, rfl, rfl⟩) (ed_cons (ev_call G.drw (L (by decide)) (ea_dice 0 (ea_cons ev_int ea_nil)) ⟨8, rfl, by decide, by decide, rfl, rfl⟩) ed_nil)) ?_
  have hp := dr_poly (s := s₁) (m := 8) (by decide) (by decide)
  have hq := dr_poly (s := drS s₁ 8) (m := 8) (by decide) (by decide)
  have lp := dr_len (s := s₁) (m := 8) (by decide) (by decide)
  have lq := dr_len (s := drS s₁ 8) (m := 8) (by decide) (by decide)
  have sp := dr_sz (s := s₁) (m := 8)
  have sq := dr_sz (s := drS s₁ 8) (m := 8)
  have hv := nmD_q (drS (drS s₁ 8) 8)
  have sx := nmQ_sz (drS (drS s₁ 8) 8)
  have hnum : ∀ (es : List Sl), es[0]? = some .dice → True := fun _ _ => trivial
  generalize hs2 : drS (drS s₁ 8) 8 = s2 at *
  generalize drD (drS s₁ 8) 8 = es at *
  generalize drP (drS s₁ 8) 8 = q at *
  generalize drD s₁ 8 = ds at *
  generalize drP s₁ 8 = p at *
  have e15 : (27720 : Nat) ≤ 2 ^ 15 := by decide
  have e30 : (27720 * 27720 : Nat) ≤ 2 ^ 30 := by decide
  have duo : Duo ds es p q 27720 (2 ^ 100) 27720 (2 ^ 100) := ⟨hp, hq, row_of sp (by decide) e15 (Nat.le_refl _) (by omega) (by decide) (by decide), row_of sq (by decide) e15 (Nat.le_refl _) (by omega) (by decide) (by decide)⟩
  have duo' : Duo es ds q p 27720 (2 ^ 100) 27720 (2 ^ 100) := ⟨hq, hp, duo.oq, duo.op⟩
  have duo2 : Duo ds ds p p 27720 (2 ^ 100) 27720 (2 ^ 100) := ⟨hp, hp, duo.op, duo.op⟩
  have tp := hp.t
  have tq := hq.t
  -- what is made of them
  have sW : PSz 27720 (2 ^ 101) (strip (add p q)) := ((sp.add sq).mono (by decide)).strip
  have sqn : PSz 27720 (2 ^ 100) (q.map (- ·)) := fun y hy => by
    obtain ⟨a, ha, rfl⟩ := List.mem_map.mp hy
    exact (sq a ha).neg
  have sA : PSz 27720 (2 ^ 101) (strip (add p (q.map (- ·)))) := ((sp.add sqn).mono (by decide)).strip
  have sM : PSz (27720 * 27720) (2 ^ 204) (strip (mul p q)) := ((PSz.mul sp sq).mono (by
    have : p.length * (2 ^ 100 * 2 ^ 100) ≤ 16 * (2 ^ 100 * 2 ^ 100) := Nat.mul_le_mul_right _ (by omega)
    exact Nat.le_trans this (by decide))).strip
  have lW : (strip (add p q)).length ≤ 9 := by have := strip_len (p := add p q); have := add_len p q; omega
  have lA : (strip (add p (q.map (- ·)))).length ≤ 9 := by have := strip_len (p := add p (q.map (- ·))); have := add_len p (q.map (- ·)); rw [List.length_map] at this; omega
  have lM : (strip (mul p q)).length ≤ 17 := by
    by_cases h : 0 < p.length + q.length
    · have := mul_slen h
      omega
    · have e1 : p = [] := List.eq_nil_of_length_eq_zero (by omega)
      rw [e1, PM.mul]
      exact Nat.zero_le _
  have pW : PolyD ((strip (add p q)).map cD) (strip (add p q)) := poly_cD (strip_tidy _) (by omega)
  have pA : PolyD ((strip (add p (q.map (- ·)))).map cD) (strip (add p (q.map (- ·)))) := poly_cD (strip_tidy _) (by omega)
  have pM : PolyD ((strip (mul p q)).map cD) (strip (mul p q)) := poly_cD (strip_tidy _) (by omega)
  have rM : RowOk (strip (mul p q)) (27720 * 27720) (2 ^ 204) := row_of sM (by decide) e30 (Nat.le_refl _) (by omega) (by decide) (by decide)
  have qbp : ∀ a ∈ p, Qb a := fun a ha => szQb (sp a ha) (by decide) e15 (Nat.le_refl _) (by decide)
  have qbq : ∀ a ∈ q, Qb a := fun a ha => szQb (sq a ha) (by decide) e15 (Nat.le_refl _) (by decide)
  have qbn : ∀ a ∈ q.map (- ·), Qb a := fun a ha => szQb (sqn a ha) (by decide) e15 (Nat.le_refl _) (by decide)
  refine sr_par 3 4 C.calm C.nd (ed_cons (ev_call G.prs (L (by decide)) (ea_cons (ev_var 1) ea_nil) ⟨_, _, rfl, hp.l, by omega, rfl, rfl⟩) (ed_cons (ev_call G.prs (L (by decide)) (ea_cons (ev_var 2) ea_nil) ⟨_, _, rfl, hq.l, by omega, rfl, rfl⟩) ed_nil)) ?_
  refine sr_par3 5 6 7 C.calm C.nd (ed_cons (ev_call G.psum (L (by decide)) (ea_cons (ev_var 1) (ea_cons (ev_var 2) ea_nil)) ⟨_, _, _, _, _, _, _, _, rfl, duo, rfl, rfl⟩) (ed_cons (ev_call G.ples (L (by decide)) (ea_cons (ev_var 1) (ea_cons (ev_var 2) ea_nil)) ⟨_, _, _, _, _, _, _, _, rfl, duo, rfl, rfl⟩) (ed_cons (ev_call G.ppro (L (by decide)) (ea_cons (ev_var 1) (ea_cons (ev_var 2) ea_nil)) ⟨_, _, _, _, _, _, _, _, rfl, duo, by omega, rfl, rfl⟩) ed_nil))) ?_
  refine sr_ifF (et_w (ew_orF (et_neS C.hu pq_pD (by decide) (ev_var 5) (ev_call G.lsum (L (by decide)) (ea_cons (ev_var 3) (ea_cons (ev_var 4) ea_nil)) ⟨p, q, rfl, by omega, by omega, qbp, qbq, rfl, rfl⟩))
    (ew_or1 (et_neS C.hu pq_pD (by decide) (ev_var 6) (ev_call G.lsum (L (by decide)) (ea_cons (ev_var 3) (ea_cons (ev_call G.lbck (L (by decide)) (ea_cons (ev_var 4) ea_nil) ⟨q, rfl, by omega, rfl, rfl⟩) ea_nil)) ⟨p, q.map (- ·), rfl, by omega, by rw [List.length_map]; omega, qbp, qbn, rfl, rfl⟩))))) ?_
  have m2 : Mul2 p q 27720 (2 ^ 100) 27720 (2 ^ 100) := mul2_of sp sq (by decide) (by decide) e15 (Nat.le_refl _) e15 (Nat.le_refl _) (by omega) (by omega) (by decide) (by decide) (by decide) (by decide)
  refine sr_ifF (et_w (ew_orF (et_neS C.hu pq_pD (by decide) (ev_var 7) (ev_call G.ltim (L (by decide)) (ea_cons (ev_var 3) (ea_cons (ev_var 4) ea_nil)) ⟨p, q, _, _, _, _, rfl, m2, rfl, rfl⟩))
    (ew_orF (et_neS C.hu (pq_pD (p := strip (mul p q))) (by decide) (ev_call G.ppro (L (by decide)) (ea_cons (ev_var 2) (ea_cons (ev_var 1) ea_nil)) ⟨_, _, _, _, _, _, _, _, rfl, duo', by omega, by rw [strip_ext _ _ (mul_comm p q)], rfl⟩) (ev_var 7))
      (ew_or1 (et_neS C.hu (pq_pD (p := strip (add p q))) (by decide) (ev_call G.psum (L (by decide)) (ea_cons (ev_var 2) (ea_cons (ev_var 1) ea_nil)) ⟨_, _, _, _, _, _, _, _, rfl, duo', by rw [strip_ext (add p q) (add q p) (fun i => by rw [co_add, co_add]; grind)], rfl⟩) (ev_var 5)))))) ?_
  refine sr_asg (d := nmD s2) (s1 := nmS s2) 8 C.nd (ev_call G.num (L (by decide)) (ea_dice 0 ea_nil) ⟨rfl, rfl, rfl⟩) ?_
  generalize nmS s2 = s3
  generalize nmD s2 = v at *
  generalize nmQ s2 = x at *
  refine sr_asg (d := cD x) 9 C.nd (by
    have hv' := hv
    unfold NmQ at hv'
    rw [cD_pair]
    generalize x.num = t at hv' ⊢
    generalize (x.den : Int) = b at hv' ⊢
    cases hv' with
    | int h1 h2 => exact ev_ifF (et_val (ev_isi T.isi T.tuple (ev_var 8) (k_tuple (.int t)))) (ev_tup (ed_cons (ev_var 8) (ed_cons ev_int ed_nil)))
    | fr h1 h2 => exact ev_ifT (et_val (ev_isi T.isi T.tuple (ev_var 8) (k_tuple (.tuple [.int t, .int b])))) (ev_var 8)) ?_
  have ap := atOk sp (by decide) sx e15 (Nat.le_refl _) (by omega) (by decide) (by decide)
  have aq := atOk sq (by decide) sx e15 (Nat.le_refl _) (by omega) (by decide) (by decide)
  have aW := atOk sW (by decide) sx e15 (Nat.le_refl _) (by omega) (by decide) (by decide)
  have aA := atOk sA (by decide) sx e15 (Nat.le_refl _) (by omega) (by decide) (by decide)
  have aM := atOk sM (by decide) sx e30 (Nat.le_refl _) (by omega) (by decide) (by decide)
  have vp := evQb sp (by decide) sx e15 (Nat.le_refl _) lp (by decide)
  have vq := evQb sq (by decide) sx e15 (Nat.le_refl _) lq (by decide)
  have vp0 : Qb (ev x p) := (vp 0).1
  have vq0 : Qb (ev x q) := (vq 0).1
  have vq2 : Bd 2000 (ev x q).num := by
    have h1 : Sz (27720 * 27720 ^ q.length) (2 ^ 100 * (2 ^ 100 + 1) ^ q.length) (PM.ev x q) := PSz.ev sx sq
    have h2 := h1.num (Nat.mul_ne_zero (by decide) (Nat.ne_of_gt (Nat.pow_pos (by decide))))
    refine bd_of_le h2 ?_
    have h3 : (27720 : Nat) ^ q.length ≤ 27720 ^ 9 := Nat.pow_le_pow_right (by decide) lq
    have h4 : (2 ^ 100 + 1 : Nat) ^ q.length ≤ (2 ^ 100 + 1) ^ 9 := Nat.pow_le_pow_right (by decide) lq
    exact Nat.lt_of_le_of_lt (Nat.mul_le_mul (Nat.mul_le_mul_left _ h4) (Nat.mul_le_mul_left _ h3)) (by decide)
  have qx : Qb x := szQb sx (by decide) e15 (Nat.le_refl _) (by decide)
  refine sr_par 10 11 C.calm C.nd (ed_cons (ev_call G.pval (L (by decide)) (ea_cons (ev_var 1) (ea_cons (ev_var 8) ea_nil)) ⟨_, _, _, _, _, _, _, _, rfl, hp, hv, ap, rfl, rfl⟩) (ed_cons (ev_call G.pval (L (by decide)) (ea_cons (ev_var 2) (ea_cons (ev_var 8) ea_nil)) ⟨_, _, _, _, _, _, _, _, rfl, hq, hv, aq, rfl, rfl⟩) ed_nil)) ?_
  refine sr_ifF (et_w (ew_orF (et_neS C.hu pq_cD (by decide) (ev_var 10) (ev_call G.lval (L (by decide)) (ea_cons (ev_var 3) (ea_cons (ev_var 9) ea_nil)) ⟨p, x, rfl, by omega, qx, qbp, vp, rfl, rfl⟩))
    (ew_or1 (et_neS C.hu pq_cD (by decide) (ev_call G.pval (L (by decide)) (ea_cons (ev_var 5) (ea_cons (ev_var 8) ea_nil)) ⟨_, _, _, _, _, _, _, _, rfl, pW, hv, aW, rfl, rfl⟩) (ev_call G.plus (L (by decide)) (ea_cons (ev_var 10) (ea_cons (ev_var 11) ea_nil)) (Qb.plus ⟨_, _, rfl, vp0, vq0, by rw [ev_strip, PM.ev_add], rfl⟩)))))) ?_
  refine sr_ifF (et_w (ew_orF (et_neS C.hu pq_cD (by decide) (ev_call G.pval (L (by decide)) (ea_cons (ev_var 7) (ea_cons (ev_var 8) ea_nil)) ⟨_, _, _, _, _, _, _, _, rfl, pM, hv, aM, rfl, rfl⟩) (ev_call G.times (L (by decide)) (ea_cons (ev_var 10) (ea_cons (ev_var 11) ea_nil)) (Qb.times ⟨_, _, rfl, vp0, vq0, by rw [ev_strip, PM.ev_mul], rfl⟩)))
    (ew_or1 (et_neS C.hu pq_cD (by decide) (ev_call G.pval (L (by decide)) (ea_cons (ev_var 6) (ea_cons (ev_var 8) ea_nil)) ⟨_, _, _, _, _, _, _, _, rfl, pA, hv, aA, rfl, rfl⟩) (ev_call G.less (L (by decide)) (ea_cons (ev_var 10) (ea_cons (ev_var 11) ea_nil)) (Qb.less ⟨_, _, rfl, vp0, vq0, vq2, by rw [ev_strip, PM.ev_add, ev_neg_map]; congr 1; grind, rfl⟩)))))) ?_
  have tdp := tidy_der tp
  have tdq := tidy_der tq
  refine sr_ifF (et_neS C.hu pq_pD (by decide) (ev_call G.pder (L (by decide)) (ea_cons (ev_var 1) ea_nil) ⟨_, _, _, _, rfl, hp, duo.op, rfl, rfl⟩) (ev_call G.lder (L (by decide)) (ea_cons (ev_var 3) ea_nil) ⟨p, rfl, by omega, qbp, by rw [show strip (der p) = der p from tdp], rfl⟩)) ?_
  have sdp : PSz 27720 (2 ^ 104) (der p) := sp.der.mono (by
    have : p.length * 2 ^ 100 ≤ 16 * 2 ^ 100 := Nat.mul_le_mul_right _ (by omega)
    exact Nat.le_trans this (by decide))
  have sdq : PSz 27720 (2 ^ 104) (der q) := sq.der.mono (by
    have : q.length * 2 ^ 100 ≤ 16 * 2 ^ 100 := Nat.mul_le_mul_right _ (by omega)
    exact Nat.le_trans this (by decide))
  have ldp := der_len p
  have ldq := der_len q
  have md1 : Mul2 (der p) q 27720 (2 ^ 104) 27720 (2 ^ 100) := mul2_of sdp sq (by decide) (by decide) e15 (Nat.le_refl _) e15 (Nat.le_refl _) (by omega) (by omega) (by decide) (by decide) (by decide) (by decide)
  have md2 : Mul2 p (der q) 27720 (2 ^ 100) 27720 (2 ^ 104) := mul2_of sp sdq (by decide) (by decide) e15 (Nat.le_refl _) e15 (Nat.le_refl _) (by omega) (by omega) (by decide) (by decide) (by decide) (by decide)
  have ml : ∀ p q : List Rat, p.length ≤ 9 → q.length ≤ 9 → (strip (mul p q)).length ≤ 100 := fun p q h1 h2 => by
    by_cases h : 0 < p.length + q.length
    · have := mul_slen h
      omega
    · have e1 : p = [] := List.eq_nil_of_length_eq_zero (by omega)
      rw [e1, PM.mul]
      exact Nat.zero_le _
  have qd1 : ∀ a ∈ strip (mul (der p) q), Qb a := fun a ha => szQb (m := 30) (a := 208) ((PSz.mul sdp sq).strip a ha) (by decide) e30 (by
    have : (der p).length * (2 ^ 104 * 2 ^ 100) ≤ 16 * (2 ^ 104 * 2 ^ 100) := Nat.mul_le_mul_right _ (by omega)
    exact Nat.le_trans this (by decide)) (by decide)
  have qd2 : ∀ a ∈ strip (mul p (der q)), Qb a := fun a ha => szQb (m := 30) (a := 208) ((PSz.mul sp sdq).strip a ha) (by decide) e30 (by
    have : p.length * (2 ^ 100 * 2 ^ 104) ≤ 16 * (2 ^ 100 * 2 ^ 104) := Nat.mul_le_mul_right _ (by omega)
    exact Nat.le_trans this (by decide)) (by decide)
  refine sr_asg 12 C.nd (ev_call G.lsum (L (by decide)) (ea_cons (ev_call G.ltim (L (by decide)) (ea_cons (ev_call G.pder (L (by decide)) (ea_cons (ev_var 1) ea_nil) ⟨_, _, _, _, rfl, hp, duo.op, rfl, rfl⟩) (ea_cons (ev_var 4) ea_nil)) ⟨_, _, _, _, _, _, rfl, md1, rfl, rfl⟩)
    (ea_cons (ev_call G.ltim (L (by decide)) (ea_cons (ev_var 3) (ea_cons (ev_call G.pder (L (by decide)) (ea_cons (ev_var 2) ea_nil) ⟨_, _, _, _, rfl, hq, duo.oq, rfl, rfl⟩) ea_nil)) ⟨_, _, _, _, _, _, rfl, md2, rfl, rfl⟩) ea_nil)) ⟨strip (mul (der p) q), strip (mul p (der q)), rfl, ml _ _ (by omega) lq, ml _ _ lp (by omega), qd1, qd2, rfl, rfl⟩) ?_
  have due : der (strip (mul p q)) = strip (add (strip (mul (der p) q)) (strip (mul p (der q)))) := by
    have h1 : strip (der (strip (mul p q))) = der (strip (mul p q)) := tidy_der (strip_tidy _)
    rw [← h1]
    refine strip_ext _ _ fun i => ?_
    rw [co_der, strip_eqv, ← co_der, der_mul p q i, co_add, co_add, strip_eqv, strip_eqv]
  have nil : strip (add p (p.map (- ·))) = [] := strip_zero _ fun i => by
    rw [co_add, co_map (fun y : Rat => -y) (by grind)]
    grind
  refine sr_ret (ev_andT (ev_eqS C.hu (pq_pD (p := strip (add (strip (mul (der p) q)) (strip (mul p (der q)))))) (by decide) (ev_call G.pder (L (by decide)) (ea_cons (ev_var 7) ea_nil) ⟨_, _, _, _, rfl, pM, rM, by rw [due], rfl⟩) (ev_var 12)) (ev_andT (ev_call G.isp (L (by decide)) (ea_cons (ev_var 1) ea_nil) ⟨_, rfl, fun xs hx => ?_, by rw [hp.isP], rfl⟩) (ev_andT (ev_call G.isp (L (by decide)) (ea_cons (ev_var 7) ea_nil) ⟨_, rfl, fun xs hx => ?_, (by rw [show K8.isP (pD (strip (mul p q))) = true from pM.isP]), rfl⟩)
    (ev_b1 (ev_eqS C.hu (pq_pD (p := [])) (by decide) (ev_call G.ples (L (by decide)) (ea_cons (ev_var 1) (ea_cons (ev_var 1) ea_nil)) ⟨_, _, _, _, _, _, _, _, rfl, duo2, by rw [nil], rfl⟩) (ev_tup ed_nil))))))
  · have e := PyData.tuple.inj hx
    rw [← e, hp.l.length]
    omega
  · have e : (strip (mul p q)).map cD = xs := PyData.tuple.inj hx
    rw [← e, List.length_map]
    omega
end
end K8


set_option Elab.async false
set_option linter.all false
set_option maxRecDepth 100000
set_option exponentiation.threshold 9000
namespace K8
open PySem PySem.Spec PyProof.Rows L2 DL PM
/-! ### what is judged -/
def jMid (ds : List PyData) (a : Int) (b : PyData) : PyData := .tuple ((DL.cutD ds none (some a) ++ [b]) ++ DL.cutD ds (some (a + 1)) none)
def jF1 (ds : List PyData) (p : List Rat) : List PyData := [.tuple ds, pD p, .tuple [], .tuple (ds ++ [.int 0]), .tuple (ds ++ [.tuple [.int 0, .int 1]]), .list ds, .none, .int 3, .str "x", .dict [], .tuple [.int 0], .tuple [.bool true], .tuple [.tuple [.int 2, .int 4]], .tuple [.tuple [.int 1, .int 0]]]
def jF2 (ds : List PyData) (a : Int) : List PyData := [jMid ds a .none, jMid ds a (.str "1"), .tuple (List.replicate (41 : Int).toNat [PyData.int 1]).flatten, .tuple (List.replicate (42 : Int).toNat [PyData.int 1]).flatten, .tuple [.tuple [.int 1, .int 2, .int 3]], .tuple [.list [.int 1, .int 2]]]
def jF3 (ds : List PyData) (a : Int) : List PyData := [jMid ds a (.tuple [.int 1, .int (-2)]), .tuple [.int (10 ^ (60 : Int).toNat)], .tuple [.int (10 ^ (60 : Int).toNat - 1)], .tuple [.tuple [.int (10 ^ (60 : Int).toNat), .int 1]]]
def jD1 : List PyData := [.bool true, .bool true, .bool true, .bool false, .bool false, .bool false, .bool false, .bool false, .bool false, .bool false, .bool false, .bool false, .bool false, .bool false]
def jD2 : List PyData := [.bool false, .bool false, .bool true, .bool false, .bool false, .bool false, .bool false, .bool false, .bool true, .bool true]
theorem isP_bad {xs ys : List PyData} {b : PyData} (h : num b = false) : isP (.tuple ((xs ++ [b]) ++ ys)) = false := by
  rw [isP_tup]
  have : ((xs ++ [b]) ++ ys).all num = false := by
    rw [List.all_append, List.all_append]
    simp [h]
  rw [this, Bool.false_and, Bool.and_false]
theorem isP_zero {xs : List PyData} {b : PyData} (h : topOf b = 0) : isP (.tuple (xs ++ [b])) = false := by
  rw [isP_tup]
  have e1 : (xs ++ [b]).isEmpty = false := by
    cases xs <;> rfl
  have e2 : (xs ++ [b]).getD ((xs ++ [b]).length - 1) .none = b := by
    rw [List.length_append, List.length_singleton, Nat.add_sub_cancel, List.getD_eq_getElem?_getD, List.getElem?_append_right (Nat.le_refl _), Nat.sub_self]
    rfl
  rw [e1, e2, h, decide_eq_true rfl]
  simp
/-- no long tuple -/
def Sh (d : PyData) : Prop := ∀ xs, d = .tuple xs → xs.length ≤ 1000
theorem sh_tup {xs : List PyData} (h : xs.length ≤ 1000) : Sh (.tuple xs) := fun ys e => by
  rw [← PyData.tuple.inj e]
  exact h
theorem sh_mid {ds : List PyData} {a : Int} {b : PyData} (h : ds.length ≤ 100) : Sh (jMid ds a b) := sh_tup (by
  rw [List.length_append, List.length_append, List.length_singleton]
  have := cutD_length (ds := ds) (lo := none) (hi := some a)
  have := cutD_length (ds := ds) (lo := some (a + 1)) (hi := none)
  omega)
theorem sh_all {xs : List PyData} {d : PyData} (h : Sh d) (k : ∀ e ∈ xs, Sh e) : ∀ e ∈ d :: xs, Sh e := fun e he => by
  rcases List.mem_cons.mp he with rfl | he
  · exact h
  · exact k e he
theorem sh_nil : ∀ e ∈ ([] : List PyData), Sh e := fun e he => by cases he
section
variable {ds : List PyData} {p : List Rat} {a : Int}
theorem j_sh (hp : PolyD ds p) (h : p.length ≤ 10) : ∀ d ∈ (jF1 ds p ++ jF2 ds a) ++ jF3 ds a, Sh d := by
  have hl := hp.l.length
  have o : ∀ {d : PyData}, (∀ xs, d ≠ .tuple xs) → Sh d := fun h xs e => absurd e (h xs)
  have h1 : ∀ d ∈ jF1 ds p, Sh d := sh_all (sh_tup (by omega)) (sh_all (sh_tup (by rw [List.length_map]; omega)) (sh_all (sh_tup (by decide)) (sh_all (sh_tup (by simp; omega)) (sh_all (sh_tup (by simp; omega)) (sh_all (o fun _ e => by cases e) (sh_all (o fun _ e => by cases e) (sh_all (o fun _ e => by cases e) (sh_all (o fun _ e => by cases e) (sh_all (o fun _ e => by cases e)
    (sh_all (sh_tup (by decide)) (sh_all (sh_tup (by decide)) (sh_all (sh_tup (by decide)) (sh_all (sh_tup (by decide)) sh_nil)))))))))))))
  have h2 : ∀ d ∈ jF2 ds a, Sh d := sh_all (sh_mid (by omega)) (sh_all (sh_mid (by omega)) (sh_all (sh_tup (by decide)) (sh_all (sh_tup (by decide)) (sh_all (sh_tup (by decide)) (sh_all (sh_tup (by decide)) sh_nil)))))
  have h3 : ∀ d ∈ jF3 ds a, Sh d := sh_all (sh_mid (by omega)) (sh_all (sh_tup (by decide)) (sh_all (sh_tup (by decide)) (sh_all (sh_tup (by decide)) sh_nil)))
  intro d hd
  rcases List.mem_append.mp hd with hd | hd
  · rcases List.mem_append.mp hd with hd | hd
    · exact h1 d hd
    · exact h2 d hd
  · exact h3 d hd
theorem j_due (hp : PolyD ds p) : ((jF1 ds p ++ jF2 ds a) ++ jF3 ds a).map (fun d => PyData.bool (isP d)) = jD1 ++ jD2 := by
  have e1 : isP (.tuple ds) = true := hp.isP
  have e2 : isP (pD p) = true := (poly_cD hp.t hp.n).isP
  have e3 : isP (.tuple []) = true := by decide +kernel
  have e4 : isP (.tuple (ds ++ [.int 0])) = false := isP_zero rfl
  have e5 : isP (.tuple (ds ++ [.tuple [.int 0, .int 1]])) = false := isP_zero rfl
  have f1 : isP (jMid ds a .none) = false := isP_bad rfl
  have f2 : isP (jMid ds a (.str "1")) = false := isP_bad rfl
  have f3 : isP (.tuple (List.replicate (41 : Int).toNat [PyData.int 1]).flatten) = true := by decide +kernel
  have f4 : isP (.tuple (List.replicate (42 : Int).toNat [PyData.int 1]).flatten) = false := by decide +kernel
  have g1 : isP (jMid ds a (.tuple [.int 1, .int (-2)])) = false := isP_bad (by decide +kernel)
  have g2 : isP (.tuple [.int (10 ^ (60 : Int).toNat)]) = false := by decide +kernel
  have g3 : isP (.tuple [.int (10 ^ (60 : Int).toNat - 1)]) = true := by decide +kernel
  have g4 : isP (.tuple [.tuple [.int (10 ^ (60 : Int).toNat), .int 1]]) = true := by decide +kernel
  have x1 : isP (.tuple [.int 0]) = false := by decide +kernel
  have x2 : isP (.tuple [.bool true]) = false := by decide +kernel
  have x3 : isP (.tuple [.tuple [.int 2, .int 4]]) = false := by decide +kernel
  have x4 : isP (.tuple [.tuple [.int 1, .int 0]]) = false := by decide +kernel
  have x5 : isP (.tuple [.tuple [.int 1, .int 2, .int 3]]) = false := by decide +kernel
  have x6 : isP (.tuple [.list [.int 1, .int 2]]) = false := by decide +kernel
  have y1 : isP (.list ds) = false := rfl
  have y2 : isP .none = false := rfl
  have y3 : isP (.int 3) = false := rfl
  have y4 : isP (.str "x") = false := rfl
  have y5 : isP (.dict []) = false := rfl
  unfold jF1 jF2 jF3 jD1 jD2
  simp only [List.cons_append, List.nil_append, List.map_cons, List.map_nil, e1, e2, e3, e4, e5, f1, f2, f3, f4, g1, g2, g3, g4, x1, x2, x3, x4, x5, x6, y1, y2, y3, y4, y5]
end
theorem pq_bool {b : Bool} {k : Nat} : Pq k (.bool b) := ⟨rfl, rfl, by unfold PyData.depth; omega⟩
theorem pq_due : Pq 1 (.list (jD1 ++ jD2)) := pq_lst fun d hd => by
  simp only [jD1, jD2, List.cons_append, List.nil_append, List.mem_cons, List.not_mem_nil, or_false] at hd
  rcases hd with rfl | rfl | rfl | rfl | rfl | rfl | rfl | rfl | rfl | rfl | rfl | rfl | rfl | rfl | rfl | rfl | rfl | rfl | rfl | rfl | rfl | rfl | rfl | rfl <;> exact pq_bool
theorem nml_app : ∀ {ds es : List PyData} {p q : List Rat}, NmL ds p → NmL es q → NmL (ds ++ es) (p ++ q)
  | _, _, _, _, .nil, k => k
  | _, _, _, _, .cons h1 h2, k => .cons h1 (nml_app h2 k)
theorem one_poly {ds : List PyData} {p : List Rat} (h : PolyD ds p) (hl : p.length ≤ 9) : PolyD (ds ++ [.int 1]) (p ++ [1]) := by
  refine ⟨nml_app h.l (.cons (show NmQ (.int 1) 1 from .int (by decide) (by decide)) .nil), last_tidy fun _ => ?_, by rw [List.length_append]; simp; omega⟩
  rw [List.length_append, List.length_singleton, Nat.add_sub_cancel, co_get (p := p ++ [1]) (a := 1) (by rw [List.getElem?_append_right (Nat.le_refl _), Nat.sub_self]; rfl)]
  decide
section
variable {P : Program} {w : World} {K : PySem.W.Frag} {mg : Str → Option Value} {base : Heap} {f : Addr} {fd : FuncData}
abbrev sJdg : Stmt := top 54
theorem scJdg : FnScope ["_law_dice_here", "_law_one", "_law_at", "_law_found", "_law_due", "_law_value"] ["_law_dice_here"] (defScope sJdg) := ⟨rfl, rfl, rfl, by decide +kernel, rfl, by decide +kernel, by decide +kernel⟩
def jdN (s : S) : Int := ((drD s 6).length : Int) + 1
def jdS (s : S) : S := rollS (drS s 6) (jdN s)
def rJdg : Rel := fun as s d s' => as = [.dice] ∧ d = .bool true ∧ s' = jdS s
set_option maxHeartbeats 4000000 in
theorem ok_judged (F : Fun K "_law_judged_right" "_law_judged_right" sJdg f fd) (T : Top mg) (T8 : Top8 mg) (G1 : Dn P w K mg base 4 "_law_py_drawn" rDrw) (G2 : Dn P w K mg base 1 "_law_roll" rRoll) (G3 : Dn P w K mg base 1 "_law_py_pairs" rPrs) (G4 : Dn P w K mg base 4 "is_poly" rIsP) : FnOk P w K mg base CX0 5 f fd ["_law_dice_here"] (spD rJdg) := by
  refine okD F scJdg (by rintro _ _ _ _ ⟨rfl, _⟩; rfl) fun cdv A0 outer s0 H0 E C z as s₁ d s h => ?_
  obtain ⟨rfl, rfl, rfl⟩ := h
  have L : ∀ {j : Nat}, j ≤ 4 → Room j _ := fun h => C.hr.mono h
  have hp := one_poly (dr_poly (s := s₁) (m := 6) (by decide) (by decide)) (dr_len (s := s₁) (m := 6) (by decide) (by decide))
  have hl1 := hp.l.length
  have lp := dr_len (s := s₁) (m := 6) (by decide) (by decide)
  have hl2 := (dr_poly (s := s₁) (m := 6) (by decide) (by decide)).l.length
  have lp8 : (drP s₁ 6 ++ [1]).length ≤ 10 := by rw [List.length_append]; simp; omega
  show SR _ _ _ _ _ (.rt _ (rollS (drS s₁ 6) (jdN s₁)))
  have hn : (((drD s₁ 6 ++ [PyData.int 1]).length : Nat) : Int) = jdN s₁ := by
    rw [List.length_append, List.length_singleton]
    unfold jdN
    omega
  have n0 : 0 < jdN s₁ := by unfold jdN; omega
  have nb : Bd 9000 (jdN s₁) := by
    have : Bd 20 (jdN s₁) := by unfold jdN Bd; omega
    exact this.mono (by decide)
  have hab := roll_bd (drS s₁ 6) n0
  have l9 : (drD s₁ 6).length ≤ 9 := by omega
  refine sr_asg (d := .tuple (drD s₁ 6 ++ [.int 1])) (s1 := drS s₁ 6) 1 C.nd (ev_catA (by simp; omega) (ev_call G1 C.hr (ea_dice 0 (ea_cons ev_int ea_nil)) ⟨6, rfl, by decide, by decide, rfl, rfl⟩) (ev_tup (ed_cons ev_int ed_nil))) ?_
  refine sr_asg (d := .int (rollV (drS s₁ 6) (jdN s₁))) (s1 := rollS (drS s₁ 6) (jdN s₁)) 2 C.nd (ev_call G2 (L (by decide)) (ea_dice 0 (ea_cons (EV.is (ev_bltn call_len rb_lenT T.len (ed_cons (ev_var 1) ed_nil)) (by rw [hn])) ea_nil)) ⟨jdN s₁, rfl, n0, nb, rfl, rfl⟩) ?_
  generalize rollS (drS s₁ 6) (jdN s₁) = s2
  generalize rollV (drS s₁ 6) (jdN s₁) = a at *
  have hlen : (drD s₁ 6 ++ [PyData.int 1]).length ≤ 10 := by rw [List.length_append]; simp; omega
  generalize drD s₁ 6 ++ [PyData.int 1] = ds at *
  generalize drP s₁ 6 ++ [1] = p at *
  have mid : ∀ {es : List Sl} {e : Expr} {b : PyData} {pos p1 p2 p3 p4 p5 p6 p7 p8 p9 p10 p11 p12 p13 : Pos} {k1 k2 : Nat}, True := trivial
  refine sr_asg (d := .list (jF1 ds p)) 3 C.nd (ev_lst (ed_cons (ev_var 1) (ed_cons (ev_call G3 (L (by decide)) (ea_cons (ev_var 1) ea_nil) ⟨ds, p, rfl, hp.l, by omega, rfl, rfl⟩) (ed_cons (ev_tup ed_nil) (ed_cons (ev_catA (by simp; omega) (ev_var 1) (ev_tup (ed_cons ev_int ed_nil))) (ed_cons (ev_catA (by simp; omega) (ev_var 1) (ev_tup (ed_cons (ev_tup (ed_cons ev_int (ed_cons ev_int ed_nil))) ed_nil))) (ed_cons (ev_bty call_list_of rb_listT T8.list (ed_cons (ev_var 1) ed_nil))
    (ed_cons ev_non (ed_cons ev_int (ed_cons ev_str (ed_cons ev_emptyDict (ed_cons (ev_tup (ed_cons ev_int ed_nil)) (ed_cons (ev_tup (ed_cons ev_bl ed_nil)) (ed_cons (ev_tup (ed_cons (ev_tup (ed_cons ev_int (ed_cons ev_int ed_nil))) ed_nil)) (ed_cons (ev_tup (ed_cons (ev_tup (ed_cons ev_int (ed_cons ev_int ed_nil))) ed_nil)) ed_nil))))))))))))))) ?_
  have cl1 := cutD_length (ds := ds) (lo := none) (hi := some a)
  have cl2 := cutD_length (ds := ds) (lo := some (a + 1)) (hi := none)
  refine sr_asg (d := .list (jF1 ds p ++ jF2 ds a)) 3 C.nd (ev_catL (by simp [jF1, jF2, jF3]) (ev_var 3) (ev_lst (ed_cons (ev_catA (by simp; omega) (ev_catA (by simp; omega) (ev_slToT (ev_var 1) (ev_var 2)) (ev_tup (ed_cons ev_non ed_nil))) (ev_slFromT (ev_var 1) (ev_add (ev_var 2) ev_int))) (ed_cons (ev_catA (by simp; omega) (ev_catA (by simp; omega) (ev_slToT (ev_var 1) (ev_var 2)) (ev_tup (ed_cons ev_str ed_nil))) (ev_slFromT (ev_var 1) (ev_add (ev_var 2) ev_int)))
    (ed_cons (ev_repT (by simp) (by decide) (by decide) (by decide) (ev_tup (ed_cons ev_int ed_nil)) ev_int) (ed_cons (ev_repT (by simp) (by decide) (by decide) (by decide) (ev_tup (ed_cons ev_int ed_nil)) ev_int) (ed_cons (ev_tup (ed_cons (ev_tup (ed_cons ev_int (ed_cons ev_int (ed_cons ev_int ed_nil)))) ed_nil)) (ed_cons (ev_tup (ed_cons (ev_lst (ed_cons ev_int (ed_cons ev_int ed_nil))) ed_nil)) ed_nil)))))))) ?_
  refine sr_asg (d := .list ((jF1 ds p ++ jF2 ds a) ++ jF3 ds a)) 3 C.nd (ev_catL (by simp [jF1, jF2, jF3]) (ev_var 3) (ev_lst (ed_cons (ev_catA (by simp; omega) (ev_catA (by simp; omega) (ev_slToT (ev_var 1) (ev_var 2)) (ev_tup (ed_cons (ev_tup (ed_cons ev_int (ed_cons (ev_neg ev_int) ed_nil))) ed_nil))) (ev_slFromT (ev_var 1) (ev_add (ev_var 2) ev_int)))
    (ed_cons (ev_tup (ed_cons (ev_pow (cpow10 (by decide) (by decide)) ev_int ev_int) ed_nil)) (ed_cons (ev_tup (ed_cons (ev_sub (ev_pow (cpow10 (by decide) (by decide)) ev_int ev_int) ev_int) ed_nil)) (ed_cons (ev_tup (ed_cons (ev_tup (ed_cons (ev_pow (cpow10 (by decide) (by decide)) ev_int ev_int) (ed_cons ev_int ed_nil))) ed_nil)) ed_nil)))))) ?_
  refine sr_asg (d := .list jD1) 4 C.nd (ev_lst (ed_cons ev_bl (ed_cons ev_bl (ed_cons ev_bl (ed_cons ev_bl (ed_cons ev_bl (ed_cons ev_bl (ed_cons ev_bl (ed_cons ev_bl (ed_cons ev_bl (ed_cons ev_bl (ed_cons ev_bl (ed_cons ev_bl (ed_cons ev_bl (ed_cons ev_bl ed_nil))))))))))))))) ?_
  refine sr_asg (d := .list (jD1 ++ jD2)) 4 C.nd (ev_catL (by decide) (ev_var 4) (ev_lst (ed_cons ev_bl (ed_cons ev_bl (ed_cons ev_bl (ed_cons ev_bl (ed_cons ev_bl (ed_cons ev_bl (ed_cons ev_bl (ed_cons ev_bl (ed_cons ev_bl (ed_cons ev_bl ed_nil)))))))))))) ?_
  have hlf : ((jF1 ds p ++ jF2 ds a) ++ jF3 ds a).length ≤ 100000 := by simp [jF1, jF2, jF3]
  refine sr_ret (ev_eqS C.hu pq_due (by decide) (EV.is (ev_lcF (j := 5) C.calm C.nd (fun d => .bool (isP d)) (ev_var 3) hlf (blkOk_by (N := ["_law_dice_here", "_law_one", "_law_at", "_law_found", "_law_due", "_law_value"]) (sc := defScope sJdg) (own := [("_law_value", 5)]) (by decide +kernel)) (fun _ _ _ _ _ => pg_name C.nd rfl (Or.inl rfl)) (fun d hd z' s0 H0 C' cl fp => ?_)) (by rw [j_due hp])) (ev_var 4))
  exact ev_call G4 C.hr (ea_cons (ev_var 5) ea_nil) ⟨d, rfl, j_sh hp (by omega) d hd, rfl, rfl⟩
end
end K8


set_option Elab.async false
set_option linter.all false
set_option maxRecDepth 100000
set_option exponentiation.threshold 9000
namespace K8
open PySem PySem.Spec PyProof.Rows L2 DL PM
structure Top3 (mg : Str → Option Value) : Prop where
  min : mg "min" = none
  max : mg "max" = none
def z0 : Z := ⟨none, []⟩
theorem fz0 (a : Addr) : Fz z0 a := ⟨fun h => (by cases h), fun o h => (by cases h)⟩
theorem at0 {H : Hp} {s : S} : At z0 H s := ⟨fun a h => (by cases h), fun p h => (by cases h), fun p h => (by cases h)⟩
theorem sq_ez {K : PySem.W.Frag} {z : Z} {H H' : Hp} {a : Addr} {xs : List V} (h : SqL K H a xs) (f : Fz z a) (e : Ez z H H') : SqL K H' a xs := by
  rcases h with (h | ⟨o, h⟩) | h
  · exact .inl (.inl (e a _ f h))
  · exact .inl (.inr ⟨o, e a _ f h⟩)
  · exact .inr h
section
variable {P : Program} {w : World} {K : PySem.W.Frag} {mg : Str → Option Value} {base : Heap} {f : Addr} {fd : FuncData}
abbrev sDice : Stmt := top 37
theorem scDice : FnScope ["_law_script", "_law_spot", "_law_cell", "_law_left"] ["_law_script", "_law_spot"] (defScope sDice) := ⟨rfl, rfl, rfl, by decide +kernel, rfl, by decide +kernel, by decide +kernel⟩
/-- a new list of three ints -/
def spDice (K : PySem.W.Frag) : Sp := fun vs H Q _ => ∃ (a : Addr) (i : Nat) (ns : List Int), vs = [.ref a, .int (i : Int)] ∧ SqL K H a (ns.map V.int) ∧ ns.length ≤ 63 ∧ ∀ (s : S) (H1 : Hp) (p : Addr), Ez z0 H H1 → H1 p = none → Q (.ref p) (upd H1 p (dv s))
theorem ok_dice (F : Fun K "_law_dice" "_law_dice" sDice f fd) (T : Top mg) (T3 : Top3 mg) : FnOk P w K mg base CX0 1 f fd ["_law_script", "_law_spot"] (spDice K) := by
  refine F.ok scDice (fun vs H Q E h => ?_) (fun cdv A outer s0 H0 vs Q E hr h => ?_)
  · obtain ⟨a, i, ns, rfl, _⟩ := h
    rfl
  · obtain ⟨a, i, ns, rfl, hS, hl, q⟩ := h
    have C : Ctx (cxOf CX0 P w K mg base ["_law_script", "_law_spot", "_law_cell", "_law_left"] "_law_dice" (defScope sDice) f cdv A outer s0 H0 E).nox 0 ["_law_script", "_law_spot", "_law_cell", "_law_left"] := ⟨scDice.nd, rfl, PassesOwn.never, hr, hr.units⟩
    refine ⟨_, pss_cons (ps_set (i := 2) scDice.nd rfl (.inl rfl) (pe_ifExp (pt_cmpR op_lt (pv 1) (pe_callB call_len (by rfl) T.len (by decide +kernel) (pa_cons (pv 0) pa_nil)) (nomark _)) (pe_callTy call_int1 (by rfl) T.int (by decide +kernel) (pa_cons (pe_ix ix_list (pv 0) (pv 1) (fun _ _ => rfl)) pa_nil)) wE_ok))
      (pss_cons wS_ok (pss_one (ps_ret (pe_lst wA_ok)))), ?_⟩
    have e0 : ∀ (c : Int) (H0 : Hp), En z0 H0 [some (.ref a), some (.int (i : Int)), some (.int c), none] [.un, .val (.int (i : Int)), .val (.int c), .un] := fun c _ => .cons .un (.cons (.val (.int _)) (.cons (.val (.int _)) (.cons .un .nil)))
    -- the rest, from the cell on
    have rest : ∀ (c : Int) (H3 : Hp), Ez z0 H0 H3 → (tSeq (wS (cxOf CX0 P w K mg base ["_law_script", "_law_spot", "_law_cell", "_law_left"] "_law_dice" (defScope sDice) f cdv A outer s0 H0 E).nox ((defBody sDice).getD 1 (.Pass ⟨0, 0, 0, 0⟩))) (tRet (tLst (wA (cxOf CX0 P w K mg base ["_law_script", "_law_spot", "_law_cell", "_law_left"] "_law_dice" (defScope sDice) f cdv A outer s0 H0 E).nox
        (match (defBody sDice)[2]? with | some (Stmt.Return (some (Expr.List es _)) _) => es | _ => []))))) { nx := fun _ H' => Q .non H', rt := Q } [some (.ref a), some (.int (i : Int)), some (.int c), none] H3 := fun c H3 e3 => by
      have m1 : -(2 ^ 64) < (c.natAbs : Int).fmod 1152921504606846869 ∧ (c.natAbs : Int).fmod 1152921504606846869 < 2 ^ 64 := by
        have := fmod_bd (i := (c.natAbs : Int)) (n := 1152921504606846869) (by decide)
        omega
      have B1 : Bd 300 ((10 : Int) ^ (56 : Int).toNat) := by unfold Bd; decide
      have B2 : Bd 300 ((10 : Int) ^ (60 : Int).toNat) := by unfold Bd; decide
      have L1 : EV (cxOf CX0 P w K mg base ["_law_script", "_law_spot", "_law_cell", "_law_left"] "_law_dice" (defScope sDice) f cdv A outer s0 H0 E).nox z0 (match (defBody sDice)[1]? with | some (Stmt.Assign _ e _) => e | _ => .Constant .none 0 ⟨0, 0, 0, 0⟩) [.un, .val (.int (i : Int)), .val (.int c), .un] (0, 0, 0) (.int ((max 0 ((c.natAbs : Int) - 10 ^ (16 : Int).toNat)).fmod (10 ^ (56 : Int).toNat * 10 ^ (60 : Int).toNat))) (0, 0, 0) :=
        ev_mod (by decide) (ev_bltn (call_max2 C.calm) (rb_max C.calm) T3.max (ed_cons ev_int (ed_cons (ev_sub (ev_bltn call_abs rb_abs T.abs (ed_cons (ev_var 2) ed_nil)) (ev_pow (cpow10 (by decide) (by decide)) ev_int ev_int)) ed_nil))) (ev_mul (B1.cmul B2) (ev_pow (cpow10 (by decide) (by decide)) ev_int ev_int) (ev_pow (cpow10 (by decide) (by decide)) ev_int ev_int))
      refine ⟨_, ps_set (i := 3) scDice.nd rfl (.inl rfl) wE_ok, ?_⟩
      refine L1 _ H3 (e0 c H3) at0 _ fun v H1 e1 a1 v1 => ?_
      have en1 : En z0 H1 [some (.ref a), some (.int (i : Int)), some (.int c), some v] [.un, .val (.int (i : Int)), .val (.int c), .val (.int ((max 0 ((c.natAbs : Int) - 10 ^ (16 : Int).toNat)).fmod (10 ^ (56 : Int).toNat * 10 ^ (60 : Int).toNat)))] := .cons .un (.cons (.val (.int _)) (.cons (.val (.int _)) (.cons (.val v1) .nil)))
      have D : ED (cxOf CX0 P w K mg base ["_law_script", "_law_spot", "_law_cell", "_law_left"] "_law_dice" (defScope sDice) f cdv A outer s0 H0 E).nox z0 (match (defBody sDice)[2]? with | some (Stmt.Return (some (Expr.List es _)) _) => es | _ => []) [.un, .val (.int (i : Int)), .val (.int c), .val (.int ((max 0 ((c.natAbs : Int) - 10 ^ (16 : Int).toNat)).fmod (10 ^ (56 : Int).toNat * 10 ^ (60 : Int).toNat)))] (0, 0, 0)
          [.int ((max 0 ((c.natAbs : Int) - 10 ^ (16 : Int).toNat)).fmod (10 ^ (56 : Int).toNat * 10 ^ (60 : Int).toNat)), .int ((c.natAbs : Int).fmod 1152921504606846869 * 61 + 1009 * (i : Int) + 43 * (if decide (c < 0) = true then 1 else 0) + 17), .int 0] (0, 0, 0) :=
        ed_cons (ev_var 3) (ed_cons (ev_add (ev_add (ev_add (ev_mulL m1 (ev_mod (by decide) (ev_bltn call_abs rb_abs T.abs (ed_cons (ev_var 2) ed_nil)) ev_int) ev_int) (ev_mulL (by decide) ev_int (ev_var 1))) (ev_mulL (by decide) ev_int (ev_bty call_int1 rb_intB T.int (ed_cons (ev_lt (ev_var 2) ev_int) ed_nil)))) ev_int) (ed_cons ev_int ed_nil))
      refine D _ H1 en1 at0 _ fun vs H2 e2 a2 v2 => ?_
      cases v2 with
      | cons h r =>
        cases h
        cases r with
        | cons h r =>
          cases h
          cases r with
          | cons h r =>
            cases h
            cases r
            exact ⟨(by show 3 ≤ sizeLine; decide), fun p hp => q (_, _, _) H2 p (e3.trans (e1.trans e2)) hp⟩
    -- the cell
    refine ⟨_, rfl, .ref a, rfl, .ref a, _, rfl, .inl ⟨_, hS, rfl⟩, _, _, rfl, rfl, _, rfl, ?_⟩
    rw [List.length_map]
    by_cases hi : i < ns.length
    · rw [decide_eq_true (show (i : Int) < (ns.length : Int) by omega)]
      refine iteT ⟨.ref a, rfl, _, rfl, a, _, (i : Int), .int ns[i], rfl, rfl, hS, atI_nat (j := i) (by rw [List.getElem?_map, List.getElem?_eq_getElem hi]; rfl), .inl ⟨_, rfl, ?_⟩⟩
      exact rest ns[i] H0 (.refl H0)
    · rw [decide_eq_false (show ¬ (i : Int) < (ns.length : Int) by omega)]
      refine iteF ?_
      have L0 : EV (cxOf CX0 P w K mg base ["_law_script", "_law_spot", "_law_cell", "_law_left"] "_law_dice" (defScope sDice) f cdv A outer s0 H0 E).nox z0 (match (defBody sDice)[0]? with | some (Stmt.Assign _ (Expr.IfExp _ _ e _) _) => e | _ => .Constant .none 0 ⟨0, 0, 0, 0⟩) [.un, .val (.int (i : Int)), .un, .un] (0, 0, 0) (.int (89 * (i : Int) + 53)) (0, 0, 0) :=
        ev_add (ev_mulL (by decide) ev_int (ev_var 1)) ev_int
      refine L0 _ H0 (.cons .un (.cons (.val (.int _)) (.cons .un (.cons .un .nil)))) at0 _ fun v H1 e1 a1 v1 => ?_
      cases v1
      exact rest _ H1 e1
end

/-! ### the law -/
def iR (l : List Int) : List Rat := l.map fun i : Int => (i : Rat)
theorem ir_poly {l : List Int} (h : ∀ i ∈ l, -(10 ^ 60) < i ∧ i < 10 ^ 60) (t : strip (iR l) = iR l) (n : l.length ≤ 41) : PolyD (iD l) (iR l) := by
  refine ⟨?_, t, by unfold iR; rw [List.length_map]; exact n⟩
  clear t n
  induction l with
  | nil => exact .nil
  | cons i l ih => exact .cons (nmq_int (h i (List.mem_cons_self ..))) (ih fun j hj => h j (List.mem_cons_of_mem _ hj))
theorem ir_sz {l : List Int} (h : ∀ i ∈ l, i.natAbs ≤ 2 ^ 100) : PSz 27720 (2 ^ 100) (iR l) := fun q hq => by
  obtain ⟨i, hi, rfl⟩ := List.mem_map.mp hq
  exact Sz.int (h i hi)
theorem row_sm {p : List Rat} (h : PSz 27720 (2 ^ 100) p) (l : p.length ≤ 20) : RowOk p 27720 (2 ^ 100) := row_of (m := 15) h (by decide) (by decide) (Nat.le_refl _) (by omega) (by decide) (by decide)
def half1 : Rat := mkRat 1 2
theorem half_D : cD half1 = .tuple [.int 1, .int 2] := by
  unfold cD
  rw [show half1.num = 1 by decide +kernel, show half1.den = 2 by decide +kernel]
  rfl
theorem half_nm : NmQ (.tuple [.int 1, .int 2]) half1 := by
  rw [← half_D]
  exact nmq_cD _
theorem half_sz : Sz 27720 (2 ^ 100) half1 := ⟨13860, by decide +kernel, by decide⟩
def pA1 : List Int := [-2, 1, 1]
def pB1 : List Int := [2, -1]
def qC1 : List Rat := [((0 : Int) : Rat), half1]
theorem pqA : PolyD (iD pA1) (iR pA1) := ir_poly (by decide) (by decide +kernel) (by decide)
theorem pqB : PolyD (iD pB1) (iR pB1) := ir_poly (by decide) (by decide +kernel) (by decide)
theorem pqF : PolyD (iD [5]) (iR [5]) := ir_poly (by decide) (by decide +kernel) (by decide)
theorem pqU : PolyD (iD [1, 1]) (iR [1, 1]) := ir_poly (by decide) (by decide +kernel) (by decide)
theorem pqN : PolyD (iD []) (iR []) := ir_poly (by decide) (by decide +kernel) (by decide)
theorem pqC : PolyD [.int 0, .tuple [.int 1, .int 2]] qC1 := ⟨.cons (nmq_int (by decide)) (.cons half_nm .nil), by show strip qC1 = qC1; decide +kernel, by decide⟩
theorem szA : PSz 27720 (2 ^ 100) (iR pA1) := ir_sz (by decide)
theorem szB : PSz 27720 (2 ^ 100) (iR pB1) := ir_sz (by decide)
theorem szF : PSz 27720 (2 ^ 100) (iR [5]) := ir_sz (by decide)
theorem szU : PSz 27720 (2 ^ 100) (iR [1, 1]) := ir_sz (by decide)
theorem szN : PSz 27720 (2 ^ 100) (iR []) := ir_sz (by decide)
theorem szC : PSz 27720 (2 ^ 100) qC1 := .cons (.int (by decide)) (.cons half_sz .nil)
def oC (t b : Int) : PyData := .tuple [.int t, .int b]
section
variable {P : Program} {w : World} {K : PySem.W.Frag} {mg : Str → Option Value} {base : Heap} {f : Addr} {fd : FuncData}
abbrev sLaw : Stmt := top 55
theorem scLaw : FnScope ["_law_script", "_law_spot", "_law_told", "_law_dice_here"] ["_law_script"] (defScope sLaw) := ⟨rfl, rfl, rfl, by decide +kernel, rfl, by decide +kernel, by decide +kernel⟩
def spLaw (K : PySem.W.Frag) : Sp := fun vs H Q _ => ∃ (a : Addr) (ns : List Int), vs = [.ref a] ∧ SqL K H a (ns.map V.int) ∧ ns.length ≤ 63 ∧ ∀ H', Q (.bl true) H'
structure Defs (P : Program) (w : World) (K : PySem.W.Frag) (mg : Str → Option Value) (base : Heap) : Prop where
  psum : Dn P w K mg base 7 "poly_sum" rPSum
  ppro : Dn P w K mg base 7 "poly_product" rPPro
  pval : Dn P w K mg base 6 "poly_value" rPVal
  pder : Dn P w K mg base 6 "derived" rPDer
  right : Dn P w K mg base 8 "_law_right" rRgt
  judged : Dn P w K mg base 5 "_law_judged_right" rJdg
set_option maxHeartbeats 4000000 in
theorem law_rest (G : Defs P w K mg base) {cdv : Value} {A : Around} {outer : List Env} {s0 : Shared} {H0 : Hp} {E : XK}
    (C : Ctx (cxOf CX0 P w K mg base ["_law_script", "_law_spot", "_law_told", "_law_dice_here"] "law" (defScope sLaw) f cdv A outer s0 H0 E).nox 8 ["_law_script", "_law_spot", "_law_told", "_law_dice_here"]) (s : S) :
    SR (cxOf CX0 P w K mg base ["_law_script", "_law_spot", "_law_told", "_law_dice_here"] "law" (defScope sLaw) f cdv A outer s0 H0 E).nox z0 ((defBody sLaw).drop 1) [.un, .un, .un, .un] s (.rt (.bool true) s) := by
  have r : ∀ {k}, k ≤ 8 → Room k (cxOf CX0 P w K mg base ["_law_script", "_law_spot", "_law_told", "_law_dice_here"] "law" (defScope sLaw) f cdv A outer s0 H0 E).nox.A := fun h => C.hr.mono h
  have dAB : Duo (iD pA1) (iD pB1) (iR pA1) (iR pB1) 27720 (2 ^ 100) 27720 (2 ^ 100) := ⟨pqA, pqB, row_sm szA (by decide), row_sm szB (by decide)⟩
  have dAC : Duo (iD pA1) [.int 0, .tuple [.int 1, .int 2]] (iR pA1) qC1 27720 (2 ^ 100) 27720 (2 ^ 100) := ⟨pqA, pqC, row_sm szA (by decide), row_sm szC (by decide)⟩
  have dNN : Duo (iD []) (iD []) (iR []) (iR []) 27720 (2 ^ 100) 27720 (2 ^ 100) := ⟨pqN, pqN, row_sm szN (by decide), row_sm szN (by decide)⟩
  have dNU : Duo (iD []) (iD [1, 1]) (iR []) (iR [1, 1]) 27720 (2 ^ 100) 27720 (2 ^ 100) := ⟨pqN, pqU, row_sm szN (by decide), row_sm szU (by decide)⟩
  have eA : ∀ {z es}, EV (cxOf CX0 P w K mg base ["_law_script", "_law_spot", "_law_told", "_law_dice_here"] "law" (defScope sLaw) f cdv A outer s0 H0 E).nox z (match (defBody sLaw)[1]? with | some (Stmt.Assign _ (Expr.List (Expr.Call _ (e :: _) _ _ :: _) _) _) => e | _ => .Constant .none 0 ⟨0, 0, 0, 0⟩) es s (.tuple (iD pA1)) s := ev_tup (ed_cons (ev_neg ev_int) (ed_cons ev_int (ed_cons ev_int ed_nil)))
  refine sr_asg (d := .list [pD (strip (add (iR pA1) (iR pB1))), pD (strip (mul (iR pA1) qC1)), pD (der (iR pA1)), pD (der (iR [5])), pD (strip (add (iR []) (iR [])))]) (s1 := s) 2 C.nd (ev_lst
    (ed_cons (ev_call G.psum (r (by decide)) (ea_cons (ev_tup (ed_cons (ev_neg ev_int) (ed_cons ev_int (ed_cons ev_int ed_nil)))) (ea_cons (ev_tup (ed_cons ev_int (ed_cons (ev_neg ev_int) ed_nil))) ea_nil)) ⟨iD pA1, iD pB1, _, _, _, _, _, _, rfl, dAB, rfl, rfl⟩)
    (ed_cons (ev_call G.ppro (r (by decide)) (ea_cons (ev_tup (ed_cons (ev_neg ev_int) (ed_cons ev_int (ed_cons ev_int ed_nil)))) (ea_cons (ev_tup (ed_cons ev_int (ed_cons (ev_tup (ed_cons ev_int (ed_cons ev_int ed_nil))) ed_nil))) ea_nil)) ⟨iD pA1, _, _, _, _, _, _, _, rfl, dAC, by decide, rfl, rfl⟩)
    (ed_cons (ev_call G.pder (r (by decide)) (ea_cons (ev_tup (ed_cons (ev_neg ev_int) (ed_cons ev_int (ed_cons ev_int ed_nil)))) ea_nil) ⟨iD pA1, _, _, _, rfl, pqA, row_sm szA (by decide), rfl, rfl⟩)
    (ed_cons (ev_call G.pder (r (by decide)) (ea_cons (ev_tup (ed_cons ev_int ed_nil)) ea_nil) ⟨iD [5], _, _, _, rfl, pqF, row_sm szF (by decide), rfl, rfl⟩)
    (ed_cons (ev_call G.psum (r (by decide)) (ea_cons (ev_tup ed_nil) (ea_cons (ev_tup ed_nil) ea_nil)) ⟨iD [], iD [], _, _, _, _, _, _, rfl, dNN, rfl, rfl⟩) ed_nil)))))) ?_
  have ps : ∀ ps : List (List Rat), Pl (.list (ps.map pD)) := fun ps => (pq_lst (k := 2) fun d hd => by
    obtain ⟨p, _, rfl⟩ := List.mem_map.mp hd
    exact pq_pD).pl
  refine sr_ifF (ET.is (et_ne C.hu (d2 := .list [.tuple [oC 0 1, oC 0 1, oC 1 1], .tuple [oC 0 1, oC (-1) 1, oC 1 2, oC 1 2], .tuple [oC 1 1, oC 2 1], .tuple [], .tuple []]) (ps [strip (add (iR pA1) (iR pB1)), strip (mul (iR pA1) qC1), der (iR pA1), der (iR [5]), strip (add (iR []) (iR []))]) ⟨rfl, rfl⟩ (ev_var 2)
    (ev_lst (ed_cons (ev_tup (ed_cons (ev_tup (ed_cons ev_int (ed_cons ev_int ed_nil))) (ed_cons (ev_tup (ed_cons ev_int (ed_cons ev_int ed_nil))) (ed_cons (ev_tup (ed_cons ev_int (ed_cons ev_int ed_nil))) ed_nil)))) (ed_cons (ev_tup (ed_cons (ev_tup (ed_cons ev_int (ed_cons ev_int ed_nil))) (ed_cons (ev_tup (ed_cons (ev_neg ev_int) (ed_cons ev_int ed_nil))) (ed_cons (ev_tup (ed_cons ev_int (ed_cons ev_int ed_nil))) (ed_cons (ev_tup (ed_cons ev_int (ed_cons ev_int ed_nil))) ed_nil)))))
      (ed_cons (ev_tup (ed_cons (ev_tup (ed_cons ev_int (ed_cons ev_int ed_nil))) (ed_cons (ev_tup (ed_cons ev_int (ed_cons ev_int ed_nil))) ed_nil))) (ed_cons (ev_tup ed_nil) (ed_cons (ev_tup ed_nil) ed_nil))))))) (by decide +kernel)) ?_
  have aA : AtOk half1 (iR pA1) 27720 (2 ^ 100) 27720 (2 ^ 100) := atOk (m := 15) szA (by decide) half_sz (by decide) (Nat.le_refl _) (by decide) (by decide) (by decide)
  have aN : AtOk ((7 : Int) : Rat) (iR []) 27720 (2 ^ 100) 27720 (2 ^ 100) := atOk (m := 15) szN (by decide) (Sz.int (by decide)) (by decide) (Nat.le_refl _) (by decide) (by decide) (by decide)
  have pl3 : Pl (.list [cD (ev half1 (iR pA1)), cD (ev ((7 : Int) : Rat) (iR [])), pD (strip (mul (iR []) (iR [1, 1])))]) := (pq_lst (k := 2) fun d hd => by
    rcases List.mem_cons.mp hd with rfl | hd
    · exact ⟨pq_cD.1, pq_cD.2.1, Nat.le_trans pq_cD.2.2 (by decide)⟩
    · rcases List.mem_cons.mp hd with rfl | hd
      · exact ⟨pq_cD.1, pq_cD.2.1, Nat.le_trans pq_cD.2.2 (by decide)⟩
      · rcases List.mem_cons.mp hd with rfl | hd
        · exact pq_pD
        · cases hd).pl
  refine sr_ret (EV.is (ev_eq C.hu (d2 := .list [oC (-5) 4, oC 0 1, .tuple []]) pl3 ⟨rfl, rfl⟩ (ev_lst
    (ed_cons (ev_call G.pval (r (by decide)) (ea_cons (ev_tup (ed_cons (ev_neg ev_int) (ed_cons ev_int (ed_cons ev_int ed_nil)))) (ea_cons (ev_tup (ed_cons ev_int (ed_cons ev_int ed_nil))) ea_nil)) ⟨iD pA1, _, _, _, _, _, _, _, rfl, pqA, half_nm, aA, rfl, rfl⟩)
    (ed_cons (ev_call G.pval (r (by decide)) (ea_cons (ev_tup ed_nil) (ea_cons ev_int ea_nil)) ⟨iD [], _, _, _, _, _, _, _, rfl, pqN, nmq_int (by decide), aN, rfl, rfl⟩)
    (ed_cons (ev_call G.ppro (r (by decide)) (ea_cons (ev_tup ed_nil) (ea_cons (ev_tup (ed_cons ev_int (ed_cons ev_int ed_nil))) ea_nil)) ⟨iD [], iD [1, 1], _, _, _, _, _, _, rfl, dNU, by decide, rfl, rfl⟩) ed_nil))))
    (ev_lst (ed_cons (ev_tup (ed_cons (ev_neg ev_int) (ed_cons ev_int ed_nil))) (ed_cons (ev_tup (ed_cons ev_int (ed_cons ev_int ed_nil))) (ed_cons (ev_tup ed_nil) ed_nil))))) (congrArg PyData.bool (by decide +kernel)))
theorem ok_law (F : Fun K "law" "law" sLaw f fd) (T : Top mg) (T3 : Top3 mg) (G : Defs P w K mg base) {fD : Addr} {fdD : FuncData} (GD : FnOk P w K mg base CX0 1 fD fdD ["_law_script", "_law_spot"] (spDice K)) (mD : mg "_law_dice" = some (.ref fD)) (kD : PySem.W.keepIn K (.ref fD) = true) (bD : Binds K fdD ["_law_script", "_law_spot"] []) : FnOk P w K mg base CX0 9 f fd ["_law_script"] (spLaw K) := by
  refine F.ok scLaw (fun vs H Q E h => ?_) (fun cdv A outer s0 H0 vs Q E hr h => ?_)
  · obtain ⟨a, ns, rfl, _⟩ := h
    rfl
  · obtain ⟨a, ns, rfl, hS, hl, q⟩ := h
    have C : Ctx (cxOf CX0 P w K mg base ["_law_script", "_law_spot", "_law_told", "_law_dice_here"] "law" (defScope sLaw) f cdv A outer s0 H0 E).nox 8 ["_law_script", "_law_spot", "_law_told", "_law_dice_here"] := ⟨scLaw.nd, rfl, PassesOwn.never, hr, hr.units⟩
    refine ⟨_, pss_cons (ps_for PassesOwn.never rfl (pi_range1 rfl T.range (pa_cons (pe_callB (call_max2 rfl) (by rfl) T3.max (by decide +kernel) (pa_cons pe_int (pa_cons (pe_callB (call_min2 rfl) (by rfl) T3.min (by decide +kernel) (pa_cons pe_int (pa_cons (pe_callB call_len (by rfl) T.len (by decide +kernel) (pa_cons (pv 0) pa_nil)) pa_nil))) pa_nil))) pa_nil))
      (pg_name (i := 1) scLaw.nd rfl (Or.inl rfl)) (pss_cons (ps_set (i := 3) scLaw.nd rfl (.inl rfl) (pe_call GD (hr.mono (by decide)) (by rfl) mD kD bD .nil pass0 (pa_cons (pv 0) (pa_cons (pv 1) pa_nil)))) wB_ok)) wB_ok, ?_⟩
    refine ⟨.ref a, rfl, .ref a, _, rfl, .inl ⟨_, hS, rfl⟩, _, _, rfl, _, _, rfl, _, rfl, ?_, ?_, ?_⟩
    · rw [List.length_map]
      split <;> split <;> omega
    · rw [List.length_map]
      split <;> split <;> omega
    refine for_range (lo := 0) (fun i σ H => ∃ x1 x2 x3, σ = [some (.ref a), x1, x2, x3] ∧ SqL K H a (ns.map V.int)) ⟨_, _, _, rfl, hS⟩ (fun i σ H hi w => ?_) (fun σ H w => ?_)
    · obtain ⟨x1, x2, x3, rfl, hA⟩ := w
      refine ⟨.ref a, rfl, .int (0 + (i : Int)), rfl, a, i, ns, by rw [Int.zero_add]; rfl, hA, hl, fun s H1 p e1 hp => ?_⟩
      have inner : SR (cxOf CX0 P w K mg base ["_law_script", "_law_spot", "_law_told", "_law_dice_here"] "law" (defScope sLaw) f cdv A outer s0 H0 E).nox ⟨some p, []⟩ ((loopB (defBody sLaw)[0]?).drop 1) [.raw (.ref a), .un, .un, .dice] s (.nx [.raw (.ref a), .un, .un, .dice] (jdS (rtS (rtS (rtS s))))) := by
        refine sr_ifF (et_w (ew_orF (et_notF (et_val (ev_call G.right C.hr (ea_dice 3 ea_nil) ⟨rfl, rfl, rfl⟩))) (ew_orF (et_notF (et_val (ev_call G.right C.hr (ea_dice 3 ea_nil) ⟨rfl, rfl, rfl⟩))) (ew_orF (et_notF (et_val (ev_call G.right C.hr (ea_dice 3 ea_nil) ⟨rfl, rfl, rfl⟩))) (ew_or1 (et_notF (et_val (ev_call G.judged (C.hr.mono (by decide)) (ea_dice 3 ea_nil) ⟨rfl, rfl, rfl⟩)))))))) ?_
        exact sr_nil
      refine inner _ _ (.cons .raw (.cons .un (.cons .un (.cons (.dice rfl) .nil)))) ⟨fun b hb => ?_, fun p h => (by cases h), fun p h => (by cases h)⟩ _ fun σ' H' e2 a2 n2 => ?_
      · cases hb
        exact upd_same
      · have fz : ∀ o, H a = some o → Fz ⟨some p, []⟩ a ∧ upd H1 p (dv s) a = some o := fun o ho => by
          have h1 := e1 a o (fz0 a) ho
          have na := ne_of_none h1 hp
          exact ⟨⟨fun h => na (Option.some.inj h).symm, fun o h => (by cases h)⟩, by rw [upd_ne na]; exact h1⟩
        have hA3 : SqL K H' a (ns.map V.int) := by
          rcases hA with (h | ⟨o, h⟩) | h
          · exact .inl (.inl (e2 a _ (fz _ h).1 (fz _ h).2))
          · exact .inl (.inr ⟨o, e2 a _ (fz _ h).1 (fz _ h).2⟩)
          · exact .inr h
        cases n2 with
        | cons h1 n2 =>
          cases h1
          cases n2 with
          | cons h1 n2 =>
            cases n2 with
            | cons h1 n2 =>
              cases n2 with
              | cons h1 n2 =>
                cases n2
                exact ⟨_, _, _, rfl, hA3⟩
    · obtain ⟨x1, x2, x3, rfl, hA⟩ := w
      refine law_rest G C (0, 0, 0) _ H (.cons .un (.cons .un (.cons .un (.cons .un .nil)))) at0 _ fun v H' e a2 v2 => ?_
      cases v2
      exact q H'
end
end K8


set_option Elab.async false
set_option linter.all false
set_option maxRecDepth 100000
namespace K8
open PySem PySem.Spec PyProof.Rows L2 DL PM
/-- a def of the top: what stands under its name -/
def DefAt (K : PySem.W.Frag) (x : Str) (st : Stmt) : Prop := ∃ (f : Addr) (oc : Value) (od an : Option Addr) (sl : Array (Option Value)) (kV dc pm cd ct : Value), PySem.W.nsIn K mainGlobals x = some (some (.ref f)) ∧
  K.lookup f = some ⟨oc, od, .func (PySem.W.fnOf x x (defArgs st) (defBody st) (defScope st) .none kV dc pm an cd ct), sl⟩ ∧ PySem.W.codeIn K cd x = true ∧ PySem.W.keepIn K (.ref f) = true
theorem DefAt.mk' {K : PySem.W.Frag} {x : Str} {st : Stmt} {f : Addr} {oc : Value} {od an : Option Addr} {sl : Array (Option Value)} {kV dc pm cd ct : Value} (a : PySem.W.nsIn K mainGlobals x = some (some (.ref f)))
    (l : K.lookup f = some ⟨oc, od, .func (PySem.W.fnOf x x (defArgs st) (defBody st) (defScope st) .none kV dc pm an cd ct), sl⟩) (c : PySem.W.codeIn K cd x = true) (k : PySem.W.keepIn K (.ref f) = true) : DefAt K x st := ⟨f, oc, od, an, sl, kV, dc, pm, cd, ct, a, l, c, k⟩
theorem int_at {K : PySem.W.Frag} {x : Str} {i : Int} {t : Tok} (a : PySem.W.nsIn K mainGlobals x = some (some (.int i t))) : ∃ t, PySem.W.nsIn K mainGlobals x = some (some (.int i t)) := ⟨t, a⟩
theorem DefAt.fn {K : PySem.W.Frag} {h : Heap} {mg : Str → Option Value} {x : Str} {st : Stmt} (X : K.In h) (G : h.Ns mainGlobals mg) (D : DefAt K x st) : ∃ f fd, Fun K x x st f fd ∧ mg x = some (.ref f) := by
  obtain ⟨f, oc, od, an, sl, kV, dc, pm, cd, ct, a, l, c, k⟩ := D
  exact ⟨f, _, fun_mk l c k, PySem.W.mg_of X G a⟩

structure TopK (K : PySem.W.Frag) : Prop where
  d8 : DefAt K "is_whole" (top 8)
  d9 : DefAt K "is_integer" (top 9)
  d10 : DefAt K "is_fraction" (top 10)
  d11 : DefAt K "is_number" (top 11)
  d12 : DefAt K "need_number" (top 12)
  d13 : DefAt K "as_pair" (top 13)
  d14 : DefAt K "fraction" (top 14)
  d15 : DefAt K "raised" (top 15)
  d17 : DefAt K "whole_row" (top 17)
  d18 : DefAt K "fractions_of" (top 18)
  d19 : DefAt K "trimmed" (top 19)
  d20 : DefAt K "whole_sum" (top 20)
  d21 : DefAt K "whole_scaled" (top 21)
  d22 : DefAt K "whole_product" (top 22)
  d23 : DefAt K "whole_derived" (top 23)
  d24 : DefAt K "scaled_value" (top 24)
  d27 : DefAt K "is_poly" (top 27)
  d28 : DefAt K "_need_poly" (top 28)
  d29 : DefAt K "_need_polys" (top 29)
  d30 : DefAt K "_weighted_sum" (top 30)
  d31 : DefAt K "poly_sum" (top 31)
  d32 : DefAt K "poly_less" (top 32)
  d33 : DefAt K "poly_product" (top 33)
  d34 : DefAt K "poly_value" (top 34)
  d35 : DefAt K "derived" (top 35)
  d37 : DefAt K "_law_dice" (top 37)
  d38 : DefAt K "_law_roll" (top 38)
  d39 : DefAt K "_law_gcd" (top 39)
  d40 : DefAt K "_law_fraction" (top 40)
  d41 : DefAt K "_law_plus" (top 41)
  d42 : DefAt K "_law_times" (top 42)
  d43 : DefAt K "_law_less" (top 43)
  d44 : DefAt K "_law_py_made" (top 44)
  d45 : DefAt K "_law_py_pairs" (top 45)
  d46 : DefAt K "_law_py_sum" (top 46)
  d47 : DefAt K "_law_py_times" (top 47)
  d48 : DefAt K "_law_py_back" (top 48)
  d49 : DefAt K "_law_py_value" (top 49)
  d50 : DefAt K "_law_py_number" (top 50)
  d51 : DefAt K "_law_py_drawn" (top 51)
  d52 : DefAt K "_law_derived" (top 52)
  d53 : DefAt K "_law_right" (top 53)
  d54 : DefAt K "_law_judged_right" (top 54)
  d55 : DefAt K "law" (top 55)
  n_isinstance : PySem.W.nsIn K mainGlobals "isinstance" = some none
  n_int : PySem.W.nsIn K mainGlobals "int" = some none
  n_bool : PySem.W.nsIn K mainGlobals "bool" = some none
  n_str : PySem.W.nsIn K mainGlobals "str" = some none
  n_tuple : PySem.W.nsIn K mainGlobals "tuple" = some none
  n_len : PySem.W.nsIn K mainGlobals "len" = some none
  n_abs : PySem.W.nsIn K mainGlobals "abs" = some none
  n_range : PySem.W.nsIn K mainGlobals "range" = some none
  n_all : PySem.W.nsIn K mainGlobals "all" = some none
  n_min : PySem.W.nsIn K mainGlobals "min" = some none
  n_max : PySem.W.nsIn K mainGlobals "max" = some none
  n_zip : PySem.W.nsIn K mainGlobals "zip" = some none
  n_enumerate : PySem.W.nsIn K mainGlobals "enumerate" = some none
  n_list : PySem.W.nsIn K mainGlobals "list" = some none
  c_long : ∃ t, PySem.W.nsIn K mainGlobals "_TOO_LONG" = some (some (.int 1000000000000000000000000000000000000000000000000000000000000 t))
  c_deg : ∃ t, PySem.W.nsIn K mainGlobals "MAX_DEGREE" = some (some (.int 40 t))
  b_gcd : PySem.W.nsIn K mainGlobals "gcd" = some (some (.builtin "math.gcd"))
  b_lcm : PySem.W.nsIn K mainGlobals "lcm" = some (some (.builtin "math.lcm"))
set_option maxHeartbeats 0 in
theorem all_mk {l : PySem.W.OpenLaw} {w : World} {K : PySem.W.Frag} {h : Heap} {mg : Str → Option Value} {fa : Addr} (X : K.In h) (G : h.Ns mainGlobals mg) (hfa : mg "law" = some (.ref fa)) (Z : TopK K) :
    ∃ fd : FuncData, (∀ (s : Shared) (v : Value), BindsTo s fd ⟨[v], []⟩ [("_law_script", v)]) ∧ ∀ base : Heap, K.In base → base.Ns mainGlobals mg → FnOk l.prog w K mg base CX0 9 fa fd ["_law_script"] (spLaw K) := by
  have T : Top mg := ⟨PySem.W.mg_none_of X G Z.n_isinstance, PySem.W.mg_none_of X G Z.n_int, PySem.W.mg_none_of X G Z.n_bool, PySem.W.mg_none_of X G Z.n_str, PySem.W.mg_none_of X G Z.n_tuple, PySem.W.mg_none_of X G Z.n_len, PySem.W.mg_none_of X G Z.n_abs, PySem.W.mg_none_of X G Z.n_range, PySem.W.mg_none_of X G Z.n_all,
    (let ⟨t, h⟩ := Z.c_long; ⟨t, PySem.W.mg_of X G h⟩), PySem.W.mg_of X G Z.b_gcd⟩
  have T3 : Top3 mg := ⟨PySem.W.mg_none_of X G Z.n_min, PySem.W.mg_none_of X G Z.n_max⟩
  have T8 : Top8 mg := ⟨PySem.W.mg_none_of X G Z.n_max, PySem.W.mg_none_of X G Z.n_zip, PySem.W.mg_none_of X G Z.n_enumerate, PySem.W.mg_none_of X G Z.n_list, PySem.W.mg_of X G Z.b_lcm, (let ⟨t, h⟩ := Z.c_deg; ⟨t, PySem.W.mg_of X G h⟩)⟩
  obtain ⟨f8, fd8, F8, m8⟩ := Z.d8.fn X G
  have b8 := F8.binds (ps := ["value"]) fun _ _ _ _ _ _ us hl => match us, hl with | [_], _ => rfl
  obtain ⟨f9, fd9, F9, m9⟩ := Z.d9.fn X G
  have b9 := F9.binds (ps := ["value"]) fun _ _ _ _ _ _ us hl => match us, hl with | [_], _ => rfl
  obtain ⟨f10, fd10, F10, m10⟩ := Z.d10.fn X G
  have b10 := F10.binds (ps := ["value"]) fun _ _ _ _ _ _ us hl => match us, hl with | [_], _ => rfl
  obtain ⟨f11, fd11, F11, m11⟩ := Z.d11.fn X G
  have b11 := F11.binds (ps := ["value"]) fun _ _ _ _ _ _ us hl => match us, hl with | [_], _ => rfl
  obtain ⟨f12, fd12, F12, m12⟩ := Z.d12.fn X G
  have b12 := F12.binds (ps := ["value"]) fun _ _ _ _ _ _ us hl => match us, hl with | [_], _ => rfl
  obtain ⟨f13, fd13, F13, m13⟩ := Z.d13.fn X G
  have b13 := F13.binds (ps := ["number"]) fun _ _ _ _ _ _ us hl => match us, hl with | [_], _ => rfl
  obtain ⟨f14, fd14, F14, m14⟩ := Z.d14.fn X G
  have b14 := F14.binds (ps := ["top", "bottom"]) fun _ _ _ _ _ _ us hl => match us, hl with | [_, _], _ => rfl
  obtain ⟨f15, fd15, F15, m15⟩ := Z.d15.fn X G
  have b15 := F15.binds (ps := ["whole", "many"]) fun _ _ _ _ _ _ us hl => match us, hl with | [_, _], _ => rfl
  obtain ⟨f17, fd17, F17, m17⟩ := Z.d17.fn X G
  have b17 := F17.binds (ps := ["row"]) fun _ _ _ _ _ _ us hl => match us, hl with | [_], _ => rfl
  obtain ⟨f18, fd18, F18, m18⟩ := Z.d18.fn X G
  have b18 := F18.binds (ps := ["wholes", "bottom"]) fun _ _ _ _ _ _ us hl => match us, hl with | [_, _], _ => rfl
  obtain ⟨f19, fd19, F19, m19⟩ := Z.d19.fn X G
  have b19 := F19.binds (ps := ["wholes"]) fun _ _ _ _ _ _ us hl => match us, hl with | [_], _ => rfl
  obtain ⟨f20, fd20, F20, m20⟩ := Z.d20.fn X G
  have b20 := F20.binds (ps := ["one", "other"]) fun _ _ _ _ _ _ us hl => match us, hl with | [_, _], _ => rfl
  obtain ⟨f21, fd21, F21, m21⟩ := Z.d21.fn X G
  have b21 := F21.binds (ps := ["wholes", "factor"]) fun _ _ _ _ _ _ us hl => match us, hl with | [_, _], _ => rfl
  obtain ⟨f22, fd22, F22, m22⟩ := Z.d22.fn X G
  have b22 := F22.binds (ps := ["one", "other"]) fun _ _ _ _ _ _ us hl => match us, hl with | [_, _], _ => rfl
  obtain ⟨f23, fd23, F23, m23⟩ := Z.d23.fn X G
  have b23 := F23.binds (ps := ["wholes"]) fun _ _ _ _ _ _ us hl => match us, hl with | [_], _ => rfl
  obtain ⟨f24, fd24, F24, m24⟩ := Z.d24.fn X G
  have b24 := F24.binds (ps := ["wholes", "top", "bottom"]) fun _ _ _ _ _ _ us hl => match us, hl with | [_, _, _], _ => rfl
  obtain ⟨f27, fd27, F27, m27⟩ := Z.d27.fn X G
  have b27 := F27.binds (ps := ["value"]) fun _ _ _ _ _ _ us hl => match us, hl with | [_], _ => rfl
  obtain ⟨f28, fd28, F28, m28⟩ := Z.d28.fn X G
  have b28 := F28.binds (ps := ["value"]) fun _ _ _ _ _ _ us hl => match us, hl with | [_], _ => rfl
  obtain ⟨f29, fd29, F29, m29⟩ := Z.d29.fn X G
  have b29 := F29.binds (ps := ["one", "other"]) fun _ _ _ _ _ _ us hl => match us, hl with | [_, _], _ => rfl
  obtain ⟨f30, fd30, F30, m30⟩ := Z.d30.fn X G
  have b30 := F30.binds (ps := ["one", "other", "weight"]) fun _ _ _ _ _ _ us hl => match us, hl with | [_, _, _], _ => rfl
  obtain ⟨f31, fd31, F31, m31⟩ := Z.d31.fn X G
  have b31 := F31.binds (ps := ["one", "other"]) fun _ _ _ _ _ _ us hl => match us, hl with | [_, _], _ => rfl
  obtain ⟨f32, fd32, F32, m32⟩ := Z.d32.fn X G
  have b32 := F32.binds (ps := ["one", "other"]) fun _ _ _ _ _ _ us hl => match us, hl with | [_, _], _ => rfl
  obtain ⟨f33, fd33, F33, m33⟩ := Z.d33.fn X G
  have b33 := F33.binds (ps := ["one", "other"]) fun _ _ _ _ _ _ us hl => match us, hl with | [_, _], _ => rfl
  obtain ⟨f34, fd34, F34, m34⟩ := Z.d34.fn X G
  have b34 := F34.binds (ps := ["poly", "number"]) fun _ _ _ _ _ _ us hl => match us, hl with | [_, _], _ => rfl
  obtain ⟨f35, fd35, F35, m35⟩ := Z.d35.fn X G
  have b35 := F35.binds (ps := ["poly"]) fun _ _ _ _ _ _ us hl => match us, hl with | [_], _ => rfl
  obtain ⟨f37, fd37, F37, m37⟩ := Z.d37.fn X G
  have b37 := F37.binds (ps := ["_law_script", "_law_spot"]) fun _ _ _ _ _ _ us hl => match us, hl with | [_, _], _ => rfl
  obtain ⟨f38, fd38, F38, m38⟩ := Z.d38.fn X G
  have b38 := F38.binds (ps := ["_law_dice_here", "_law_total"]) fun _ _ _ _ _ _ us hl => match us, hl with | [_, _], _ => rfl
  obtain ⟨f39, fd39, F39, m39⟩ := Z.d39.fn X G
  have b39 := F39.binds (ps := ["_law_one", "_law_other"]) fun _ _ _ _ _ _ us hl => match us, hl with | [_, _], _ => rfl
  obtain ⟨f40, fd40, F40, m40⟩ := Z.d40.fn X G
  have b40 := F40.binds (ps := ["_law_top", "_law_bottom"]) fun _ _ _ _ _ _ us hl => match us, hl with | [_, _], _ => rfl
  obtain ⟨f41, fd41, F41, m41⟩ := Z.d41.fn X G
  have b41 := F41.binds (ps := ["_law_one", "_law_other"]) fun _ _ _ _ _ _ us hl => match us, hl with | [_, _], _ => rfl
  obtain ⟨f42, fd42, F42, m42⟩ := Z.d42.fn X G
  have b42 := F42.binds (ps := ["_law_one", "_law_other"]) fun _ _ _ _ _ _ us hl => match us, hl with | [_, _], _ => rfl
  obtain ⟨f43, fd43, F43, m43⟩ := Z.d43.fn X G
  have b43 := F43.binds (ps := ["_law_one", "_law_other"]) fun _ _ _ _ _ _ us hl => match us, hl with | [_, _], _ => rfl
  obtain ⟨f44, fd44, F44, m44⟩ := Z.d44.fn X G
  have b44 := F44.binds (ps := ["_law_entries"]) fun _ _ _ _ _ _ us hl => match us, hl with | [_], _ => rfl
  obtain ⟨f45, fd45, F45, m45⟩ := Z.d45.fn X G
  have b45 := F45.binds (ps := ["_law_poly"]) fun _ _ _ _ _ _ us hl => match us, hl with | [_], _ => rfl
  obtain ⟨f46, fd46, F46, m46⟩ := Z.d46.fn X G
  have b46 := F46.binds (ps := ["_law_one", "_law_other"]) fun _ _ _ _ _ _ us hl => match us, hl with | [_, _], _ => rfl
  obtain ⟨f47, fd47, F47, m47⟩ := Z.d47.fn X G
  have b47 := F47.binds (ps := ["_law_one", "_law_other"]) fun _ _ _ _ _ _ us hl => match us, hl with | [_, _], _ => rfl
  obtain ⟨f48, fd48, F48, m48⟩ := Z.d48.fn X G
  have b48 := F48.binds (ps := ["_law_poly"]) fun _ _ _ _ _ _ us hl => match us, hl with | [_], _ => rfl
  obtain ⟨f49, fd49, F49, m49⟩ := Z.d49.fn X G
  have b49 := F49.binds (ps := ["_law_poly", "_law_number"]) fun _ _ _ _ _ _ us hl => match us, hl with | [_, _], _ => rfl
  obtain ⟨f50, fd50, F50, m50⟩ := Z.d50.fn X G
  have b50 := F50.binds (ps := ["_law_dice_here"]) fun _ _ _ _ _ _ us hl => match us, hl with | [_], _ => rfl
  obtain ⟨f51, fd51, F51, m51⟩ := Z.d51.fn X G
  have b51 := F51.binds (ps := ["_law_dice_here", "_law_most"]) fun _ _ _ _ _ _ us hl => match us, hl with | [_, _], _ => rfl
  obtain ⟨f52, fd52, F52, m52⟩ := Z.d52.fn X G
  have b52 := F52.binds (ps := ["_law_poly"]) fun _ _ _ _ _ _ us hl => match us, hl with | [_], _ => rfl
  obtain ⟨f53, fd53, F53, m53⟩ := Z.d53.fn X G
  have b53 := F53.binds (ps := ["_law_dice_here"]) fun _ _ _ _ _ _ us hl => match us, hl with | [_], _ => rfl
  obtain ⟨f54, fd54, F54, m54⟩ := Z.d54.fn X G
  have b54 := F54.binds (ps := ["_law_dice_here"]) fun _ _ _ _ _ _ us hl => match us, hl with | [_], _ => rfl
  obtain ⟨fl, oc, od, an, sl, kV, dc, pm, cd, ct, a, lk, c, k⟩ := Z.d55
  have e := hfa.symm.trans (PySem.W.mg_of X G a)
  cases e
  have FL := fun_mk (st := top 55) lk c k
  refine ⟨PySem.W.fnOf "law" "law" (defArgs (top 55)) (defBody (top 55)) (defScope (top 55)) .none kV dc pm an cd ct, fun s v => .of_eq rfl, fun base _ _ => ?_⟩
  have G8 : Dn l.prog w K mg base 1 "is_whole" rWhole := dn_of F8 (ok_whole F8 T) m8 b8
  have G9 : Dn l.prog w K mg base 2 "is_integer" rInteger := dn_of F9 (ok_integer F9 T G8) m9 b9
  have G10 : Dn l.prog w K mg base 2 "is_fraction" rFrac := dn_of F10 (ok_frac F10 T G8) m10 b10
  have G11 : Dn l.prog w K mg base 3 "is_number" rNumber := dn_of F11 (ok_number F11 G9 G10) m11 b11
  have G12 : Dn l.prog w K mg base 4 "need_number" rNeed := dn_of F12 (ok_need F12 G11) m12 b12
  have G13 : Dn l.prog w K mg base 1 "as_pair" rPair := dn_of F13 (ok_pair F13 T) m13 b13
  have G14 : Dn l.prog w K mg base 2 "fraction" rQuot := dn_of F14 (ok_quot F14 T G8) m14 b14
  have G15 : Dn l.prog w K mg base 1 "raised" rRaised := dn_of F15 (ok_raised F15) m15 b15
  have G17 : Dn l.prog w K mg base 2 "whole_row" rWRow := dn_of F17 (ok_wrow F17 T T8 G13) m17 b17
  have G18 : Dn l.prog w K mg base 3 "fractions_of" rFOf := dn_of F18 (ok_fof F18 T G14) m18 b18
  have G19 : Dn l.prog w K mg base 1 "trimmed" rTrim := dn_of F19 (ok_trim F19 T) m19 b19
  have G20 : Dn l.prog w K mg base 2 "whole_sum" rWSum := dn_of F20 (ok_wsum F20 T T8 G19) m20 b20
  have G21 : Dn l.prog w K mg base 2 "whole_scaled" rWSca := dn_of F21 (ok_wsca F21 G19) m21 b21
  have G22 : Dn l.prog w K mg base 2 "whole_product" rWPro := dn_of F22 (ok_wpro F22 T T8 G19) m22 b22
  have G23 : Dn l.prog w K mg base 1 "whole_derived" rWDer := dn_of F23 (ok_wder F23 T8) m23 b23
  have G24 : Dn l.prog w K mg base 1 "scaled_value" rSVal := dn_of F24 (ok_sval F24) m24 b24
  have G27 : Dn l.prog w K mg base 4 "is_poly" rIsP := dn_of F27 (ok_isp F27 T T8 G11 G13) m27 b27
  have G28 : Dn l.prog w K mg base 5 "_need_poly" rNP := dn_of F28 (ok_np F28 G27) m28 b28
  have G29 : Dn l.prog w K mg base 6 "_need_polys" rNPs := dn_of F29 (ok_nps F29 G28) m29 b29
  have G30 : Dn l.prog w K mg base 4 "_weighted_sum" rWei := dn_of F30 (ok_wei F30 G17 G20 G21 G18) m30 b30
  have G31 : Dn l.prog w K mg base 7 "poly_sum" rPSum := dn_of F31 (ok_psum F31 G29 G30) m31 b31
  have G32 : Dn l.prog w K mg base 7 "poly_less" rPLes := dn_of F32 (ok_ples F32 G29 G30) m32 b32
  have G33 : Dn l.prog w K mg base 7 "poly_product" rPPro := dn_of F33 (ok_ppro F33 T T8 G29 G17 G22 G18) m33 b33
  have G34 : Dn l.prog w K mg base 6 "poly_value" rPVal := dn_of F34 (ok_pval F34 T T8 G28 G12 G13 G17 G14 G24 G15) m34 b34
  have G35 : Dn l.prog w K mg base 6 "derived" rPDer := dn_of F35 (ok_pder F35 G28 G17 G23 G18) m35 b35
  have G37 : FnOk l.prog w K mg base CX0 1 f37 fd37 ["_law_script", "_law_spot"] (spDice K) := ok_dice F37 T T3
  have G38 : Dn l.prog w K mg base 1 "_law_roll" rRoll := dn_of F38 (ok_roll F38 T) m38 b38
  have G39 : Dn l.prog w K mg base 1 "_law_gcd" rGcd' := dn_of F39 (ok_gcd F39 T) m39 b39
  have G40 : Dn l.prog w K mg base 2 "_law_fraction" rQuot := dn_of F40 (ok_lfr F40 G39) m40 b40
  have G41 : Dn l.prog w K mg base 3 "_law_plus" rPlus := dn_of F41 (ok_plus F41 G40) m41 b41
  have G42 : Dn l.prog w K mg base 3 "_law_times" rTimes := dn_of F42 (ok_times F42 G40) m42 b42
  have G43 : Dn l.prog w K mg base 4 "_law_less" rLessL := dn_of F43 (ok_lessL F43 G41) m43 b43
  have G44 : Dn l.prog w K mg base 1 "_law_py_made" rMade := dn_of F44 (ok_made F44 T T8) m44 b44
  have G45 : Dn l.prog w K mg base 1 "_law_py_pairs" rPrs := dn_of F45 (ok_prs F45 T) m45 b45
  have G46 : Dn l.prog w K mg base 4 "_law_py_sum" rLSum := dn_of F46 (ok_lsum F46 T T8 G41 G44) m46 b46
  have G47 : Dn l.prog w K mg base 4 "_law_py_times" rLTim := dn_of F47 (ok_ltim F47 T T8 G41 G42 G44) m47 b47
  have G48 : Dn l.prog w K mg base 1 "_law_py_back" rLBck := dn_of F48 (ok_lbck F48 T) m48 b48
  have G49 : Dn l.prog w K mg base 4 "_law_py_value" rLVal := dn_of F49 (ok_lval F49 G41 G42) m49 b49
  have G50 : Dn l.prog w K mg base 3 "_law_py_number" rNum := dn_of F50 (ok_lnum F50 G38 G40) m50 b50
  have G51 : Dn l.prog w K mg base 4 "_law_py_drawn" rDrw := dn_of F51 (ok_ldrw F51 T T8 G38 G50) m51 b51
  have G52 : Dn l.prog w K mg base 4 "_law_derived" rLDer := dn_of F52 (ok_lder F52 T8 G42 G44) m52 b52
  have GS : Gs l.prog w K mg base := ⟨G51, G45, G31, G32, G33, G34, G35, G27, G46, G47, G48, G49, G52, G50, G41, G42, G43⟩
  have G53 : Dn l.prog w K mg base 8 "_law_right" rRgt := dn_of F53 (ok_right F53 T GS) m53 b53
  have G54 : Dn l.prog w K mg base 5 "_law_judged_right" rJdg := dn_of F54 (ok_judged F54 T T8 G51 G38 G45 G27) m54 b54
  exact ok_law FL T T3 ⟨G31, G33, G34, G35, G53, G54⟩ G37 m37 F37.kp b37
theorem walk {l : PySem.W.OpenLaw} {q : Program} {loose : List Str} {XP : (Str → Option Value) → Heap → Prop} {YP : World → Heap → Prop} {d : DefRec} {K : Params → PySem.W.Frag} (hn : l.most = some 63) (hdf : d.params.defaults = []) (hd : d.name = "law")
    (hY : ∀ (w : World) (h : Heap), YP w h → (K w.params).In h) (Z : ∀ p, TopK (K p)) : PySem.W.WalkO q loose XP YP l.row.toRowW d [] (fun f vs => PySem.call f vs) :=
  L2.walk_ofK (n := 63) (k := 9) (x := "_law_script") (CX := CX0) (sp := spLaw) hn (by decide) hdf ⟨rfl, by decide, by decide⟩ hY
    (fun w mg fa h X G m => all_mk X G (by rw [← hd]; exact m) (Z w.params)) (fun _ _ a ns hl _ hS => ⟨a, ns, rfl, hS, hl, fun _ => rfl⟩) fun _ _ _ _ z => z
end K8
open PySem PySem.W PyProof.Rows
local macro_rules | `(tactic| walk_at "defat") => `(tactic| (refine' K8.DefAt.mk' ?a ?l ?c ?k; (case a => k_is); (case l => k_is); (case c => k_is); (case k => k_is)))
local macro_rules | `(tactic| walk_at "intat") => `(tactic| (refine' K8.int_at ?a; (case a => k_is)))
set_option maxRecDepth 100000 in
set_option maxHeartbeats 0 in
theorem PySem.Challenge.cw_thirdcounts_k08_whole_sums_and_products_holds : PySem.Challenge.rw_thirdcounts_k08_whole_sums_and_products.Holds := by
  w_on; o_law; k_head; (case hw => w_witness2)
  k_fill
  refine K8.walk (l := PySem.Challenge.rw_thirdcounts_k08_whole_sums_and_products) rfl rfl rfl (fun w h Y => PySem.W.kIn_of Y) ?Z
  case Z =>
    intro p
    constructor
    case d8 => walk_at "defat"
    case d9 => walk_at "defat"
    case d10 => walk_at "defat"
    case d11 => walk_at "defat"
    case d12 => walk_at "defat"
    case d13 => walk_at "defat"
    case d14 => walk_at "defat"
    case d15 => walk_at "defat"
    case d17 => walk_at "defat"
    case d18 => walk_at "defat"
    case d19 => walk_at "defat"
    case d20 => walk_at "defat"
    case d21 => walk_at "defat"
    case d22 => walk_at "defat"
    case d23 => walk_at "defat"
    case d24 => walk_at "defat"
    case d27 => walk_at "defat"
    case d28 => walk_at "defat"
    case d29 => walk_at "defat"
    case d30 => walk_at "defat"
    case d31 => walk_at "defat"
    case d32 => walk_at "defat"
    case d33 => walk_at "defat"
    case d34 => walk_at "defat"
    case d35 => walk_at "defat"
    case d37 => walk_at "defat"
    case d38 => walk_at "defat"
    case d39 => walk_at "defat"
    case d40 => walk_at "defat"
    case d41 => walk_at "defat"
    case d42 => walk_at "defat"
    case d43 => walk_at "defat"
    case d44 => walk_at "defat"
    case d45 => walk_at "defat"
    case d46 => walk_at "defat"
    case d47 => walk_at "defat"
    case d48 => walk_at "defat"
    case d49 => walk_at "defat"
    case d50 => walk_at "defat"
    case d51 => walk_at "defat"
    case d52 => walk_at "defat"
    case d53 => walk_at "defat"
    case d54 => walk_at "defat"
    case d55 => walk_at "defat"
    case n_isinstance => k_is
    case n_int => k_is
    case n_bool => k_is
    case n_str => k_is
    case n_tuple => k_is
    case n_len => k_is
    case n_abs => k_is
    case n_range => k_is
    case n_all => k_is
    case n_min => k_is
    case n_max => k_is
    case n_zip => k_is
    case n_enumerate => k_is
    case n_list => k_is
    case c_long => walk_at "intat"
    case c_deg => walk_at "intat"
    case b_gcd => k_is
    case b_lcm => k_is

