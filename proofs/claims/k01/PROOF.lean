import PyProof.Rows.All
import Wide.All
import OpenK.AllK
import Wide.FinOn
import HandS.ForMost
import HandS.IsInst
import HandS.Gcd
import HandS.Wide
import HandS.FStr
import HandS.StrMore
import Flt.RightSqrt
import HandS.Walk
import PySem.Challenge.RW_thirdcounts_k01_whole_numbers_reckoned
set_option Elab.async false
set_option linter.all false
set_option maxRecDepth 100000
/-! A data layer over the hand layer: what expressions, statements and defs do to plain data (PyData), and to one list of three ints that is written in place. -/
namespace DL
open PySem PySem.Spec PyProof.Rows L2

/-! ### 1. states, heaps, data -/
abbrev S := Int × Int × Int
def dv (s : S) : HO := .lst [.int s.1, .int s.2.1, .int s.2.2]
/-- the state's list, and lists that are being filled: what they hold stands still meanwhile -/
structure Z where
  dice : Option Addr
  vol : List (Addr × HO)
/-- not one of these -/
def Fz (z : Z) (a : Addr) : Prop := z.dice ≠ some a ∧ ∀ o, (a, o) ∉ z.vol
structure At (z : Z) (H : Hp) (s : S) : Prop where
  d : ∀ a, z.dice = some a → H a = some (dv s)
  v : ∀ p ∈ z.vol, H p.1 = some p.2
  n : ∀ p ∈ z.vol, z.dice ≠ some p.1
def Ez (z : Z) (H H' : Hp) : Prop := ∀ a o, Fz z a → H a = some o → H' a = some o
theorem Ez.refl {z : Z} (H : Hp) : Ez z H H := fun _ _ _ h => h
theorem Ez.trans {z : Z} {H H1 H2 : Hp} (a : Ez z H H1) (b : Ez z H1 H2) : Ez z H H2 := fun x o n h => b x o n (a x o n h)
theorem Ez.new {z : Z} {H : Hp} {p : Addr} {o : HO} (h : H p = none) : Ez z H (upd H p o) := fun a u _ e => by
  rw [upd_ne (ne_of_none e h)]
  exact e
theorem At.new {z : Z} {H : Hp} {p : Addr} {o : HO} {s : S} (A : At z H s) (h : H p = none) : At z (upd H p o) s := by
  refine ⟨fun a e => ?_, fun q hq => ?_, A.n⟩
  · rw [upd_ne (ne_of_none (A.d a e) h)]
    exact A.d a e
  · rw [upd_ne (ne_of_none (A.v q hq) h)]
    exact A.v q hq
theorem At.fresh {z : Z} {H : Hp} {p : Addr} {s : S} (A : At z H s) (h : H p = none) : Fz z p := by
  refine ⟨fun e => ?_, fun o ho => ?_⟩
  · have := A.d p e
    rw [this] at h
    cases h
  · have : H p = some o := A.v _ ho
    rw [this] at h
    cases h
theorem At.set {z : Z} {a : Addr} {H : Hp} {s s' : S} (A : At z H s') (e : z.dice = some a) : At z (upd H a (dv s)) s := by
  refine ⟨fun b e2 => ?_, fun q hq => ?_, A.n⟩
  · rw [e] at e2
    cases e2
    exact upd_same
  · have := A.n q hq
    rw [upd_ne (fun h => this (by rw [e, h]))]
    exact A.v q hq
theorem Ez.set {z : Z} {a : Addr} {H : Hp} {o : HO} (h : z.dice = some a) : Ez z H (upd H a o) := fun b u n e => by
  rw [upd_ne (fun q => n.1 (by rw [h, q]))]
  exact e

mutual
inductive Da (z : Z) (H : Hp) : V → PyData → Prop
  | non : Da z H .non .none
  | bl (b : Bool) : Da z H (.bl b) (.bool b)
  | int (i : Int) : Da z H (.int i) (.int i)
  | str (x : Str) : Da z H (.str x) (.str x)
  | dct {a : Addr} : Fz z a → H a = some (.dK []) → Da z H (.ref a) (.dict [])
  | lst {a : Addr} {xs : List V} {ds : List PyData} : Fz z a → H a = some (.lst xs) → DaAll z H xs ds → Da z H (.ref a) (.list ds)
  | tup {a : Addr} {xs : List V} {ds : List PyData} : Fz z a → H a = some (.tup xs) → DaAll z H xs ds → Da z H (.ref a) (.tuple ds)
inductive DaAll (z : Z) (H : Hp) : List V → List PyData → Prop
  | nil : DaAll z H [] []
  | cons {v : V} {vs : List V} {d : PyData} {ds : List PyData} : Da z H v d → DaAll z H vs ds → DaAll z H (v :: vs) (d :: ds)
end
mutual
theorem Da.mono {z : Z} {H H' : Hp} (e : Ez z H H') : ∀ {v : V} {d : PyData}, Da z H v d → Da z H' v d
  | _, _, .non => .non
  | _, _, .bl b => .bl b
  | _, _, .int i => .int i
  | _, _, .str x => .str x
  | _, _, .dct n h => .dct n (e _ _ n h)
  | _, _, .lst n h r => .lst n (e _ _ n h) (DaAll.mono e r)
  | _, _, .tup n h r => .tup n (e _ _ n h) (DaAll.mono e r)
theorem DaAll.mono {z : Z} {H H' : Hp} (e : Ez z H H') : ∀ {vs : List V} {ds : List PyData}, DaAll z H vs ds → DaAll z H' vs ds
  | _, _, .nil => .nil
  | _, _, .cons h r => .cons (Da.mono e h) (DaAll.mono e r)
end
mutual
/-- no dict within -/
def nod : PyData → Bool
  | .none => true
  | .bool _ => true
  | .int _ => true
  | .str _ => true
  | .list xs => nodAll xs
  | .tuple xs => nodAll xs
  | .dict _ => false
def nodAll : List PyData → Bool
  | [] => true
  | x :: xs => nod x && nodAll xs
end
mutual
theorem Da.dp {K : PySem.W.Frag} {z : Z} {H : Hp} : ∀ {v : V} {d : PyData}, Da z H v d → nod d = true → Dp K H v d
  | _, _, .non, _ => .non
  | _, _, .bl b, _ => .bl b
  | _, _, .int i, _ => .int i
  | _, _, .str x, _ => .str x
  | _, _, .dct n h, q => by simp [nod] at q
  | _, _, .lst n h r, q => .lst (.inl (.inl h)) (DaAll.dp r (by simpa [nod] using q))
  | _, _, .tup n h r, q => .tup (.inl (.inl h)) (DaAll.dp r (by simpa [nod] using q))
theorem DaAll.dp {K : PySem.W.Frag} {z : Z} {H : Hp} : ∀ {vs : List V} {ds : List PyData}, DaAll z H vs ds → nodAll ds = true → DpAll K H vs ds
  | _, _, .nil, _ => .nil
  | _, _, .cons h r, q => by
    simp only [nodAll, Bool.and_eq_true] at q
    exact .cons (Da.dp h q.1) (DaAll.dp r q.2)
end
theorem DaAll.length {z : Z} {H : Hp} : ∀ {vs : List V} {ds : List PyData}, DaAll z H vs ds → vs.length = ds.length
  | _, _, .nil => rfl
  | _, _, .cons _ r => by rw [List.length_cons, List.length_cons, DaAll.length r]
theorem DaAll.get {z : Z} {H : Hp} : ∀ {vs : List V} {ds : List PyData}, DaAll z H vs ds → ∀ (i : Nat) (d : PyData), ds[i]? = some d → ∃ v, vs[i]? = some v ∧ Da z H v d
  | _, _, .nil, i, d, h => by simp at h
  | _, _, .cons h r, 0, d, e => by
    cases Option.some.inj e
    exact ⟨_, rfl, h⟩
  | _, _, .cons h r, i + 1, d, e => DaAll.get r i d e
theorem DaAll.getV {z : Z} {H : Hp} : ∀ {vs : List V} {ds : List PyData}, DaAll z H vs ds → ∀ (i : Nat) (v : V), vs[i]? = some v → ∃ d, ds[i]? = some d ∧ Da z H v d
  | _, _, .nil, i, d, h => by simp at h
  | _, _, .cons h r, 0, d, e => by
    cases Option.some.inj e
    exact ⟨_, rfl, h⟩
  | _, _, .cons h r, i + 1, d, e => DaAll.getV r i d e
theorem DaAll.app {z : Z} {H : Hp} : ∀ {vs : List V} {ds : List PyData} {us : List V} {es : List PyData}, DaAll z H vs ds → DaAll z H us es → DaAll z H (vs ++ us) (ds ++ es)
  | _, _, _, _, .nil, q => q
  | _, _, _, _, .cons h r, q => .cons h (DaAll.app r q)

/-! ### slots -/
inductive Sl | un | val (d : PyData) | dice | raw (v : V)
inductive SlR (z : Z) (H : Hp) : Option V → Sl → Prop
  | un {x : Option V} : SlR z H x .un
  | val {v : V} {d : PyData} : Da z H v d → SlR z H (some v) (.val d)
  | dice {a : Addr} : z.dice = some a → SlR z H (some (.ref a)) .dice
  | raw {v : V} : SlR z H (some v) (.raw v)
inductive En (z : Z) (H : Hp) : L2.St → List Sl → Prop
  | nil : En z H [] []
  | cons {x : Option V} {σ : L2.St} {e : Sl} {es : List Sl} : SlR z H x e → En z H σ es → En z H (x :: σ) (e :: es)
theorem SlR.mono {z : Z} {H H' : Hp} {x : Option V} {e : Sl} (k : Ez z H H') (h : SlR z H x e) : SlR z H' x e := by
  cases h with
  | un => exact .un
  | val d => exact .val (d.mono k)
  | dice e => exact .dice e
  | raw => exact .raw
theorem En.mono {z : Z} {H H' : Hp} (k : Ez z H H') : ∀ {σ : L2.St} {es : List Sl}, En z H σ es → En z H' σ es
  | _, _, .nil => .nil
  | _, _, .cons h r => .cons (h.mono k) (En.mono k r)
theorem En.length {z : Z} {H : Hp} : ∀ {σ : L2.St} {es : List Sl}, En z H σ es → σ.length = es.length
  | _, _, .nil => rfl
  | _, _, .cons h r => by rw [List.length_cons, List.length_cons, En.length r]
theorem En.get {z : Z} {H : Hp} : ∀ {σ : L2.St} {es : List Sl}, En z H σ es → ∀ {i : Nat} {d : PyData}, es[i]? = some (.val d) → ∃ v, σ[i]? = some (some v) ∧ Da z H v d
  | _, _, .nil, i, d, h => by simp at h
  | _, _, .cons h r, 0, d, e => by
    cases Option.some.inj e
    cases h with
    | val q => exact ⟨_, rfl, q⟩
  | _, _, .cons h r, i + 1, d, e => En.get r (i := i) e
theorem En.getD {z : Z} {H : Hp} : ∀ {σ : L2.St} {es : List Sl}, En z H σ es → ∀ {i : Nat}, es[i]? = some .dice → ∃ a, σ[i]? = some (some (.ref a)) ∧ z.dice = some a
  | _, _, .nil, i, h => by simp at h
  | _, _, .cons h r, 0, e => by
    cases Option.some.inj e
    cases h with
    | dice q => exact ⟨_, rfl, q⟩
  | _, _, .cons h r, i + 1, e => En.getD r (i := i) e
theorem En.set {z : Z} {H : Hp} : ∀ {σ : L2.St} {es : List Sl}, En z H σ es → ∀ (i : Nat) {x : Option V} {e : Sl}, SlR z H x e → En z H (σ.set i x) (es.set i e)
  | _, _, .nil, i, _, _, _ => .nil
  | _, _, .cons h r, 0, _, _, q => .cons q r
  | _, _, .cons h r, i + 1, _, _, q => .cons h (En.set r i q)
theorem En.app {z : Z} {H : Hp} : ∀ {σ : L2.St} {es : List Sl} {τ : L2.St} {fs : List Sl}, En z H σ es → En z H τ fs → En z H (σ ++ τ) (es ++ fs)
  | _, _, _, _, .nil, q => q
  | _, _, _, _, .cons h r, q => .cons h (En.app r q)
theorem En.uns {z : Z} {H : Hp} : ∀ (n : Nat), En z H (List.replicate n none) (List.replicate n .un)
  | 0 => .nil
  | n + 1 => .cons .un (En.uns n)
/-- less is known -/
inductive Le : List Sl → List Sl → Prop
  | nil : Le [] []
  | same {e : Sl} {es fs : List Sl} : Le es fs → Le (e :: es) (e :: fs)
  | un {e : Sl} {es fs : List Sl} : Le es fs → Le (e :: es) (.un :: fs)
theorem Le.refl : ∀ es : List Sl, Le es es
  | [] => .nil
  | _ :: es => .same (Le.refl es)
theorem En.le {z : Z} {H : Hp} : ∀ {es fs : List Sl}, Le es fs → ∀ {σ : L2.St}, En z H σ es → En z H σ fs
  | _, _, .nil, _, h => h
  | _, _, .same l, _, .cons h r => .cons h (En.le l r)
  | _, _, .un l, _, .cons h r => .cons .un (En.le l r)

/-! ### 2. the weakest readings -/
section
variable {X : Cx}
def wE (X : Cx) (e : Expr) : TE := fun σ H Q => ∃ t, PE X e t ∧ t σ H Q
def wT (X : Cx) (e : Expr) : TT := fun σ H Q => ∃ t, PT X e t ∧ t σ H Q
def wA (X : Cx) (es : List Expr) : TA := fun σ H Q => ∃ t, PA X es t ∧ t σ H Q
def wS (X : Cx) (st : Stmt) : TS := fun D σ H => ∃ t, PS X st t ∧ t D σ H
def wB (X : Cx) (st : List Stmt) : TS := fun D σ H => ∃ t, PSs X st t ∧ t D σ H
theorem wE_ok {e : Expr} : PE X e (wE X e) := ⟨fun pins s σ H Q I ⟨_, h, q⟩ => h.run pins s σ H Q I q⟩
theorem wT_ok {e : Expr} : PT X e (wT X e) := ⟨fun pins s σ H Q I ⟨_, h, q⟩ => h.run pins s σ H Q I q⟩
theorem wA_ok {es : List Expr} : PA X es (wA X es) := ⟨fun pos pins s σ H Q I ⟨_, h, q⟩ => h.run pos pins s σ H Q I q⟩
theorem wS_ok {st : Stmt} : PS X st (wS X st) := ⟨fun pins s σ H D I ⟨_, h, q⟩ => h.run pins s σ H D I q⟩
theorem wB_ok {st : List Stmt} : PSs X st (wB X st) := ⟨fun pins s σ H D I ⟨_, h, q⟩ => h.run pins s σ H D I q⟩
theorem wB_never {st : List Stmt} : PSs X st tNever := ⟨fun _ _ _ _ _ _ h => h.elim⟩
/-- e gives the data d, and the state goes from s to s' -/
def EV (X : Cx) (z : Z) (e : Expr) (es : List Sl) (s : S) (d : PyData) (s' : S) : Prop := ∀ σ H, En z H σ es → At z H s → ∀ Q : VK, (∀ v H2, Ez z H H2 → At z H2 s' → Da z H2 v d → Q v H2) → wE X e σ H Q
def ET (X : Cx) (z : Z) (e : Expr) (es : List Sl) (s : S) (b : Bool) (s' : S) : Prop := ∀ σ H, En z H σ es → At z H s → ∀ Q : Bool → Hp → Prop, (∀ H2, Ez z H H2 → At z H2 s' → Q b H2) → wT X e σ H Q
def EA (X : Cx) (z : Z) (xs : List Expr) (es : List Sl) (s : S) (as : List Sl) (s' : S) : Prop := ∀ σ H, En z H σ es → At z H s → ∀ Q : List V → Hp → Prop, (∀ vs H2, Ez z H H2 → At z H2 s' → En z H2 (vs.map some) as → Q vs H2) → wA X xs σ H Q

variable {z : Z} {es : List Sl} {s s1 s2 s' : S} {a b c e : Expr} {pos p : Pos} {d d1 d2 : PyData}
/-- from a reading -/
theorem EV.mk {te : TE} (h : PE X e te) (k : ∀ σ H, En z H σ es → At z H s → ∀ Q : VK, (∀ v H2, Ez z H H2 → At z H2 s' → Da z H2 v d → Q v H2) → te σ H Q) : EV X z e es s d s' := fun σ H en at_ Q q => ⟨te, h, k σ H en at_ Q q⟩
theorem EV.is (h : EV X z e es s d s') (q : d = d1) : EV X z e es s d1 s' := q ▸ h
theorem EV.st (h : EV X z e es s d s') (q : s' = s1) : EV X z e es s d s1 := q ▸ h
theorem ET.is {b b' : Bool} (h : ET X z e es s b s') (q : b = b') : ET X z e es s b' s' := q ▸ h
theorem ev_int {i : Int} {j} : EV X z (.Constant (.int i) j pos) es s (.int i) s := .mk pe_int fun _ H _ at_ _ q => q _ H (.refl H) at_ (.int i)
theorem ev_bl {i : Bool} {j} : EV X z (.Constant (.bool i) j pos) es s (.bool i) s := .mk pe_bl fun _ H _ at_ _ q => q _ H (.refl H) at_ (.bl i)
theorem ev_str {i : Str} {j} : EV X z (.Constant (.str i) j pos) es s (.str i) s := .mk pe_str fun _ H _ at_ _ q => q _ H (.refl H) at_ (.str i)
theorem ev_non {j} : EV X z (.Constant .none j pos) es s .none s := .mk pe_non fun _ H _ at_ _ q => q _ H (.refl H) at_ .non
theorem ev_var (i : Nat) {x : Str} (h : es[i]? = some (.val d) := by rfl) (hN : X.N[i]? = some x := by rfl) (hv : Vis X.env.scope x := by first | exact Or.inl rfl | exact Or.inr (Or.inl rfl) | exact Or.inr (Or.inr rfl))
    (hd : (x == ("__debug__" : Str)) = false := by decide) (hcd : (x == ("__classdict__" : Str)) = false := by decide) : EV X z (.Name x pos) es s d s :=
  .mk (pe_var hN hv hd hcd) fun σ H en at_ Q q => by
    obtain ⟨v, e1, e2⟩ := en.get h
    exact ⟨v, e1, q v H (.refl H) at_ e2⟩
theorem ev_glob {x : Str} {i : Int} {u : Value} (hg : Gl X x) (hm : X.mg x = some u) (r : ∃ t, u = .int i t) (hd : (x == ("__debug__" : Str)) = false := by decide) : EV X z (.Name x pos) es s (.int i) s :=
  .mk (pe_glob (v := .int i) hg hm r hd) fun _ H _ at_ _ q => q _ H (.refl H) at_ (.int i)

/-! ### operators -/
/-- what an operation on values does to data -/
def RD (z : Z) (s : S) (r : R2) (d1 d2 d : PyData) : Prop := ∀ x y H, At z H s → Da z H x d1 → Da z H y d2 → ∀ Q : VK, (∀ v H2, Ez z H H2 → At z H2 s → Da z H2 v d → Q v H2) → r x y H Q
theorem ev_opR {r : R2} {f : Value → Value → Sem Value} {op : Operator} (ho : OpR X (binaryOp op) r) (hr : RD z s2 r d1 d2 d) (ha : EV X z a es s d1 s1) (hb : EV X z b es s1 d2 s2) : EV X z (.BinOp a op b pos) es s d s2 :=
  .mk (pe_op ho wE_ok wE_ok) fun σ H en at_ Q q => ha σ H en at_ _ fun x H1 e1 a1 x1 => hb σ H1 (en.mono e1) a1 _ fun y H2 e2 a2 y2 => hr x y H2 a2 (x1.mono e2) y2 Q fun v H3 e3 a3 v3 => q v H3 ((e1.trans e2).trans e3) a3 v3
theorem ev_cmpR {r : R2} {op : CmpOp} (ho : OpR X (compareOp op) r) (hr : RD z s2 r d1 d2 d) (ha : EV X z a es s d1 s1) (hb : EV X z b es s1 d2 s2) (hm : behindInMarks op b = false) : EV X z (.Compare a [op] [b] pos) es s d s2 :=
  .mk (pe_cmpR ho wE_ok wE_ok hm) fun σ H en at_ Q q => ha σ H en at_ _ fun x H1 e1 a1 x1 => hb σ H1 (en.mono e1) a1 _ fun y H2 e2 a2 y2 => hr x y H2 a2 (x1.mono e2) y2 Q fun v H3 e3 a3 v3 => q v H3 ((e1.trans e2).trans e3) a3 v3
theorem et_cmpR {r : R2} {op : CmpOp} {k : Bool} (ho : OpR X (compareOp op) r) (hr : RD z s2 r d1 d2 (.bool k)) (ha : EV X z a es s d1 s1) (hb : EV X z b es s1 d2 s2) (hm : behindInMarks op b = false) : ET X z (.Compare a [op] [b] pos) es s k s2 :=
  fun σ H en at_ Q q => ⟨_, pt_cmpR ho wE_ok wE_ok hm, ha σ H en at_ _ fun x H1 e1 a1 x1 => hb σ H1 (en.mono e1) a1 _ fun y H2 e2 a2 y2 => hr x y H2 a2 (x1.mono e2) y2 _ fun v H3 e3 a3 v3 => by
    cases v3
    exact ⟨k, rfl, q H3 ((e1.trans e2).trans e3) a3⟩⟩
theorem rd_I0 {g : Int → Int → V} {i j : Int} {d : PyData} (h : ∀ H, Da z H (g i j) d) : RD z s (rI0 g) (.int i) (.int j) d := fun x y H at_ hx hy Q q => by
  cases hx
  cases hy
  exact ⟨i, j, rfl, rfl, q _ H (.refl H) at_ (h H)⟩
theorem rd_I {C : Int → Int → Prop} {g : Int → Int → V} {i j : Int} {d : PyData} (hc : C i j) (h : ∀ H, Da z H (g i j) d) : RD z s (rI C g) (.int i) (.int j) d := fun x y H at_ hx hy Q q => by
  cases hx
  cases hy
  exact ⟨i, j, rfl, rfl, hc, q _ H (.refl H) at_ (h H)⟩
theorem ev_add {i j : Int} (ha : EV X z a es s (.int i) s1) (hb : EV X z b es s1 (.int j) s2) : EV X z (.BinOp a .Add b pos) es s (.int (i + j)) s2 := ev_opR (f := binaryOp .Add) op_add (rd_I0 fun _ => .int _) ha hb
theorem ev_sub {i j : Int} (ha : EV X z a es s (.int i) s1) (hb : EV X z b es s1 (.int j) s2) : EV X z (.BinOp a .Sub b pos) es s (.int (i - j)) s2 := ev_opR (f := binaryOp .Sub) op_sub (rd_I0 fun _ => .int _) ha hb
theorem ev_mul {i j : Int} (hc : CMulW i j) (ha : EV X z a es s (.int i) s1) (hb : EV X z b es s1 (.int j) s2) : EV X z (.BinOp a .Mult b pos) es s (.int (i * j)) s2 := ev_opR (f := binaryOp .Mult) op_mulW (rd_I hc fun _ => .int _) ha hb
theorem ev_mod {i j : Int} (hc : j ≠ 0) (ha : EV X z a es s (.int i) s1) (hb : EV X z b es s1 (.int j) s2) : EV X z (.BinOp a .Mod b pos) es s (.int (i.fmod j)) s2 := ev_opR (f := binaryOp .Mod) op_modN (rd_I hc fun _ => .int _) ha hb
theorem ev_pow {i j : Int} (hc : CPow i j) (ha : EV X z a es s (.int i) s1) (hb : EV X z b es s1 (.int j) s2) : EV X z (.BinOp a .Pow b pos) es s (.int (i ^ j.toNat)) s2 := ev_opR (f := binaryOp .Pow) op_pow (rd_I hc fun _ => .int _) ha hb
/-- // by any divisor but 0 below 2 ^ 9000 -/
def CDivZ (_ j : Int) : Prop := j ≠ 0 ∧ j.natAbs.log2 < 9000
theorem op_fdivZ : OpR X (binaryOp .FloorDiv) (rI CDivZ fun i j => .int (i.fdiv j)) := opI fun _ _ _ _ _ _ _ hc q => floordiv_int hc.1 q (.inl (PyProof.noPylong_of_log2 hc.2))
theorem ev_div {i j : Int} (hc : CDivZ i j) (ha : EV X z a es s (.int i) s1) (hb : EV X z b es s1 (.int j) s2) : EV X z (.BinOp a .FloorDiv b pos) es s (.int (i.fdiv j)) s2 := ev_opR (f := binaryOp .FloorDiv) op_fdivZ (rd_I hc fun _ => .int _) ha hb
theorem ev_neg {i : Int} (ha : EV X z a es s (.int i) s1) : EV X z (.UnaryOp .USub a pos) es s (.int (-i)) s1 :=
  .mk (pe_un un_neg wE_ok) fun σ H en at_ Q q => ha σ H en at_ _ fun x H1 e1 a1 x1 => by
    cases x1
    exact ⟨i, rfl, q _ H1 e1 a1 (.int _)⟩
theorem ev_addS {x y : Str} (hl : x.length + y.length ≤ sizeLine) (ha : EV X z a es s (.str x) s1) (hb : EV X z b es s1 (.str y) s2) : EV X z (.BinOp a .Add b pos) es s (.str (x ++ y)) s2 :=
  ev_opR (f := binaryOp .Add) op_add_str (fun u v H at_ hu hv Q q => by
    cases hu
    cases hv
    exact ⟨x, y, rfl, rfl, hl, q _ H (.refl H) at_ (.str _)⟩) ha hb
theorem ev_catT {ds fs : List PyData} (h0 : ds ≠ []) (h1 : fs ≠ []) (hl : ds.length + fs.length ≤ 100000) (ha : EV X z a es s (.tuple ds) s1) (hb : EV X z b es s1 (.tuple fs) s2) : EV X z (.BinOp a .Add b pos) es s (.tuple (ds ++ fs)) s2 :=
  ev_opR (f := binaryOp .Add) op_catT (fun u v H at_ hu hv Q q => by
    cases hu with
    | tup n1 e1 r1 =>
      cases hv with
      | tup n2 e2 r2 =>
        refine ⟨_, _, _, _, rfl, rfl, .inl (.inl e1), .inl (.inl e2), fun w => ?_, ?_, fun w => ?_, fun w p hp => ?_⟩
        · subst w
          cases r1
          exact h0 rfl
        · rw [r1.length, r2.length]
          exact Nat.le_trans hl (by decide)
        · subst w
          cases r2
          exact absurd rfl h1
        · exact q _ _ (.new hp) (at_.new hp) (.tup (at_.fresh hp) upd_same ((r1.app r2).mono (.new hp)))) ha hb
theorem ev_cat {ds fs : List PyData} (hl : ds.length + fs.length ≤ 100000) (ha : EV X z a es s (.list ds) s1) (hb : EV X z b es s1 (.list fs) s2) : EV X z (.BinOp a .Add b pos) es s (.list (ds ++ fs)) s2 :=
  ev_opR (f := binaryOp .Add) op_cat (fun u v H at_ hu hv Q q => by
    cases hu with
    | lst n1 e1 r1 =>
      cases hv with
      | lst n2 e2 r2 =>
        refine ⟨_, _, _, _, rfl, rfl, e1, e2, ?_, fun p hp => ?_⟩
        · rw [r1.length, r2.length]
          exact Nat.le_trans hl (by decide)
        · exact q _ _ (.new hp) (at_.new hp) (.lst (at_.fresh hp) upd_same ((r1.app r2).mono (.new hp)))) ha hb

/-! ### comparisons -/
theorem ev_lt {i j : Int} (ha : EV X z a es s (.int i) s1) (hb : EV X z b es s1 (.int j) s2) : EV X z (.Compare a [.Lt] [b] pos) es s (.bool (decide (i < j))) s2 := ev_cmpR op_lt (rd_I0 fun _ => .bl _) ha hb (nomark _)
theorem ev_le {i j : Int} (ha : EV X z a es s (.int i) s1) (hb : EV X z b es s1 (.int j) s2) : EV X z (.Compare a [.LtE] [b] pos) es s (.bool (decide (i ≤ j))) s2 := ev_cmpR op_le (rd_I0 fun _ => .bl _) ha hb (nomark _)
theorem ev_gt {i j : Int} (ha : EV X z a es s (.int i) s1) (hb : EV X z b es s1 (.int j) s2) : EV X z (.Compare a [.Gt] [b] pos) es s (.bool (decide (j < i))) s2 := ev_cmpR op_gt (rd_I0 fun _ => .bl _) ha hb (nomark _)
theorem ev_ge {i j : Int} (ha : EV X z a es s (.int i) s1) (hb : EV X z b es s1 (.int j) s2) : EV X z (.Compare a [.GtE] [b] pos) es s (.bool (decide (j ≤ i))) s2 := ev_cmpR op_ge (rd_I0 fun _ => .bl _) ha hb (nomark _)
theorem et_lt {i j : Int} (ha : EV X z a es s (.int i) s1) (hb : EV X z b es s1 (.int j) s2) : ET X z (.Compare a [.Lt] [b] pos) es s (decide (i < j)) s2 := et_cmpR op_lt (rd_I0 fun _ => .bl _) ha hb (nomark _)
theorem et_le {i j : Int} (ha : EV X z a es s (.int i) s1) (hb : EV X z b es s1 (.int j) s2) : ET X z (.Compare a [.LtE] [b] pos) es s (decide (i ≤ j)) s2 := et_cmpR op_le (rd_I0 fun _ => .bl _) ha hb (nomark _)
theorem et_gt {i j : Int} (ha : EV X z a es s (.int i) s1) (hb : EV X z b es s1 (.int j) s2) : ET X z (.Compare a [.Gt] [b] pos) es s (decide (j < i)) s2 := et_cmpR op_gt (rd_I0 fun _ => .bl _) ha hb (nomark _)
theorem et_ge {i j : Int} (ha : EV X z a es s (.int i) s1) (hb : EV X z b es s1 (.int j) s2) : ET X z (.Compare a [.GtE] [b] pos) es s (decide (j ≤ i)) s2 := et_cmpR op_ge (rd_I0 fun _ => .bl _) ha hb (nomark _)
theorem rd_eqD {K : PySem.W.Frag} (n1 : nod d1 = true) (n2 : nod d2 = true) (h1 : SeqAt.shaped d1 = true) (h2 : SeqAt.shaped d2 = true) : RD z s (rEqD K) d1 d2 (.bool (PyData.eqv d1 d2)) := fun x y H at_ hx hy Q q =>
  ⟨d1, d2, hx.dp n1, hy.dp n2, h1, h2, q _ H (.refl H) at_ (.bl _)⟩
theorem rd_neD {K : PySem.W.Frag} (n1 : nod d1 = true) (n2 : nod d2 = true) (h1 : SeqAt.shaped d1 = true) (h2 : SeqAt.shaped d2 = true) : RD z s (rNeD K) d1 d2 (.bool (!PyData.eqv d1 d2)) := fun x y H at_ hx hy Q q =>
  ⟨d1, d2, hx.dp n1, hy.dp n2, h1, h2, q _ H (.refl H) at_ (.bl _)⟩
/-- plain data: no dict, of small depth -/
def Pl (d : PyData) : Prop := nod d = true ∧ SeqAt.shaped d = true
theorem ev_eq (hu : X.A.units + 64 < cLine) (p1 : Pl d1) (p2 : Pl d2) (ha : EV X z a es s d1 s1) (hb : EV X z b es s1 d2 s2) : EV X z (.Compare a [.Eq] [b] pos) es s (.bool (PyData.eqv d1 d2)) s2 := ev_cmpR (op_eqD hu) (rd_eqD p1.1 p2.1 p1.2 p2.2) ha hb (nomark _)
theorem ev_ne (hu : X.A.units + 64 < cLine) (p1 : Pl d1) (p2 : Pl d2) (ha : EV X z a es s d1 s1) (hb : EV X z b es s1 d2 s2) : EV X z (.Compare a [.NotEq] [b] pos) es s (.bool (!PyData.eqv d1 d2)) s2 := ev_cmpR (op_neD hu) (rd_neD p1.1 p2.1 p1.2 p2.2) ha hb (nomark _)
theorem et_eq (hu : X.A.units + 64 < cLine) (p1 : Pl d1) (p2 : Pl d2) (ha : EV X z a es s d1 s1) (hb : EV X z b es s1 d2 s2) : ET X z (.Compare a [.Eq] [b] pos) es s (PyData.eqv d1 d2) s2 := et_cmpR (op_eqD hu) (rd_eqD p1.1 p2.1 p1.2 p2.2) ha hb (nomark _)
theorem et_ne (hu : X.A.units + 64 < cLine) (p1 : Pl d1) (p2 : Pl d2) (ha : EV X z a es s d1 s1) (hb : EV X z b es s1 d2 s2) : ET X z (.Compare a [.NotEq] [b] pos) es s (!PyData.eqv d1 d2) s2 := et_cmpR (op_neD hu) (rd_neD p1.1 p2.1 p1.2 p2.2) ha hb (nomark _)
end

/-! ### 3. argument lists, displays, calls -/
def ED (X : Cx) (z : Z) (xs : List Expr) (es : List Sl) (s : S) (ds : List PyData) (s' : S) : Prop := ∀ σ H, En z H σ es → At z H s → ∀ Q : List V → Hp → Prop, (∀ vs H2, Ez z H H2 → At z H2 s' → DaAll z H2 vs ds → Q vs H2) → wA X xs σ H Q
section
variable {X : Cx} {z : Z} {es : List Sl} {s s1 s2 s' : S} {a b c e : Expr} {xs : List Expr} {pos p : Pos} {d d1 d2 : PyData} {ds fs : List PyData} {as : List Sl}
theorem ed_nil : ED X z [] es s [] s := fun σ H en at_ Q q => ⟨tNil, pa_nil, q [] H (.refl H) at_ .nil⟩
theorem ed_cons (ha : EV X z a es s d s1) (hr : ED X z xs es s1 ds s2) (hs : starEach (a :: xs) X.env = (false, eval a X.env) :: starEach xs X.env := by rfl) : ED X z (a :: xs) es s (d :: ds) s2 := fun σ H en at_ Q q =>
  ⟨_, pa_cons wE_ok wA_ok hs, ha σ H en at_ _ fun v H1 e1 a1 v1 => hr σ H1 (en.mono e1) a1 _ fun vs H2 e2 a2 v2 => q (v :: vs) H2 (e1.trans e2) a2 (.cons (v1.mono e2) v2)⟩
theorem ea_nil : EA X z [] es s [] s := fun σ H en at_ Q q => ⟨tNil, pa_nil, q [] H (.refl H) at_ .nil⟩
theorem ea_cons (ha : EV X z a es s d s1) (hr : EA X z xs es s1 as s2) (hs : starEach (a :: xs) X.env = (false, eval a X.env) :: starEach xs X.env := by rfl) : EA X z (a :: xs) es s (.val d :: as) s2 := fun σ H en at_ Q q =>
  ⟨_, pa_cons wE_ok wA_ok hs, ha σ H en at_ _ fun v H1 e1 a1 v1 => hr σ H1 (en.mono e1) a1 _ fun vs H2 e2 a2 v2 => q (v :: vs) H2 (e1.trans e2) a2 (.cons (.val (v1.mono e2)) v2)⟩
/-- the state's list handed on -/
theorem ea_dice (i : Nat) {x : Str} (hr : EA X z xs es s as s2) (h : es[i]? = some .dice := by rfl) (hN : X.N[i]? = some x := by rfl) (hv : Vis X.env.scope x := by first | exact Or.inl rfl | exact Or.inr (Or.inl rfl) | exact Or.inr (Or.inr rfl))
    (hs : starEach ((.Name x pos) :: xs) X.env = (false, eval (.Name x pos) X.env) :: starEach xs X.env := by rfl) (hd : (x == ("__debug__" : Str)) = false := by decide) (hcd : (x == ("__classdict__" : Str)) = false := by decide) : EA X z (.Name x pos :: xs) es s (.dice :: as) s2 := fun σ H en at_ Q q => by
  obtain ⟨a, e1, e2⟩ := en.getD h
  exact ⟨_, pa_cons (pe_var hN hv hd hcd) wA_ok hs, .ref a, e1, hr σ H en at_ _ fun vs H2 k2 a2 v2 => q (.ref a :: vs) H2 k2 a2 (.cons (.dice e2) v2)⟩
theorem ev_tup {k : Nat} (h : ED X z xs es s ds s') (hl : ds.length ≤ 100000 := by exact Nat.le_of_ble_eq_true rfl) : EV X z (.Tuple xs k pos) es s (.tuple ds) s' := .mk (pe_tup wA_ok) fun σ H en at_ Q q =>
  h σ H en at_ _ fun vs H1 e1 a1 v1 => ⟨by rw [v1.length]; exact Nat.le_trans hl (by decide), fun p hp => q _ _ (e1.trans (.new hp)) (a1.new hp) (.tup (a1.fresh hp) upd_same (v1.mono (.new hp)))⟩
theorem ev_lst (h : ED X z xs es s ds s') (hl : ds.length ≤ 100000 := by exact Nat.le_of_ble_eq_true rfl) : EV X z (.List xs pos) es s (.list ds) s' := .mk (pe_lst wA_ok) fun σ H en at_ Q q =>
  h σ H en at_ _ fun vs H1 e1 a1 v1 => ⟨by rw [v1.length]; exact Nat.le_trans hl (by decide), fun p hp => q _ _ (e1.trans (.new hp)) (a1.new hp) (.lst (a1.fresh hp) upd_same (v1.mono (.new hp)))⟩
theorem ev_emptyDict : EV X z (.Dict [] [] pos) es s (.dict []) s := .mk pe_dnewK fun σ H en at_ Q q => fun p hp => q _ _ (.new hp) (at_.new hp) (.dct (at_.fresh hp) upd_same)
/-- a def of the text by what it does to data: from the arguments and the state ahead to the result and the state behind -/
abbrev Rel := List Sl → S → PyData → S → Prop
def spD (R : Rel) : Sp := fun vs H Q _ => ∃ z as s d s', R as s d s' ∧ En z H (vs.map some) as ∧ At z H s ∧ ∀ v H', Ez z H H' → At z H' s' → Da z H' v d → Q v H'
/-- the name x stands for such a def -/
def Dn (P : Program) (w : World) (K : PySem.W.Frag) (mg : Str → Option Value) (base : Heap) (k : Nat) (x : Str) (R : Rel) : Prop :=
  ∃ f fd ps, FnOk P w K mg base CX0 k f fd ps (spD R) ∧ mg x = some (.ref f) ∧ PySem.W.keepIn K (.ref f) = true ∧ Binds K fd ps []
theorem ev_call {k : Nat} {x : Str} {R : Rel} (G : Dn X.prog X.w X.K X.mg X.base k x R) (hr : Room k X.A) (ha : EA X z (e :: xs) es s as s1) (hR : R as s1 d s') (hg : Gl X x := by rfl) (hdb : (x == ("__debug__" : Str)) = false := by decide)
    (he : starEach (e :: xs) X.env = (false, eval e X.env) :: starEach xs X.env := by rfl) (hpl : (backTo pos (starEach xs X.env)).any (·.1) = false := by rfl) : EV X z (.Call (.Name x p) (e :: xs) [] pos) es s d s' := by
  obtain ⟨f, fd, ps, F, hm, hk, hb⟩ := G
  refine .mk (pe_call F hr hg hm hk hb .nil pass0 wA_ok hdb he hpl) fun σ H en at_ Q q => ?_
  refine ha σ H en at_ _ fun vs H1 e1 a1 v1 => ?_
  rw [List.append_nil]
  exact ⟨z, as, s1, d, s', hR, v1, a1, fun v H' e2 a2 v2 => q v H' (e1.trans e2) a2 v2⟩
/-- what a built-in's call does to data -/
def RB (z : Z) (s : S) (r : List V → Hp → VK → Prop) (ds : List PyData) (d : PyData) : Prop := ∀ vs H, At z H s → DaAll z H vs ds → ∀ Q : VK, (∀ v H2, Ez z H H2 → At z H2 s → Da z H2 v d → Q v H2) → r vs H Q
theorem ev_bltn {id : String} {x : Str} {r : List V → Hp → VK → Prop} (hc : CallR X (.builtin id) r) (hr : RB z s1 r ds d) (hm : X.mg x = none) (ha : ED X z (e :: xs) es s ds s1) (hv : bootBuiltins x = some (.builtin id) := by decide +kernel) (hg : Gl X x := by rfl)
    (hn : x ≠ "__name__" := by decide) (hdb : (x == ("__debug__" : Str)) = false := by decide) (he : starEach (e :: xs) X.env = (false, eval e X.env) :: starEach xs X.env := by rfl) (hpl : (backTo pos (starEach xs X.env)).any (·.1) = false := by rfl) : EV X z (.Call (.Name x p) (e :: xs) [] pos) es s d s1 :=
  .mk (pe_callB hc hg hm hv wA_ok hn hdb he hpl) fun σ H en at_ Q q => ha σ H en at_ _ fun vs H1 e1 a1 v1 => hr vs H1 a1 v1 Q fun v H2 e2 a2 v2 => q v H2 (e1.trans e2) a2 v2
theorem ev_bty {T : String} {x : Str} {r : List V → Hp → VK → Prop} (hc : CallR X (.type T) r) (hr : RB z s1 r ds d) (hm : X.mg x = none) (ha : ED X z (e :: xs) es s ds s1) (hv : bootBuiltins x = some (.type T) := by decide +kernel) (hg : Gl X x := by rfl)
    (hn : x ≠ "__name__" := by decide) (hdb : (x == ("__debug__" : Str)) = false := by decide) (he : starEach (e :: xs) X.env = (false, eval e X.env) :: starEach xs X.env := by rfl) (hpl : (backTo pos (starEach xs X.env)).any (·.1) = false := by rfl) : EV X z (.Call (.Name x p) (e :: xs) [] pos) es s d s1 :=
  .mk (pe_callTy hc hg hm hv wA_ok hn hdb he hpl) fun σ H en at_ Q q => ha σ H en at_ _ fun vs H1 e1 a1 v1 => hr vs H1 a1 v1 Q fun v H2 e2 a2 v2 => q v H2 (e1.trans e2) a2 v2
/-- a module's name for a built-in function (math.gcd ..) -/
theorem ev_bfun {id : String} {x : Str} {r : List V → Hp → VK → Prop} (hc : CallR X (.builtin id) r) (hr : RB z s1 r ds d) (hm : X.mg x = some (.builtin id)) (ha : ED X z (e :: xs) es s ds s1) (hg : Gl X x := by rfl)
    (hdb : (x == ("__debug__" : Str)) = false := by decide) (he : starEach (e :: xs) X.env = (false, eval e X.env) :: starEach xs X.env := by rfl) (hpl : (backTo pos (starEach xs X.env)).any (·.1) = false := by rfl) : EV X z (.Call (.Name x p) (e :: xs) [] pos) es s d s1 :=
  .mk (pe_callBfun hc hg hm wA_ok hdb he hpl) fun σ H en at_ Q q => ha σ H en at_ _ fun vs H1 e1 a1 v1 => hr vs H1 a1 v1 Q fun v H2 e2 a2 v2 => q v H2 (e1.trans e2) a2 v2
theorem rb_len : RB z s (fun xs H Q => ∃ x n, xs = [x] ∧ LenV X.K x H n ∧ Q (.int n) H) [.list ds] (.int ds.length) := fun vs H at_ h Q q => by
  cases h with
  | cons h r =>
    cases r
    cases h with
    | lst n e r =>
      refine ⟨_, ds.length, rfl, .inl ⟨_, .inl (.inl e), r.length.symm⟩, q _ H (.refl H) at_ (.int _)⟩
theorem rb_lenT : RB z s (fun xs H Q => ∃ x n, xs = [x] ∧ LenV X.K x H n ∧ Q (.int n) H) [.tuple ds] (.int ds.length) := fun vs H at_ h Q q => by
  cases h with
  | cons h r =>
    cases r
    cases h with
    | tup n e r =>
      refine ⟨_, ds.length, rfl, .inr ⟨_, .inl (.inl e), r.length.symm⟩, q _ H (.refl H) at_ (.int _)⟩
theorem rb_lenS {x : Str} (hl : x.length ≤ sizeLine) : RB z s (fun xs H Q => ∃ x n, xs = [x] ∧ LenV X.K x H n ∧ Q (.int n) H) [.str x] (.int x.length) := fun vs H at_ h Q q => by
  cases h with
  | cons h r =>
    cases r
    cases h
    exact ⟨_, x.length, rfl, ⟨hl, rfl⟩, q _ H (.refl H) at_ (.int _)⟩
theorem rb_int {i : Int} : RB z s (fun xs H Q => (∃ i, xs = [.int i] ∧ Q (.int i) H) ∨ ∃ k, xs = [.bl k] ∧ Q (.int (if k then 1 else 0)) H) [.int i] (.int i) := fun vs H at_ h Q q => by
  cases h with
  | cons h r =>
    cases r
    cases h
    exact .inl ⟨_, rfl, q _ H (.refl H) at_ (.int _)⟩
theorem rb_intB {k : Bool} : RB z s (fun xs H Q => (∃ i, xs = [.int i] ∧ Q (.int i) H) ∨ ∃ k, xs = [.bl k] ∧ Q (.int (if k then 1 else 0)) H) [.bool k] (.int (if k then 1 else 0)) := fun vs H at_ h Q q => by
  cases h with
  | cons h r =>
    cases r
    cases h
    exact .inr ⟨_, rfl, q _ H (.refl H) at_ (.int _)⟩
theorem rb_abs {i : Int} : RB z s (fun xs H Q => ∃ i, xs = [.int i] ∧ Q (.int (if i < 0 then -i else i)) H) [.int i] (.int i.natAbs) := fun vs H at_ h Q q => by
  cases h with
  | cons h r =>
    cases r
    cases h
    refine ⟨_, rfl, ?_⟩
    have e : (if i < 0 then -i else i) = (i.natAbs : Int) := by
      by_cases h : i < 0
      · rw [if_pos h]; omega
      · rw [if_neg h]; omega
    rw [e]
    exact q _ H (.refl H) at_ (.int _)
theorem rb_gcd {i j : Int} : RB z s rGcd [.int i, .int j] (.int (Nat.gcd i.natAbs j.natAbs : Nat)) := fun vs H at_ h Q q => by
  cases h with
  | cons h r =>
    cases h
    cases r with
    | cons h r =>
      cases h
      cases r
      exact ⟨i, j, rfl, q _ H (.refl H) at_ (.int _)⟩
/-- the class of a datum -/
def tyD : PyData → String
  | .none => "NoneType"
  | .bool _ => "bool"
  | .int _ => "int"
  | .str _ => "str"
  | .list _ => "list"
  | .tuple _ => "tuple"
  | .dict _ => "dict"
theorem Da.ty {K : PySem.W.Frag} {H : Hp} {v : V} {d : PyData} (h : Da z H v d) : TyX K H v (.type (tyD d)) := by
  cases h with
  | non => exact .base .non
  | bl b => exact .base (.bl b)
  | int i => exact .base (.int i)
  | str x => exact .base (.str x)
  | dct n e => exact .base (.dK e)
  | lst n e r => exact .base (.lst e)
  | tup n e r => exact .base (.tup e)
theorem pe_ty {x : Str} {T : String} (hm : X.mg x = none) (hv : bootBuiltins x = some (.type T) := by decide +kernel) (hg : Gl X x := by rfl) (hn : x ≠ "__name__" := by decide) (hd : (x == ("__debug__" : Str)) = false := by decide) : PE X (.Name x pos) (tC (.ty T)) :=
  ⟨fun pins s σ H Q I h => ld_blt I hg hm hv ⟨.ty T, H, I, rfl, h⟩ hn hd⟩
theorem ev_isi {x y : Str} {T : String} {k : Bool} (hm : X.mg x = none) (hm2 : X.mg y = none) (he : EV X z e es s d s1) (hk : kitB (tyD d) T = some k) (hx : x = "isinstance" := by rfl) (hv : bootBuiltins x = some (.builtin "isinstance") := by decide +kernel) (hg : Gl X x := by rfl) (hvy : bootBuiltins y = some (.type T) := by decide +kernel) (hgy : Gl X y := by rfl)
    (hn : x ≠ "__name__" := by decide) (hdb : (x == ("__debug__" : Str)) = false := by decide) (hny : y ≠ "__name__" := by decide) (hdy : (y == ("__debug__" : Str)) = false := by decide) (hs : starEach [e, .Name y p] X.env = (false, eval e X.env) :: starEach [.Name y p] X.env := by rfl) (hs2 : starEach [.Name y p] X.env = (false, eval (.Name y p) X.env) :: starEach [] X.env := by rfl) (hpl : (backTo pos (starEach [.Name y p] X.env)).any (·.1) = false := by rfl) {p0 : Pos} :
    EV X z (.Call (.Name x p0) [e, .Name y p] [] pos) es s (.bool k) s1 :=
  .mk (pe_callB call_isi hg hm hv (pa_cons wE_ok (pa_cons (pe_ty hm2 hvy hgy hny hdy) pa_nil hs2) hs) hn hdb hs hpl) fun σ H en at_ Q q => he σ H en at_ _ fun v H1 e1 a1 v1 =>
    ⟨v, .ty T, .type (tyD d), .type T, k, rfl, .ty T, v1.ty, kit_ty hk, q _ H1 e1 a1 (.bl k)⟩
theorem atI_rel {H : Hp} {vs : List V} {i : Int} (h : DaAll z H vs ds) (e : atI ds i = some d) : ∃ v, atI vs i = some v ∧ Da z H v d := by
  unfold atI at e ⊢
  rw [h.length]
  cases hj : ixN ds.length i with
  | none =>
    rw [hj] at e
    cases e
  | some j =>
    rw [hj] at e
    exact h.get j d e
theorem ev_ixL {i : Int} (ha : EV X z a es s (.list ds) s1) (hb : EV X z b es s1 (.int i) s2) (h : atI ds i = some d) (hs : PlainIx b := by intro _ _; rfl) : EV X z (.Subscript a b pos) es s d s2 :=
  .mk (pe_ix ix_list wE_ok wE_ok hs) fun σ H en at_ Q q => ha σ H en at_ _ fun v H1 e1 a1 v1 => hb σ H1 (en.mono e1) a1 _ fun u H2 e2 a2 v2 => by
    cases v2
    cases v1 with
    | lst n e r =>
      obtain ⟨v, k1, k2⟩ := atI_rel (r.mono e2) h
      exact ⟨_, _, i, v, rfl, rfl, .inl (.inl (e2 _ _ n e)), k1, q _ H2 (e1.trans e2) a2 k2⟩
theorem ev_ixT {i : Int} (ha : EV X z a es s (.tuple ds) s1) (hb : EV X z b es s1 (.int i) s2) (h : atI ds i = some d) (hs : PlainIx b := by intro _ _; rfl) : EV X z (.Subscript a b pos) es s d s2 :=
  .mk (pe_ix ix_tup wE_ok wE_ok hs) fun σ H en at_ Q q => ha σ H en at_ _ fun v H1 e1 a1 v1 => hb σ H1 (en.mono e1) a1 _ fun u H2 e2 a2 v2 => by
    cases v2
    cases v1 with
    | tup n e r =>
      obtain ⟨v, k1, k2⟩ := atI_rel (r.mono e2) h
      exact ⟨_, _, i, v, rfl, rfl, .inl (.inl (e2 _ _ n e)), k1, q _ H2 (e1.trans e2) a2 k2⟩

/-! ### conditions -/
theorem ev_ifT (hc : ET X z c es s true s1) (ha : EV X z a es s1 d s2) : EV X z (.IfExp c a b pos) es s d s2 := .mk (pe_ifExp wT_ok wE_ok wE_ok) fun σ H en at_ Q q =>
  hc σ H en at_ _ fun H1 e1 a1 => iteT (ha σ H1 (en.mono e1) a1 _ fun v H2 e2 a2 v2 => q v H2 (e1.trans e2) a2 v2)
theorem ev_ifF (hc : ET X z c es s false s1) (hb : EV X z b es s1 d s2) : EV X z (.IfExp c a b pos) es s d s2 := .mk (pe_ifExp wT_ok wE_ok wE_ok) fun σ H en at_ Q q =>
  hc σ H en at_ _ fun H1 e1 a1 => iteF (hb σ H1 (en.mono e1) a1 _ fun v H2 e2 a2 v2 => q v H2 (e1.trans e2) a2 v2)
theorem ev_andT (ha : EV X z a es s (.bool true) s1) (hb : EV X z (.BoolOp .And (b :: xs) pos) es s1 d s2) : EV X z (.BoolOp .And (a :: b :: xs) pos) es s d s2 := .mk (pe_and wE_ok wE_ok) fun σ H en at_ Q q =>
  ha σ H en at_ _ fun v H1 e1 a1 v1 => by
    cases v1
    exact ⟨true, rfl, iteT (hb σ H1 (en.mono e1) a1 _ fun v H2 e2 a2 v2 => q v H2 (e1.trans e2) a2 v2)⟩
theorem ev_andF (ha : EV X z a es s (.bool false) s1) : EV X z (.BoolOp .And (a :: b :: xs) pos) es s (.bool false) s1 := .mk (pe_and wE_ok wE_ok) fun σ H en at_ Q q =>
  ha σ H en at_ _ fun v H1 e1 a1 v1 => by
    cases v1
    exact ⟨false, rfl, iteF (q _ H1 e1 a1 (.bl false))⟩
theorem ev_orT (ha : EV X z a es s (.bool true) s1) : EV X z (.BoolOp .Or (a :: b :: xs) pos) es s (.bool true) s1 := .mk (pe_or wE_ok wE_ok) fun σ H en at_ Q q =>
  ha σ H en at_ _ fun v H1 e1 a1 v1 => by
    cases v1
    exact ⟨true, rfl, iteT (q _ H1 e1 a1 (.bl true))⟩
theorem ev_orF (ha : EV X z a es s (.bool false) s1) (hb : EV X z (.BoolOp .Or (b :: xs) pos) es s1 d s2) : EV X z (.BoolOp .Or (a :: b :: xs) pos) es s d s2 := .mk (pe_or wE_ok wE_ok) fun σ H en at_ Q q =>
  ha σ H en at_ _ fun v H1 e1 a1 v1 => by
    cases v1
    exact ⟨false, rfl, iteF (hb σ H1 (en.mono e1) a1 _ fun v H2 e2 a2 v2 => q v H2 (e1.trans e2) a2 v2)⟩
theorem ev_b1 {op : PySem.BoolOp} (ha : EV X z a es s d s1) : EV X z (.BoolOp op [a] pos) es s d s1 := .mk (pe_one wE_ok) fun σ H en at_ Q q => ha σ H en at_ Q q
theorem ev_and {k1 k2 : Bool} (ha : EV X z a es s (.bool k1) s) (hb : k1 = true → EV X z (.BoolOp .And (b :: xs) pos) es s (.bool k2) s) : EV X z (.BoolOp .And (a :: b :: xs) pos) es s (.bool (k1 && k2)) s := by
  cases k1 with
  | true => exact ev_andT ha (hb rfl)
  | false => exact ev_andF ha
theorem ev_or {k1 k2 : Bool} (ha : EV X z a es s (.bool k1) s) (hb : k1 = false → EV X z (.BoolOp .Or (b :: xs) pos) es s (.bool k2) s) : EV X z (.BoolOp .Or (a :: b :: xs) pos) es s (.bool (k1 || k2)) s := by
  cases k1 with
  | true => exact ev_orT ha
  | false => exact ev_orF ha (hb rfl)
theorem ev_not {k : Bool} (ha : EV X z a es s (.bool k) s1) : EV X z (.UnaryOp .Not a pos) es s (.bool (!k)) s1 := .mk (pe_not wE_ok) fun σ H en at_ Q q =>
  ha σ H en at_ _ fun v H1 e1 a1 v1 => by
    cases v1
    exact ⟨k, rfl, q _ H1 e1 a1 (.bl _)⟩
theorem et_val {k : Bool} (h : EV X z e es s (.bool k) s1) (he : ∀ whole, isTrue e X.env whole = (do let v ← whole; standAt e.pos; holding [v] (truthy v)) := by intro _; rfl) : ET X z e es s k s1 := fun σ H en at_ Q q =>
  ⟨_, pt_val wE_ok he, h σ H en at_ _ fun v H1 e1 a1 v1 => by
    cases v1
    exact ⟨k, rfl, q H1 e1 a1⟩⟩
theorem et_not {k : Bool} (h : ET X z a es s k s1) : ET X z (.UnaryOp .Not a pos) es s (!k) s1 := fun σ H en at_ Q q => ⟨_, pt_not wT_ok, h σ H en at_ _ fun H1 e1 a1 => q H1 e1 a1⟩
def wW (X : Cx) (e : Expr) : TT := fun σ H Q => ∃ t, PW X e t ∧ t σ H Q
theorem wW_ok : PW X e (wW X e) := ⟨fun whole pins s σ H Q I ⟨_, h, q⟩ => h.run whole pins s σ H Q I q⟩
def EW (X : Cx) (z : Z) (e : Expr) (es : List Sl) (s : S) (b : Bool) (s' : S) : Prop := ∀ σ H, En z H σ es → At z H s → ∀ Q : Bool → Hp → Prop, (∀ H2, Ez z H H2 → At z H2 s' → Q b H2) → wW X e σ H Q
theorem et_w {k : Bool} (h : EW X z e es s k s1) : ET X z e es s k s1 := fun σ H en at_ Q q => ⟨_, PW.pt wW_ok, h σ H en at_ Q q⟩
theorem ew_andT {k : Bool} (ha : ET X z a es s true s1) (hb : EW X z (.BoolOp .And (b :: xs) pos) es s1 k s2) : EW X z (.BoolOp .And (a :: b :: xs) pos) es s k s2 := fun σ H en at_ Q q => ⟨_, pw_and wT_ok wW_ok,
  ha σ H en at_ _ fun H1 e1 a1 => iteT (hb σ H1 (en.mono e1) a1 _ fun H2 e2 a2 => q H2 (e1.trans e2) a2)⟩
theorem ew_andF (ha : ET X z a es s false s1) : EW X z (.BoolOp .And (a :: b :: xs) pos) es s false s1 := fun σ H en at_ Q q => ⟨_, pw_and wT_ok wW_ok, ha σ H en at_ _ fun H1 e1 a1 => iteF (q H1 e1 a1)⟩
theorem ew_orF {k : Bool} (ha : ET X z a es s false s1) (hb : EW X z (.BoolOp .Or (b :: xs) pos) es s1 k s2) : EW X z (.BoolOp .Or (a :: b :: xs) pos) es s k s2 := fun σ H en at_ Q q => ⟨_, pw_or wT_ok wW_ok,
  ha σ H en at_ _ fun H1 e1 a1 => iteF (hb σ H1 (en.mono e1) a1 _ fun H2 e2 a2 => q H2 (e1.trans e2) a2)⟩
theorem ew_orT (ha : ET X z a es s true s1) : EW X z (.BoolOp .Or (a :: b :: xs) pos) es s true s1 := fun σ H en at_ Q q => ⟨_, pw_or wT_ok wW_ok, ha σ H en at_ _ fun H1 e1 a1 => iteT (q H1 e1 a1)⟩
theorem ew_and1 {k : Bool} (ha : ET X z a es s k s1) : EW X z (.BoolOp .And [a] pos) es s k s1 := fun σ H en at_ Q q => ⟨_, pw_and1 wT_ok, ha σ H en at_ Q q⟩
theorem ew_or1 {k : Bool} (ha : ET X z a es s k s1) : EW X z (.BoolOp .Or [a] pos) es s k s1 := fun σ H en at_ Q q => ⟨_, pw_or1 wT_ok, ha σ H en at_ Q q⟩
theorem ew_and {k1 k2 : Bool} (ha : ET X z a es s k1 s) (hb : k1 = true → EW X z (.BoolOp .And (b :: xs) pos) es s k2 s) : EW X z (.BoolOp .And (a :: b :: xs) pos) es s (k1 && k2) s := by
  cases k1 with
  | true => exact ew_andT ha (hb rfl)
  | false => exact ew_andF ha
theorem ew_or {k1 k2 : Bool} (ha : ET X z a es s k1 s) (hb : k1 = false → EW X z (.BoolOp .Or (b :: xs) pos) es s k2 s) : EW X z (.BoolOp .Or (a :: b :: xs) pos) es s (k1 || k2) s := by
  cases k1 with
  | true => exact ew_orT ha
  | false => exact ew_orF ha (hb rfl)
theorem et_chain {i j l : Int} {s3 : S} (ha : EV X z a es s (.int i) s1) (hb : EV X z b es s1 (.int j) s2) (hc : EV X z c es s2 (.int l) s2) (hm : lastMarks [.LtE, .LtE] [b, c] = false := by with_unfolding_all rfl) : EV X z (.Compare a [.LtE, .LtE] [b, c] pos) es s (.bool (decide (i ≤ j) && decide (j ≤ l))) s2 :=
  .mk (pe_chain op_le op_le wE_ok wE_ok wE_ok hm) fun σ H en at_ Q q => ha σ H en at_ _ fun x H1 e1 a1 x1 => hb σ H1 (en.mono e1) a1 _ fun y H2 e2 a2 y2 => by
    cases x1
    cases y2
    refine ⟨i, j, rfl, rfl, decide (i ≤ j), rfl, ?_⟩
    cases hk : decide (i ≤ j) with
    | true =>
      refine iteT (hc σ H2 (en.mono (e1.trans e2)) a2 _ fun w H3 e3 a3 w3 => ?_)
      cases w3
      exact ⟨j, l, rfl, rfl, by rw [hk] at q; exact q _ H3 ((e1.trans e2).trans e3) a3 (.bl _)⟩
    | false => exact iteF (by rw [hk] at q; exact q _ H2 (e1.trans e2) a2 (.bl _))
theorem et_chainLt {i j l : Int} (ha : EV X z a es s (.int i) s1) (hb : EV X z b es s1 (.int j) s2) (hc : EV X z c es s2 (.int l) s2) (hm : lastMarks [.Lt, .Lt] [b, c] = false := by with_unfolding_all rfl) : EV X z (.Compare a [.Lt, .Lt] [b, c] pos) es s (.bool (decide (i < j) && decide (j < l))) s2 :=
  .mk (pe_chain op_lt op_lt wE_ok wE_ok wE_ok hm) fun σ H en at_ Q q => ha σ H en at_ _ fun x H1 e1 a1 x1 => hb σ H1 (en.mono e1) a1 _ fun y H2 e2 a2 y2 => by
    cases x1
    cases y2
    refine ⟨i, j, rfl, rfl, decide (i < j), rfl, ?_⟩
    cases hk : decide (i < j) with
    | true =>
      refine iteT (hc σ H2 (en.mono (e1.trans e2)) a2 _ fun w H3 e3 a3 w3 => ?_)
      cases w3
      exact ⟨j, l, rfl, rfl, by rw [hk] at q; exact q _ H3 ((e1.trans e2).trans e3) a3 (.bl _)⟩
    | false => exact iteF (by rw [hk] at q; exact q _ H2 (e1.trans e2) a2 (.bl _))
end

/-! ### 4. statements -/
inductive Out | nx (es : List Sl) (s : S) | rt (d : PyData) (s : S)
def Meets (z : Z) (H : Hp) (D : Ends) : Out → Prop
  | .nx es s => ∀ σ' H', Ez z H H' → At z H' s → En z H' σ' es → D.nx σ' H'
  | .rt d s => ∀ v H', Ez z H H' → At z H' s → Da z H' v d → D.rt v H'
theorem Meets.mono {z : Z} {H H1 : Hp} {D : Ends} (e : Ez z H H1) : ∀ {o : Out}, Meets z H D o → Meets z H1 D o
  | .nx es s, h => fun σ' H' k a n => h σ' H' (e.trans k) a n
  | .rt d s, h => fun v H' k a n => h v H' (e.trans k) a n
/-- a block: from what the slots hold and the state ahead to how it ends -/
def SR (X : Cx) (z : Z) (st : List Stmt) (es : List Sl) (s : S) (o : Out) : Prop := ∀ σ H, En z H σ es → At z H s → ∀ D : Ends, Meets z H D o → wB X st D σ H
section
variable {X : Cx} {z : Z} {es es1 es2 fs : List Sl} {s s1 s2 s' : S} {a b c e : Expr} {xs : List Expr} {pos p p1 p2 p3 p4 : Pos} {d d1 d2 : PyData} {ds : List PyData} {as : List Sl} {o : Out} {st : Stmt} {rest body els : List Stmt}
theorem sr_nil : SR X z [] es s (.nx es s) := fun σ H en at_ D q => ⟨_, pss_nil, q σ H (.refl H) at_ en⟩
theorem sr_le (h : SR X z body es s (.nx es1 s1)) (l : Le es1 es2) : SR X z body es s (.nx es2 s1) := fun σ H en at_ D q => h σ H en at_ D fun σ' H' k a n => q σ' H' k a (n.le l)
theorem sr_pre (l : Le es fs) (h : SR X z body fs s o) : SR X z body es s o := fun σ H en at_ D q => h σ H (en.le l) at_ D q
theorem sr_is {o' : Out} (h : SR X z body es s o) (q : o = o') : SR X z body es s o' := q ▸ h
theorem sr_ret (h : EV X z e es s d s1) : SR X z (.Return (some e) pos :: rest) es s (.rt d s1) := fun σ H en at_ D q =>
  ⟨_, pss_cons (ps_ret wE_ok) wB_never, h σ H en at_ _ fun v H1 e1 a1 v1 => q v H1 e1 a1 v1⟩
theorem sr_retN : SR X z (.Return none pos :: rest) es s (.rt .none s) := fun σ H en at_ D q =>
  ⟨_, pss_cons ps_retN wB_never, q _ H (.refl H) at_ .non⟩
theorem sr_asg (i : Nat) {x : Str} (hN : X.N.Nodup) (h : EV X z e es s d s1) (k : SR X z rest (es.set i (.val d)) s1 o) (hi : X.N[i]? = some x := by rfl) (hx : Loc X.env.scope x := by first | exact Or.inl rfl | exact Or.inr rfl)
    (hs : swapsWith e (some (.Name x p)) pos.line X.env = pure false := by rfl) (hf : X.fn x = true ∨ X.env.scope.names.lookup x = some .local := by first | exact .inl rfl | exact .inr rfl) : SR X z (.Assign [.Name x p] e pos :: rest) es s o := fun σ H en at_ D q =>
  ⟨_, pss_cons (ps_set hN hi hx wE_ok hs hf) wB_ok, h σ H en at_ _ fun v H1 e1 a1 v1 => k _ H1 ((en.mono e1).set i (.val v1)) a1 D (q.mono e1)⟩
theorem sr_expr (h : EV X z e es s d s1) (k : SR X z rest es s1 o) (hs : swapsWith e none pos.line X.env = pure false := by rfl) : SR X z (.Expr e pos :: rest) es s o := fun σ H en at_ D q =>
  ⟨_, pss_cons (ps_expr wE_ok hs) wB_ok, h σ H en at_ _ fun v H1 e1 a1 v1 => k _ H1 (en.mono e1) a1 D (q.mono e1)⟩
/-- x, y = e1, e2 -/
theorem sr_par (i j : Nat) {x y : Str} {kt k2 : Nat} (hc : X.calm = true) (hN : X.N.Nodup) (h : ED X z [a, b] es s [d1, d2] s1) (k : SR X z rest ((es.set i (.val d1)).set j (.val d2)) s1 o)
    (hi : X.N[i]? = some x := by rfl) (hj : X.N[j]? = some y := by rfl) (hij : i ≠ j := by decide) (hx : X.env.scope.names.lookup x = some .local := by rfl) (hy : X.env.scope.names.lookup y = some .local := by rfl)
    (hw : swappedStores [.Tuple [.Name x p1, .Name y p2] kt p3] (.Tuple [a, b] k2 p4) X.env = pure (some [x, y]) := by rfl) (hs : swapsWithSole [.Tuple [.Name x p1, .Name y p2] kt p3] (.Tuple [a, b] k2 p4) pos.line X.env = pure false := by rfl) :
    SR X z (.Assign [.Tuple [.Name x p1, .Name y p2] kt p3] (.Tuple [a, b] k2 p4) pos :: rest) es s o := fun σ H en at_ D q =>
  ⟨_, pss_cons (ps_par hc hN hi hj hij hx hy wA_ok hw hs) wB_ok, h σ H en at_ _ fun vs H1 e1 a1 v1 => by
    cases v1 with
    | cons h1 r =>
      cases r with
      | cons h2 r =>
        cases r
        exact ⟨_, _, rfl, k _ H1 (((en.mono e1).set i (.val h1)).set j (.val h2)) a1 D (q.mono e1)⟩⟩
/-- x, y = e, e a tuple -/
theorem sr_unp2 (i j : Nat) {x y : Str} {kt : Nat} (hc : X.calm = true) (hN : X.N.Nodup) (h : EV X z e es s (.tuple [d1, d2]) s1) (k : SR X z rest ((es.set i (.val d1)).set j (.val d2)) s1 o)
    (hi : X.N[i]? = some x := by rfl) (hj : X.N[j]? = some y := by rfl) (hx : Loc X.env.scope x := by first | exact Or.inl rfl | exact Or.inr rfl) (hy : Loc X.env.scope y := by first | exact Or.inl rfl | exact Or.inr rfl)
    (fx : X.fn x = true ∨ X.env.scope.names.lookup x = some .local := by first | exact .inl rfl | exact .inr rfl) (fy : X.fn y = true ∨ X.env.scope.names.lookup y = some .local := by first | exact .inl rfl | exact .inr rfl)
    (hs : swapsWithSole [.Tuple [.Name x p1, .Name y p2] kt p3] e pos.line X.env = pure false := by rfl) (hw : swappedStores [.Tuple [.Name x p1, .Name y p2] kt p3] e X.env = pure none := by rfl) 
    (hn : (assignEach [.Name x p1, .Name y p2] X.env).length = 2 := by rfl) (hst : (assignEach [.Name x p1, .Name y p2] X.env).findIdx? (·.1) = none := by rfl)
    (h1 : (assignEach (.Name x p1 :: [.Name y p2]) X.env).map (·.2) = assign (.Name x p1) X.env :: (assignEach [.Name y p2] X.env).map (·.2) := by rfl) (h2 : (assignEach (.Name y p2 :: []) X.env).map (·.2) = assign (.Name y p2) X.env :: (assignEach [] X.env).map (·.2) := by rfl) :
    SR X z (.Assign [.Tuple [.Name x p1, .Name y p2] kt p3] e pos :: rest) es s o := fun σ H en at_ D q =>
  ⟨_, pss_cons (ps_asg wE_ok (pg_tup hc (pgs_cons (pg_name hN hi hx fx) (pgs_cons (pg_name hN hj hy fy) pgs_nil h2) h1) hn hst) hs hw) wB_ok, h σ H en at_ _ fun v H1 e1 a1 v1 => by
    cases v1 with
    | tup n e r =>
      cases r with
      | cons v1 r =>
        cases r with
        | cons v2 r =>
          cases r
          exact ⟨_, _, rfl, .inl (.inl e), rfl, _, _, rfl, _, _, rfl, rfl, k _ H1 (((en.mono e1).set i (.val v1)).set j (.val v2)) a1 D (q.mono e1)⟩⟩
theorem sr_unp3 (i j l : Nat) {x y w : Str} {kt : Nat} {d3 : PyData} {p5 : Pos} (hc : X.calm = true) (hN : X.N.Nodup) (h : EV X z e es s (.tuple [d1, d2, d3]) s1) (k : SR X z rest (((es.set i (.val d1)).set j (.val d2)).set l (.val d3)) s1 o)
    (hi : X.N[i]? = some x := by rfl) (hj : X.N[j]? = some y := by rfl) (hl : X.N[l]? = some w := by rfl) (hx : Loc X.env.scope x := by first | exact Or.inl rfl | exact Or.inr rfl) (hy : Loc X.env.scope y := by first | exact Or.inl rfl | exact Or.inr rfl) (hw' : Loc X.env.scope w := by first | exact Or.inl rfl | exact Or.inr rfl)
    (fx : X.fn x = true ∨ X.env.scope.names.lookup x = some .local := by first | exact .inl rfl | exact .inr rfl) (fy : X.fn y = true ∨ X.env.scope.names.lookup y = some .local := by first | exact .inl rfl | exact .inr rfl) (fw : X.fn w = true ∨ X.env.scope.names.lookup w = some .local := by first | exact .inl rfl | exact .inr rfl)
    (hs : swapsWithSole [.Tuple [.Name x p1, .Name y p2, .Name w p5] kt p3] e pos.line X.env = pure false := by rfl) (hw : swappedStores [.Tuple [.Name x p1, .Name y p2, .Name w p5] kt p3] e X.env = pure none := by rfl) 
    (hn : (assignEach [.Name x p1, .Name y p2, .Name w p5] X.env).length = 3 := by rfl) (hst : (assignEach [.Name x p1, .Name y p2, .Name w p5] X.env).findIdx? (·.1) = none := by rfl)
    (h1 : (assignEach (.Name x p1 :: [.Name y p2, .Name w p5]) X.env).map (·.2) = assign (.Name x p1) X.env :: (assignEach [.Name y p2, .Name w p5] X.env).map (·.2) := by rfl) (h2 : (assignEach (.Name y p2 :: [.Name w p5]) X.env).map (·.2) = assign (.Name y p2) X.env :: (assignEach [.Name w p5] X.env).map (·.2) := by rfl)
    (h3 : (assignEach (.Name w p5 :: []) X.env).map (·.2) = assign (.Name w p5) X.env :: (assignEach [] X.env).map (·.2) := by rfl) :
    SR X z (.Assign [.Tuple [.Name x p1, .Name y p2, .Name w p5] kt p3] e pos :: rest) es s o := fun σ H en at_ D q =>
  ⟨_, pss_cons (ps_asg wE_ok (pg_tup hc (pgs_cons (pg_name hN hi hx fx) (pgs_cons (pg_name hN hj hy fy) (pgs_cons (pg_name hN hl hw' fw) pgs_nil h3) h2) h1) hn hst) hs hw) wB_ok, h σ H en at_ _ fun v H1 e1 a1 v1 => by
    cases v1 with
    | tup n e r =>
      cases r with
      | cons v1 r =>
        cases r with
        | cons v2 r =>
          cases r with
          | cons v3 r =>
            cases r
            exact ⟨_, _, rfl, .inl (.inl e), rfl, _, _, rfl, _, _, rfl, _, _, rfl, rfl, k _ H1 ((((en.mono e1).set i (.val v1)).set j (.val v2)).set l (.val v3)) a1 D (q.mono e1)⟩⟩
theorem sr_unp4 (i j l m : Nat) {x y w u : Str} {kt : Nat} {d3 d4 : PyData} {p5 p6 : Pos} (hc : X.calm = true) (hN : X.N.Nodup) (h : EV X z e es s (.tuple [d1, d2, d3, d4]) s1) (k : SR X z rest ((((es.set i (.val d1)).set j (.val d2)).set l (.val d3)).set m (.val d4)) s1 o)
    (hi : X.N[i]? = some x := by rfl) (hj : X.N[j]? = some y := by rfl) (hl : X.N[l]? = some w := by rfl) (hm : X.N[m]? = some u := by rfl) (hx : Loc X.env.scope x := by first | exact Or.inl rfl | exact Or.inr rfl) (hy : Loc X.env.scope y := by first | exact Or.inl rfl | exact Or.inr rfl) (hw' : Loc X.env.scope w := by first | exact Or.inl rfl | exact Or.inr rfl) (hu : Loc X.env.scope u := by first | exact Or.inl rfl | exact Or.inr rfl)
    (fx : X.fn x = true ∨ X.env.scope.names.lookup x = some .local := by first | exact .inl rfl | exact .inr rfl) (fy : X.fn y = true ∨ X.env.scope.names.lookup y = some .local := by first | exact .inl rfl | exact .inr rfl) (fw : X.fn w = true ∨ X.env.scope.names.lookup w = some .local := by first | exact .inl rfl | exact .inr rfl) (fu : X.fn u = true ∨ X.env.scope.names.lookup u = some .local := by first | exact .inl rfl | exact .inr rfl)
    (hs : swapsWithSole [.Tuple [.Name x p1, .Name y p2, .Name w p5, .Name u p6] kt p3] e pos.line X.env = pure false := by rfl) (hw : swappedStores [.Tuple [.Name x p1, .Name y p2, .Name w p5, .Name u p6] kt p3] e X.env = pure none := by rfl) 
    (hn : (assignEach [.Name x p1, .Name y p2, .Name w p5, .Name u p6] X.env).length = 4 := by rfl) (hst : (assignEach [.Name x p1, .Name y p2, .Name w p5, .Name u p6] X.env).findIdx? (·.1) = none := by rfl)
    (h1 : (assignEach (.Name x p1 :: [.Name y p2, .Name w p5, .Name u p6]) X.env).map (·.2) = assign (.Name x p1) X.env :: (assignEach [.Name y p2, .Name w p5, .Name u p6] X.env).map (·.2) := by rfl) (h2 : (assignEach (.Name y p2 :: [.Name w p5, .Name u p6]) X.env).map (·.2) = assign (.Name y p2) X.env :: (assignEach [.Name w p5, .Name u p6] X.env).map (·.2) := by rfl)
    (h3 : (assignEach (.Name w p5 :: [.Name u p6]) X.env).map (·.2) = assign (.Name w p5) X.env :: (assignEach [.Name u p6] X.env).map (·.2) := by rfl) (h4 : (assignEach (.Name u p6 :: []) X.env).map (·.2) = assign (.Name u p6) X.env :: (assignEach [] X.env).map (·.2) := by rfl) :
    SR X z (.Assign [.Tuple [.Name x p1, .Name y p2, .Name w p5, .Name u p6] kt p3] e pos :: rest) es s o := fun σ H en at_ D q =>
  ⟨_, pss_cons (ps_asg wE_ok (pg_tup hc (pgs_cons (pg_name hN hi hx fx) (pgs_cons (pg_name hN hj hy fy) (pgs_cons (pg_name hN hl hw' fw) (pgs_cons (pg_name hN hm hu fu) pgs_nil h4) h3) h2) h1) hn hst) hs hw) wB_ok, h σ H en at_ _ fun v H1 e1 a1 v1 => by
    cases v1 with
    | tup n e r =>
      cases r with
      | cons v1 r =>
        cases r with
        | cons v2 r =>
          cases r with
          | cons v3 r =>
            cases r with
            | cons v4 r =>
              cases r
              exact ⟨_, _, rfl, .inl (.inl e), rfl, _, _, rfl, _, _, rfl, _, _, rfl, _, _, rfl, rfl, k _ H1 (((((en.mono e1).set i (.val v1)).set j (.val v2)).set l (.val v3)).set m (.val v4)) a1 D (q.mono e1)⟩⟩
/-- if: the branch returns | goes on -/
theorem sr_ifT (hc : ET X z c es s true s1) (h : SR X z body es s1 (.rt d s2)) : SR X z (.If c body els pos :: rest) es s (.rt d s2) := fun σ H en at_ D q =>
  ⟨_, pss_cons (ps_if wT_ok wB_ok wB_never) wB_never, hc σ H en at_ _ fun H1 e1 a1 => iteT (h σ H1 (en.mono e1) a1 _ fun v H2 e2 a2 v2 => q v H2 (e1.trans e2) a2 v2)⟩
theorem sr_ifTn (hc : ET X z c es s true s1) (h : SR X z body es s1 (.nx es2 s2)) (k : SR X z rest es2 s2 o) : SR X z (.If c body els pos :: rest) es s o := fun σ H en at_ D q =>
  ⟨_, pss_cons (ps_if wT_ok wB_ok wB_never) wB_ok, hc σ H en at_ _ fun H1 e1 a1 => iteT (h σ H1 (en.mono e1) a1 _ fun σ' H2 e2 a2 n2 => k σ' H2 n2 a2 D (q.mono (e1.trans e2)))⟩
theorem sr_ifF (hc : ET X z c es s false s1) (k : SR X z rest es s1 o) : SR X z (.If c body [] pos :: rest) es s o := fun σ H en at_ D q =>
  ⟨_, pss_cons (ps_if wT_ok wB_never pss_nil) wB_ok, hc σ H en at_ _ fun H1 e1 a1 => iteF (k σ H1 (en.mono e1) a1 D (q.mono e1))⟩
theorem sr_elF (hc : ET X z c es s false s1) (h : SR X z els es s1 (.rt d s2)) : SR X z (.If c body els pos :: rest) es s (.rt d s2) := fun σ H en at_ D q =>
  ⟨_, pss_cons (ps_if wT_ok wB_never wB_ok) wB_never, hc σ H en at_ _ fun H1 e1 a1 => iteF (h σ H1 (en.mono e1) a1 _ fun v H2 e2 a2 v2 => q v H2 (e1.trans e2) a2 v2)⟩
theorem sr_elFn (hc : ET X z c es s false s1) (h : SR X z els es s1 (.nx es2 s2)) (k : SR X z rest es2 s2 o) : SR X z (.If c body els pos :: rest) es s o := fun σ H en at_ D q =>
  ⟨_, pss_cons (ps_if wT_ok wB_never wB_ok) wB_ok, hc σ H en at_ _ fun H1 e1 a1 => iteF (h σ H1 (en.mono e1) a1 _ fun σ' H2 e2 a2 n2 => k σ' H2 n2 a2 D (q.mono (e1.trans e2)))⟩
/-- the state's list read and written by place -/
def comp (s : S) : Nat → Int
  | 0 => s.1
  | 1 => s.2.1
  | _ => s.2.2
def putc (s : S) (k : Nat) (i : Int) : S := match k with
  | 0 => (i, s.2.1, s.2.2)
  | 1 => (s.1, i, s.2.2)
  | _ => (s.1, s.2.1, i)
theorem ev_dice (i k : Nat) {x : Str} {j} (hk : k < 3 := by decide) (h : es[i]? = some .dice := by rfl) (hN : X.N[i]? = some x := by rfl) (hv : Vis X.env.scope x := by first | exact Or.inl rfl | exact Or.inr (Or.inl rfl) | exact Or.inr (Or.inr rfl))
    (hd : (x == ("__debug__" : Str)) = false := by decide) (hcd : (x == ("__classdict__" : Str)) = false := by decide) : EV X z (.Subscript (.Name x p) (.Constant (.int (k : Int)) j p2) pos) es s (.int (comp s k)) s :=
  .mk (pe_ix ix_list (pe_var hN hv hd hcd) pe_int (by intro _ _; rfl)) fun σ H en at_ Q q => by
    obtain ⟨a, e1, e2⟩ := en.getD h
    refine ⟨_, e1, a, _, (k : Int), .int (comp s k), rfl, rfl, .inl (.inl (at_.d a e2)), ?_, q _ H (.refl H) at_ (.int _)⟩
    match k, hk with
    | 0, _ => exact atI_nat (j := 0) rfl
    | 1, _ => exact atI_nat (j := 1) rfl
    | 2, _ => exact atI_nat (j := 2) rfl
theorem sr_put (i k : Nat) {x : Str} {j} {n : Int} (h : EV X z e es s (.int n) s1) (kk : SR X z rest es (putc s1 k n) o) (hk : k < 3 := by decide) (hi : es[i]? = some .dice := by rfl) (hN : X.N[i]? = some x := by rfl) (hv : Vis X.env.scope x := by first | exact Or.inl rfl | exact Or.inr (Or.inl rfl) | exact Or.inr (Or.inr rfl))
    (hd : (x == ("__debug__" : Str)) = false := by decide) (hcd : (x == ("__classdict__" : Str)) = false := by decide)
    (hs : swapsWithSole [.Subscript (.Name x p) (.Constant (.int (k : Int)) j p2) p3] e pos.line X.env = pure false := by rfl) (hw : swappedStores [.Subscript (.Name x p) (.Constant (.int (k : Int)) j p2) p3] e X.env = pure none := by rfl) :
    SR X z (.Assign [.Subscript (.Name x p) (.Constant (.int (k : Int)) j p2) p3] e pos :: rest) es s o := fun σ H en at_ D q =>
  ⟨_, pss_cons (ps_asg wE_ok (pg_sub (pe_var hN hv hd hcd) pe_int set_list) hs hw) wB_ok, h σ H en at_ _ fun v H1 e1 a1 v1 => by
    cases v1
    obtain ⟨a, k1, k2⟩ := en.getD hi
    have hE : Ez z H1 (upd H1 a (dv (putc s1 k n))) := .set k2
    have go : wB X rest D σ (upd H1 a (dv (putc s1 k n))) := kk σ _ ((en.mono e1).mono hE) (a1.set k2) D (q.mono (e1.trans hE))
    refine ⟨_, k1, a, _, (k : Int), k, rfl, rfl, a1.d a k2, ?_, ?_⟩
    · match k, hk with
      | 0, _ => rfl
      | 1, _ => rfl
      | 2, _ => rfl
    · match k, hk, go with
      | 0, _, go => exact go
      | 1, _, go => exact go
      | 2, _, go => exact go⟩

/-! ### loops -/
theorem sr_for1 (l : Nat) {x : Str} {n : Int} (hp : PassesOwn (model X.prog X.w) X.A X.env X.xe) (hc : X.calm = true) (hN : X.N.Nodup) (hm : X.mg "range" = none) (h : ED X z [a] es s [.int n] s1) (hn : n < 2 ^ 60) (hn0 : -(2 ^ 60) < n) (E : Nat → List Sl) (T : Nat → S) (h0 : Le es (E 0)) (t0 : T 0 = s1)
    (hb : ∀ i : Nat, (i : Int) < n → SR X z body ((E i).set l (.val (.int (i : Int)))) (T i) (.nx (E (i + 1)) (T (i + 1)))) (k : SR X z rest (E n.toNat) (T n.toNat) o)
    (hi : X.N[l]? = some x := by rfl) (hx : Loc X.env.scope x := by first | exact Or.inl rfl | exact Or.inr rfl) (hg : Gl X "range" := by rfl) (hs : starEach [a] X.env = [(false, eval a X.env)] := by rfl)
    (hf : X.fn x = true ∨ X.env.scope.names.lookup x = some .local := by first | exact .inl rfl | exact .inr rfl) (hfo : ∀ x, foldedSetIterable (.Call (.Name "range" p2) [a] [] p3) X.env x = pure x := by intro _; rfl) :
    SR X z (.For (.Name x p) (.Call (.Name "range" p2) [a] [] p3) body [] pos :: rest) es s o := fun σ H en at_ D q =>
  ⟨_, pss_cons (ps_for hp hc (pi_range1 hg hm wA_ok hs) (pg_name hN hi hx hf) wB_ok hfo) wB_ok, h σ H en at_ _ fun vs H1 e1 a1 v1 => by
    cases v1 with
    | cons v1 r =>
      cases r
      cases v1
      refine ⟨n, rfl, by omega, by omega, for_range (lo := 0) (n := n.toNat) (fun i σ' H' => Ez z H H' ∧ At z H' (T i) ∧ En z H' σ' (E i)) ⟨e1, t0 ▸ a1, (en.mono e1).le h0⟩ (fun i σ' H' hi w => ?_) fun σ' H' w => k σ' H' w.2.2 w.2.1 D (q.mono w.1)⟩
      have e0 : (0 : Int) + (i : Int) = (i : Int) := Int.zero_add _
      show wB X body _ (σ'.set l (some (.int ((0 : Int) + (i : Int))))) H'
      rw [e0]
      exact hb i (by omega) _ H' (w.2.2.set l (.val (.int _))) w.2.1 _ fun σ2 H2 e2 a2 n2 => ⟨w.1.trans e2, a2, n2⟩⟩
theorem sr_for2 (l : Nat) {x : Str} {lo n : Int} (hp : PassesOwn (model X.prog X.w) X.A X.env X.xe) (hc : X.calm = true) (hN : X.N.Nodup) (hm : X.mg "range" = none) (h : ED X z [a, b] es s [.int lo, .int n] s1) (hl : -(2 ^ 60) < lo ∧ lo < 2 ^ 60) (hn : n < 2 ^ 60) (hn0 : -(2 ^ 60) < n) (E : Nat → List Sl) (T : Nat → S) (h0 : Le es (E 0)) (t0 : T 0 = s1)
    (hb : ∀ i : Nat, lo + (i : Int) < n → SR X z body ((E i).set l (.val (.int (lo + (i : Int))))) (T i) (.nx (E (i + 1)) (T (i + 1)))) (k : SR X z rest (E (n - lo).toNat) (T (n - lo).toNat) o)
    (hi : X.N[l]? = some x := by rfl) (hx : Loc X.env.scope x := by first | exact Or.inl rfl | exact Or.inr rfl) (hg : Gl X "range" := by rfl) (hs : starEach [a, b] X.env = [(false, eval a X.env), (false, eval b X.env)] := by rfl) (hs2 : starEach [b] X.env = [(false, eval b X.env)] := by rfl)
    (hf : X.fn x = true ∨ X.env.scope.names.lookup x = some .local := by first | exact .inl rfl | exact .inr rfl) (hfo : ∀ x, foldedSetIterable (.Call (.Name "range" p2) [a, b] [] p3) X.env x = pure x := by intro _; rfl) :
    SR X z (.For (.Name x p) (.Call (.Name "range" p2) [a, b] [] p3) body [] pos :: rest) es s o := fun σ H en at_ D q =>
  ⟨_, pss_cons (ps_for hp hc (pi_range2 hg hm wA_ok hs hs2) (pg_name hN hi hx hf) wB_ok hfo) wB_ok, h σ H en at_ _ fun vs H1 e1 a1 v1 => by
    cases v1 with
    | cons v1 r =>
      cases v1
      cases r with
      | cons v1 r =>
        cases v1
        cases r
        refine ⟨lo, n, rfl, by omega, for_range (lo := lo) (n := (n - lo).toNat) (fun i σ' H' => Ez z H H' ∧ At z H' (T i) ∧ En z H' σ' (E i)) ⟨e1, t0 ▸ a1, (en.mono e1).le h0⟩ (fun i σ' H' hi w => ?_) fun σ' H' w => k σ' H' w.2.2 w.2.1 D (q.mono w.1)⟩
        exact hb i (by omega) _ H' (w.2.2.set l (.val (.int _))) w.2.1 _ fun σ2 H2 e2 a2 n2 => ⟨w.1.trans e2, a2, n2⟩⟩
theorem sr_while (hp : PassesOwn (model X.prog X.w) X.A X.env X.xe) (E : Nat → List Sl) (T : Nat → S) (n : Nat) (h0 : Le es (E 0)) (t0 : T 0 = s) (hc : ∀ i, i < n → ET X z c (E i) (T i) true (T i)) (hb : ∀ i, i < n → SR X z body (E i) (T i) (.nx (E (i + 1)) (T (i + 1))))
    (hz : ET X z c (E n) (T n) false (T n)) (k : SR X z rest (E n) (T n) o) : SR X z (.While c body [] pos :: rest) es s o := fun σ H en at_ D q =>
  ⟨_, pss_cons (ps_while hp wT_ok wB_ok) wB_ok, fun m σ' H' => ∃ i, i ≤ n ∧ m = n - i ∧ Ez z H H' ∧ At z H' (T i) ∧ En z H' σ' (E i), ⟨n, 0, Nat.zero_le _, rfl, .refl H, t0 ▸ at_, en.le h0⟩, fun m σ' H' w => by
    obtain ⟨i, hi, rfl, e1, a1, n1⟩ := w
    by_cases hl : i < n
    · refine hc i hl σ' H' n1 a1 _ fun H1 e2 a2 => iteT ⟨fun σ2 H2 => Ez z H H2 ∧ At z H2 (T (i + 1)) ∧ En z H2 σ2 (E (i + 1)), fun σ2 H2 w => ⟨n - (i + 1), by omega, i + 1, hl, rfl, w.1, w.2.1, w.2.2⟩, ?_⟩
      exact hb i hl σ' H1 (n1.mono e2) a2 _ fun σ2 H2 e3 a3 n3 => ⟨(e1.trans e2).trans e3, a3, n3⟩
    · have : i = n := by omega
      subst this
      exact hz σ' H' n1 a1 _ fun H1 e2 a2 => iteF (k σ' H1 (n1.mono e2) a2 D (q.mono (e1.trans e2)))⟩
end

/-! ### 5. a def by its block -/
section
variable {P : Program} {w : World} {K : PySem.W.Frag} {mg : Str → Option Value} {base : Heap}
/-- what stands around a def's body -/
structure Ctx (X : Cx) (k : Nat) (N : List Str) : Prop where
  nd : X.N.Nodup
  calm : X.calm = true
  hp : PassesOwn (model X.prog X.w) X.A X.env X.xe
  hr : Room k X.A
  hu : X.A.units + 64 < cLine
theorem okD {x qual : Str} {st : Stmt} {f : Addr} {fd : FuncData} {N ps : List Str} {k : Nat} {R : Rel} (F : Fun K x qual st f fd) (Sc : FnScope N ps (defScope st)) (hl : ∀ as s d s', R as s d s' → as.length = ps.length)
    (hb : ∀ cdv A outer s0 H0 E, Ctx (cxOf CX0 P w K mg base N qual (defScope st) f cdv A outer s0 H0 E).nox k N → ∀ z as s d s', R as s d s' → SR (cxOf CX0 P w K mg base N qual (defScope st) f cdv A outer s0 H0 E).nox z (defBody st) (as ++ List.replicate (N.length - as.length) .un) s (.rt d s')) :
    FnOk P w K mg base CX0 (k + 1) f fd ps (spD R) := by
  refine F.ok Sc (fun vs H Q E h => ?_) (fun cdv A outer s0 H0 vs Q E hr h => ?_)
  · obtain ⟨z, as, s, d, s', hR, en, _⟩ := h
    have := en.length
    rw [List.length_map] at this
    rw [this]
    exact hl _ _ _ _ hR
  · obtain ⟨z, as, s, d, s', hR, en, at_, q⟩ := h
    have e1 : vs.length = as.length := by
      have := en.length
      rwa [List.length_map] at this
    have C : Ctx (cxOf CX0 P w K mg base N qual (defScope st) f cdv A outer s0 H0 E).nox k N := ⟨Sc.nd, rfl, PassesOwn.never, hr, hr.units⟩
    have g := hb cdv A outer s0 H0 E C z as s d s' hR (L2.start N vs) H0 (by
      unfold L2.start
      rw [e1]
      exact en.app (.uns _)) at_ { nx := fun _ H' => Q .non H', rt := Q } (fun v H' e a n => q v H' e a n)
    exact ⟨_, wB_ok, g⟩
theorem dn_of {x qual : Str} {st : Stmt} {f : Addr} {fd : FuncData} {ps : List Str} {k : Nat} {R : Rel} (F : Fun K x qual st f fd) (O : FnOk P w K mg base CX0 k f fd ps (spD R)) (hm : mg x = some (.ref f)) (hb : Binds K fd ps []) : Dn P w K mg base k x R := ⟨f, fd, ps, O, hm, F.kp, hb⟩
end

/-! ### 6. more -/
section
variable {X : Cx} {z : Z} {es es1 es2 fs : List Sl} {s s1 s2 s' : S} {a b c e : Expr} {xs : List Expr} {pos p p1 p2 p3 p4 : Pos} {d d1 d2 : PyData} {ds : List PyData} {as : List Sl} {o : Out} {st : Stmt} {rest body els : List Stmt}
theorem et_notT (h : ET X z a es s false s1) : ET X z (.UnaryOp .Not a pos) es s true s1 := et_not h
theorem et_notF (h : ET X z a es s true s1) : ET X z (.UnaryOp .Not a pos) es s false s1 := et_not h
theorem pl_int {i : Int} : Pl (.int i) := ⟨rfl, rfl⟩
theorem et_eqI {i j : Int} (hu : X.A.units + 64 < cLine) (ha : EV X z a es s (.int i) s1) (hb : EV X z b es s1 (.int j) s2) : ET X z (.Compare a [.Eq] [b] pos) es s (decide (i = j)) s2 :=
  ET.is (et_eq hu pl_int pl_int ha hb) rfl
theorem et_neI {i j : Int} (hu : X.A.units + 64 < cLine) (ha : EV X z a es s (.int i) s1) (hb : EV X z b es s1 (.int j) s2) : ET X z (.Compare a [.NotEq] [b] pos) es s (!decide (i = j)) s2 :=
  ET.is (et_ne hu pl_int pl_int ha hb) rfl
theorem ev_eqI {i j : Int} (hu : X.A.units + 64 < cLine) (ha : EV X z a es s (.int i) s1) (hb : EV X z b es s1 (.int j) s2) : EV X z (.Compare a [.Eq] [b] pos) es s (.bool (decide (i = j))) s2 :=
  EV.is (ev_eq hu pl_int pl_int ha hb) rfl
end
section
variable {P : Program} {w : World} {K : PySem.W.Frag} {mg : Str → Option Value} {base : Heap}
/-- a def whose block ends without a return -/
theorem okN {x qual : Str} {st : Stmt} {f : Addr} {fd : FuncData} {N ps : List Str} {k : Nat} {R : Rel} (F : Fun K x qual st f fd) (Sc : FnScope N ps (defScope st)) (hl : ∀ as s d s', R as s d s' → as.length = ps.length)
    (hb : ∀ cdv A outer s0 H0 E, Ctx (cxOf CX0 P w K mg base N qual (defScope st) f cdv A outer s0 H0 E).nox k N → ∀ z as s d s', R as s d s' → d = .none ∧ ∃ es', SR (cxOf CX0 P w K mg base N qual (defScope st) f cdv A outer s0 H0 E).nox z (defBody st) (as ++ List.replicate (N.length - as.length) .un) s (.nx es' s')) :
    FnOk P w K mg base CX0 (k + 1) f fd ps (spD R) := by
  refine F.ok Sc (fun vs H Q E h => ?_) (fun cdv A outer s0 H0 vs Q E hr h => ?_)
  · obtain ⟨z, as, s, d, s', hR, en, _⟩ := h
    have := en.length
    rw [List.length_map] at this
    rw [this]
    exact hl _ _ _ _ hR
  · obtain ⟨z, as, s, d, s', hR, en, at_, q⟩ := h
    have e1 : vs.length = as.length := by
      have := en.length
      rwa [List.length_map] at this
    have C : Ctx (cxOf CX0 P w K mg base N qual (defScope st) f cdv A outer s0 H0 E).nox k N := ⟨Sc.nd, rfl, PassesOwn.never, hr, hr.units⟩
    obtain ⟨rfl, es', hb'⟩ := hb cdv A outer s0 H0 E C z as s d s' hR
    have g := hb' (L2.start N vs) H0 (by
      unfold L2.start
      rw [e1]
      exact en.app (.uns _)) at_ { nx := fun _ H' => Q .non H', rt := Q } (fun σ' H' e a n => q .non H' e a .non)
    exact ⟨_, wB_ok, g⟩
end

/-! ### 7. while by a word; isqrt, comb; texts -/
section
variable {X : Cx} {z : Z} {es es1 es2 fs : List Sl} {s s1 s2 s' : S} {a b c e : Expr} {xs : List Expr} {pos p p1 p2 p3 p4 apos : Pos} {d d1 d2 : PyData} {ds : List PyData} {as : List Sl} {o : Out} {st : Stmt} {rest body els : List Stmt}
theorem sr_whileW (hp : PassesOwn (model X.prog X.w) X.A X.env X.xe) (W : Nat → List Sl → S → Prop) {m0 : Nat} (h0 : W m0 es s)
    (hs : ∀ m es s, W m es s → (ET X z c es s false s ∧ SR X z rest es s o) ∨ (ET X z c es s true s ∧ ∃ es' s' m', m' < m ∧ W m' es' s' ∧ SR X z body es s (.nx es' s'))) : SR X z (.While c body [] pos :: rest) es s o := fun σ H en at_ D q =>
  ⟨_, pss_cons (ps_while hp wT_ok wB_ok) wB_ok, fun m σ' H' => ∃ es' s', W m es' s' ∧ Ez z H H' ∧ At z H' s' ∧ En z H' σ' es', ⟨m0, es, s, h0, .refl H, at_, en⟩, fun m σ' H' w => by
    obtain ⟨es', s', w1, e1, a1, n1⟩ := w
    rcases hs m es' s' w1 with ⟨h1, h2⟩ | ⟨h1, es2, s2, m', hl, w2, h2⟩
    · exact h1 σ' H' n1 a1 _ fun H1 e2 a2 => iteF (h2 σ' H1 (n1.mono e2) a2 D (q.mono (e1.trans e2)))
    · refine h1 σ' H' n1 a1 _ fun H1 e2 a2 => iteT ⟨fun σ2 H2 => Ez z H H2 ∧ At z H2 s2 ∧ En z H2 σ2 es2, fun σ2 H2 w => ⟨m', hl, es2, s2, w2, w.1, w.2.1, w.2.2⟩, ?_⟩
      exact h2 σ' H1 (n1.mono e2) a2 _ fun σ2 H2 e3 a3 n3 => ⟨(e1.trans e2).trans e3, a3, n3⟩⟩
def rSqrt : List V → Hp → VK → Prop := fun vs H Q => ∃ n : Nat, vs = [.int (n : Int)] ∧ n.log2 < 13000 ∧ Q (.int ((Float64.isqrt n : Nat) : Int)) H
theorem cr_isqrt : CallR X (.builtin "math.isqrt") rSqrt := by
  intro pins s σ H vs us Q I r h
  obtain ⟨n, rfl, hn, q⟩ := h
  obtain ⟨u, rfl, t, rfl⟩ := vals1 r
  have g := PySem.W.mg_run_isqrt (n : Int) t (by omega) (by rw [Int.toNat_natCast]; omega) (by rw [Int.toNat_natCast]; omega)
  exact call_function_meets PySem.W.MGF.kind_isqrt PySem.W.MGF.plain_isqrt PySem.W.MGF.entry_isqrt (PySem.W.MGF.args_isqrt _) g.meets ⟨.int _, H, I.tok _, ⟨_, by rw [Int.toNat_natCast]⟩, q⟩
theorem rb_sqrt {i : Int} (h0 : 0 ≤ i) (h : i.natAbs.log2 < 13000) : RB z s rSqrt [.int i] (.int ((Float64.isqrt i.toNat : Nat) : Int)) := fun vs H at_ h Q q => by
  cases h with
  | cons h r =>
    cases r
    cases h
    exact ⟨i.toNat, by rw [Int.toNat_of_nonneg h0], by rw [show i.toNat = i.natAbs by omega]; assumption, q _ H (.refl H) at_ (.int _)⟩
theorem combEntry : entryFor table "math.comb" = some Builtin.«math.comb» := entryFor_of_tree (by kernel_rfl)
theorem combKind : builtinKind "math.comb" = none := by kernel_rfl
theorem combPlain : plainId "math.comb" = true := by decide +kernel
theorem combArgs (x y : Value) : argsOk "math.comb" ⟨[x, y], []⟩ := by unfold argsOk; kernel_rfl
theorem combOver (n : Int) (t : Tok) (k : Int) (u : Tok) (h0 : ¬ n < 0) (h1 : ¬ k < 0) (h2 : k > n) : Gives (Builtin.«math.comb» ⟨[.int n t, .int k u], []⟩) (.int 0) :=
  .of_wp fun M A E s Q h => by
    obtain ⟨hp, g, d, tk, os⟩ := s
    wp_walk
    exact ⟨_, rfl, h⟩
theorem combRun (n : Int) (t : Tok) (k : Int) (u : Tok) (h0 : ¬ n < 0) (h1 : ¬ k < 0) (h2 : ¬ k > n) (h3 : ¬ min k (n - k) > Builtin.Math.maxSsize) (h4 : ¬ min k (n - k) > Builtin.Math.manyFactors) (h5 : ¬ min k (n - k) > 9000)
    (hsz : (Builtin.Math.fallingProduct n (min k (n - k)).toNat / Builtin.Math.fallingProduct (min k (n - k)) (min k (n - k)).toNat).natAbs.log2 < bitsLine) :
    Gives (Builtin.«math.comb» ⟨[.int n t, .int k u], []⟩) (.int (Builtin.Math.fallingProduct n (min k (n - k)).toNat / Builtin.Math.fallingProduct (min k (n - k)) (min k (n - k)).toNat)) :=
  .of_wp fun M A E s Q h => by
    obtain ⟨hp, g, d, tk, os⟩ := s
    wp_walk
    (try (refine wpAny_ite_false (decide_eq_false (Nat.not_le.mpr hsz)) ?_; wp_walk))
    exact ⟨_, rfl, h⟩
end
def combV (n k : Int) : Int := if k > n then 0 else Builtin.Math.fallingProduct n (min k (n - k)).toNat / Builtin.Math.fallingProduct (min k (n - k)) (min k (n - k)).toNat
def rComb : List V → Hp → VK → Prop := fun vs H Q => ∃ n k : Int, vs = [.int n, .int k] ∧ 0 ≤ n ∧ n ≤ 1000 ∧ 0 ≤ k ∧ k ≤ 1000 ∧ (combV n k).natAbs.log2 < bitsLine ∧ Q (.int (combV n k)) H
section
variable {X : Cx} {z : Z} {es es1 es2 fs : List Sl} {s s1 s2 s' : S} {a b c e f : Expr} {xs : List Expr} {pos p p1 p2 p3 p4 apos : Pos} {d d1 d2 : PyData} {ds : List PyData} {as : List Sl} {o : Out} {st : Stmt} {rest body els : List Stmt}
theorem cr_comb : CallR X (.builtin "math.comb") rComb := by
  intro pins s σ H vs us Q I r h
  obtain ⟨n, k, rfl, n0, n1, k0, k1, hz, q⟩ := h
  obtain ⟨t, u, rfl⟩ := Vals.int2 r
  have hm : Builtin.Math.maxSsize > 100000 := by decide
  have hf : (9000 : Int) < Builtin.Math.manyFactors := by decide
  unfold combV at hz q
  by_cases hk : k > n
  · rw [if_pos hk] at q
    exact call_function_meets combKind combPlain combEntry (combArgs _ _) (combOver n t k u (by omega) (by omega) hk).meets ⟨.int _, H, I.tok _, ⟨_, rfl⟩, q⟩
  · rw [if_neg hk] at hz q
    exact call_function_meets combKind combPlain combEntry (combArgs _ _) (combRun n t k u (by omega) (by omega) hk (by omega) (by omega) (by omega) hz).meets ⟨.int _, H, I.tok _, ⟨_, rfl⟩, q⟩
theorem rb_comb {n k : Int} (n0 : 0 ≤ n) (n1 : n ≤ 1000) (k0 : 0 ≤ k) (k1 : k ≤ 1000) (hz : (combV n k).natAbs.log2 < bitsLine) : RB z s rComb [.int n, .int k] (.int (combV n k)) := fun vs H at_ h Q q => by
  cases h with
  | cons h r =>
    cases h
    cases r with
    | cons h r =>
      cases h
      cases r
      exact ⟨n, k, rfl, n0, n1, k0, k1, hz, q _ H (.refl H) at_ (.int _)⟩
/-- a method of a text -/
def RM (z : Z) (s : S) (r : V → List V → Hp → VK → Prop) (x : Str) (ds : List PyData) (d : PyData) : Prop := ∀ vs H, At z H s → DaAll z H vs ds → ∀ Q : VK, (∀ v H2, Ez z H H2 → At z H2 s → Da z H2 v d → Q v H2) → r (.str x) vs H Q
theorem ev_m0 {id : String} {name x : Str} {r : V → List V → Hp → VK → Prop} (slot : Slot "str" name id) (ty : typeOf (.builtin id) = pure (.type "method_descriptor")) (rule : MtR X id r) (hr : RM z s1 r x [] d) (ho : EV X z a es s (.str x) s1)
    (hbase : attributeBase a name X.env (eval a X.env) = eval a X.env := by rfl) (hline : (apos.endLine == pos.line) = true := by rfl) : EV X z (.Call (.Attribute a name apos) [] [] pos) es s d s1 :=
  .mk (pe_m0 slot ty rule wE_ok hbase hline) fun σ H en at_ Q q => ho σ H en at_ _ fun v H1 e1 a1 v1 => by
    cases v1
    exact ⟨⟨x, rfl⟩, hr [] H1 a1 .nil Q fun v H2 e2 a2 v2 => q v H2 (e1.trans e2) a2 v2⟩
theorem ev_m1 {id : String} {name x : Str} {r : V → List V → Hp → VK → Prop} (slot : Slot "str" name id) (ty : typeOf (.builtin id) = pure (.type "method_descriptor")) (rule : MtR X id r) (hr : RM z s2 r x [d1] d) (ho : EV X z a es s (.str x) s1) (he : EV X z e es s1 d1 s2)
    (hs : starEach [e] X.env = [(false, eval e X.env)] := by rfl) (hbase : attributeBase a name X.env (eval a X.env) = eval a X.env := by rfl) (hline : (apos.endLine == pos.line) = true := by rfl) : EV X z (.Call (.Attribute a name apos) [e] [] pos) es s d s2 :=
  .mk (pe_m1 slot ty rule wE_ok wE_ok hs hbase hline) fun σ H en at_ Q q => ho σ H en at_ _ fun v H1 e1 a1 v1 => by
    cases v1
    refine ⟨⟨x, rfl⟩, he σ H1 (en.mono e1) a1 _ fun y H2 e2 a2 y2 => ?_⟩
    exact hr [y] H2 a2 (.cons y2 .nil) Q fun v H3 e3 a3 v3 => q v H3 ((e1.trans e2).trans e3) a3 v3
/-- the text of an int -/
def itx (i : Int) : Str := Str.ofString (toString i)
theorem ev_fmtI {i : Int} (hz : i.natAbs.log2 < 1920) (h : EV X z e es s (.int i) s1) : EV X z (.FormattedValue e (-1) none pos) es s (.str (itx i)) s1 := .mk (pe_fmt wE_ok) fun σ H en at_ Q q => h σ H en at_ _ fun v H1 e1 a1 v1 => by
  cases v1
  exact .inr ⟨i, rfl, hz, q _ H1 e1 a1 (.str _)⟩
theorem ev_fstr1 (h : EV X z e es s d s1) : EV X z (.JoinedStr [e] pos) es s d s1 := .mk (pe_joined1 wE_ok) fun σ H en at_ Q q => h σ H en at_ Q q
theorem ev_fstr3 {x y w : Str} (hl : x.length + y.length + w.length ≤ 100000) (ha : EV X z a es s (.str x) s) (hb : EV X z b es s (.str y) s) (hc : EV X z c es s (.str w) s) : EV X z (.JoinedStr [a, b, c] pos) es s (.str (x ++ y ++ w)) s :=
  .mk (pe_joined (.cons wE_ok (.cons wE_ok (.cons wE_ok .nil)))) fun σ H en at_ Q q => ha σ H en at_ _ fun v H1 e1 a1 v1 => by
    have hL : (100000 : Nat) ≤ sizeLine := by decide
    have e0 : ∀ t : Str, Str.empty ++ t = t := fun t => TL.ext_tl (by
      rw [TL.tl_append]
      rfl)
    cases v1
    refine ⟨x, rfl, by rw [e0]; omega, hb σ H1 (en.mono e1) a1 _ fun v H2 e2 a2 v2 => ?_⟩
    cases v2
    refine ⟨y, rfl, by rw [e0, Str.length_append]; omega, hc σ H2 (en.mono (e1.trans e2)) a2 _ fun v H3 e3 a3 v3 => ?_⟩
    cases v3
    refine ⟨w, rfl, by rw [e0, Str.length_append, Str.length_append]; omega, ?_⟩
    rw [e0]
    exact q _ H3 ((e1.trans e2).trans e3) a3 (.str _)
theorem rb_str {i : Int} (hz : i.natAbs.log2 < 1920) : RB z s (fun xs H Q => ∃ i : Int, xs = [.int i] ∧ i.natAbs.log2 < 1920 ∧ Q (.str (toString i)) H) [.int i] (.str (itx i)) := fun vs H at_ h Q q => by
  cases h with
  | cons h r =>
    cases r
    cases h
    exact ⟨i, rfl, hz, q _ H (.refl H) at_ (.str _)⟩
theorem rb_intS {x : Str} {n : Int} (h : PySem.intText? x = some n) (hl : x.length ≤ 640) : RB z s (fun xs H Q => ∃ a n, xs = [.str a] ∧ PySem.intText? a = some n ∧ a.length ≤ 640 ∧ Q (.int n) H) [.str x] (.int n) := fun vs H at_ k Q q => by
  cases k with
  | cons k r =>
    cases r
    cases k
    exact ⟨x, n, rfl, h, hl, q _ H (.refl H) at_ (.int _)⟩
end
/-- a loop's body -/
def loopB (st : Option Stmt) : List Stmt := match st with
  | some (Stmt.While _ b _ _) => b
  | some (Stmt.For _ _ b _ _) => b
  | _ => []
section
variable {X : Cx} {z : Z} {es : List Sl} {s s1 s2 : S} {a b : Expr} {pos : Pos}
/-- * with a small left factor -/
theorem ev_mulL {i j : Int} (hc : -(2 ^ 64) < i ∧ i < 2 ^ 64) (ha : EV X z a es s (.int i) s1) (hb : EV X z b es s1 (.int j) s2) : EV X z (.BinOp a .Mult b pos) es s (.int (i * j)) s2 := ev_opR (f := binaryOp .Mult) op_mul (rd_I (.inl hc) fun _ => .int _) ha hb
end
end DL


set_option Elab.async false
set_option linter.all false
set_option maxRecDepth 100000
namespace K1
open PySem PySem.Spec PyProof.Rows L2 DL
def top (i : Nat) : Stmt := PySem.Challenge.pw_thirdcounts_k01_whole_numbers_reckoned.main.body.getD i (.Pass ⟨0, 0, 0, 0⟩)
/-! ### what the built-in classes say of data -/
def isW : PyData → Bool
  | .int _ => true
  | _ => false
theorem k_int (v : PyData) : kitB (tyD v) "int" = some (match v with | .int _ => true | .bool _ => true | _ => false) := by
  match v with
  | .none => exact (by decide +kernel : kitB "NoneType" "int" = some false)
  | .bool _ => exact (by decide +kernel : kitB "bool" "int" = some true)
  | .int _ => exact (by decide +kernel : kitB "int" "int" = some true)
  | .str _ => exact (by decide +kernel : kitB "str" "int" = some false)
  | .list _ => exact (by decide +kernel : kitB "list" "int" = some false)
  | .tuple _ => exact (by decide +kernel : kitB "tuple" "int" = some false)
  | .dict _ => exact (by decide +kernel : kitB "dict" "int" = some false)
theorem k_bool (v : PyData) : kitB (tyD v) "bool" = some (match v with | .bool _ => true | _ => false) := by
  match v with
  | .none => exact (by decide +kernel : kitB "NoneType" "bool" = some false)
  | .bool _ => exact (by decide +kernel : kitB "bool" "bool" = some true)
  | .int _ => exact (by decide +kernel : kitB "int" "bool" = some false)
  | .str _ => exact (by decide +kernel : kitB "str" "bool" = some false)
  | .list _ => exact (by decide +kernel : kitB "list" "bool" = some false)
  | .tuple _ => exact (by decide +kernel : kitB "tuple" "bool" = some false)
  | .dict _ => exact (by decide +kernel : kitB "dict" "bool" = some false)
theorem k_tuple (v : PyData) : kitB (tyD v) "tuple" = some (match v with | .tuple _ => true | _ => false) := by
  match v with
  | .none => exact (by decide +kernel : kitB "NoneType" "tuple" = some false)
  | .bool _ => exact (by decide +kernel : kitB "bool" "tuple" = some false)
  | .int _ => exact (by decide +kernel : kitB "int" "tuple" = some false)
  | .str _ => exact (by decide +kernel : kitB "str" "tuple" = some false)
  | .list _ => exact (by decide +kernel : kitB "list" "tuple" = some false)
  | .tuple _ => exact (by decide +kernel : kitB "tuple" "tuple" = some true)
  | .dict _ => exact (by decide +kernel : kitB "dict" "tuple" = some false)
theorem k_str (v : PyData) : kitB (tyD v) "str" = some (match v with | .str _ => true | _ => false) := by
  match v with
  | .none => exact (by decide +kernel : kitB "NoneType" "str" = some false)
  | .bool _ => exact (by decide +kernel : kitB "bool" "str" = some false)
  | .int _ => exact (by decide +kernel : kitB "int" "str" = some false)
  | .str _ => exact (by decide +kernel : kitB "str" "str" = some true)
  | .list _ => exact (by decide +kernel : kitB "list" "str" = some false)
  | .tuple _ => exact (by decide +kernel : kitB "tuple" "str" = some false)
  | .dict _ => exact (by decide +kernel : kitB "dict" "str" = some false)
/-- what the top has bound -/
structure Top (mg : Str → Option Value) : Prop where
  isi : mg "isinstance" = none
  int : mg "int" = none
  bool : mg "bool" = none
  str : mg "str" = none
  tuple : mg "tuple" = none
  len : mg "len" = none
  abs : mg "abs" = none
  range : mg "range" = none
  all : mg "all" = none
  long : ∃ t, mg "_TOO_LONG" = some (.int (10 ^ 60) t)
  gcd : mg "gcd" = some (.builtin "math.gcd")
section
variable {P : Program} {w : World} {K : PySem.W.Frag} {mg : Str → Option Value} {base : Heap} {f : Addr} {fd : FuncData}
abbrev sWhole : Stmt := top 12
theorem scWhole : FnScope ["value"] ["value"] (defScope sWhole) := ⟨rfl, rfl, rfl, by decide +kernel, rfl, by decide +kernel, by decide +kernel⟩
def rWhole : Rel := fun as s d s' => ∃ v, as = [.val v] ∧ d = .bool (isW v) ∧ s' = s
theorem ok_whole (F : Fun K "is_whole" "is_whole" sWhole f fd) (T : Top mg) : FnOk P w K mg base CX0 1 f fd ["value"] (spD rWhole) := by
  refine okD F scWhole (by rintro _ _ _ _ ⟨v, rfl, _⟩; rfl) fun cdv A outer s0 H0 E C z as s₁ d s h => ?_
  obtain ⟨v, rfl, rfl, rfl⟩ := h
  refine sr_ret (EV.is (ev_and (ev_isi T.isi T.int (ev_var 0) (k_int v)) fun _ => ev_b1 (ev_not (ev_isi T.isi T.bool (ev_var 0) (k_bool v)))) ?_)
  cases v <;> rfl
abbrev sBetween : Stmt := top 13
theorem scBetween : FnScope ["value", "low", "high"] ["value", "low", "high"] (defScope sBetween) := ⟨rfl, rfl, rfl, by decide +kernel, rfl, by decide +kernel, by decide +kernel⟩
def btw (l h : Int) : PyData → Bool
  | .int i => decide (l ≤ i) && decide (i ≤ h)
  | _ => false
def rBetween : Rel := fun as s d s' => ∃ v l h, as = [.val v, .val (.int l), .val (.int h)] ∧ d = .bool (btw l h v) ∧ s' = s
theorem ok_between (F : Fun K "is_between" "is_between" sBetween f fd) (G : Dn P w K mg base 1 "is_whole" rWhole) : FnOk P w K mg base CX0 2 f fd ["value", "low", "high"] (spD rBetween) := by
  refine okD F scBetween (by rintro _ _ _ _ ⟨v, l, h, rfl, _⟩; rfl) fun cdv A outer s0 H0 E C z as s₁ d s h => ?_
  obtain ⟨v, l, h, rfl, rfl, rfl⟩ := h
  refine sr_ret ?_
  match v with
  | .int i => exact ev_andT (ev_call G C.hr (ea_cons (ev_var 0) ea_nil) ⟨_, rfl, rfl, rfl⟩) (ev_b1 (et_chain (s3 := s) (ev_var 1) (ev_var 0) (ev_var 2)))
  | .none => exact ev_andF (ev_call G C.hr (ea_cons (ev_var 0) ea_nil) ⟨_, rfl, rfl, rfl⟩)
  | .bool _ => exact ev_andF (ev_call G C.hr (ea_cons (ev_var 0) ea_nil) ⟨_, rfl, rfl, rfl⟩)
  | .str _ => exact ev_andF (ev_call G C.hr (ea_cons (ev_var 0) ea_nil) ⟨_, rfl, rfl, rfl⟩)
  | .list _ => exact ev_andF (ev_call G C.hr (ea_cons (ev_var 0) ea_nil) ⟨_, rfl, rfl, rfl⟩)
  | .tuple _ => exact ev_andF (ev_call G C.hr (ea_cons (ev_var 0) ea_nil) ⟨_, rfl, rfl, rfl⟩)
  | .dict _ => exact ev_andF (ev_call G C.hr (ea_cons (ev_var 0) ea_nil) ⟨_, rfl, rfl, rfl⟩)
abbrev sInteger : Stmt := top 14
theorem scInteger : FnScope ["value"] ["value"] (defScope sInteger) := ⟨rfl, rfl, rfl, by decide +kernel, rfl, by decide +kernel, by decide +kernel⟩
def intg : PyData → Bool
  | .int i => decide (-(10 ^ 60) < i) && decide (i < 10 ^ 60)
  | _ => false
def rInteger : Rel := fun as s d s' => ∃ v, as = [.val v] ∧ d = .bool (intg v) ∧ s' = s
theorem ok_integer (F : Fun K "is_integer" "is_integer" sInteger f fd) (T : Top mg) (G : Dn P w K mg base 1 "is_whole" rWhole) : FnOk P w K mg base CX0 2 f fd ["value"] (spD rInteger) := by
  refine okD F scInteger (by rintro _ _ _ _ ⟨v, rfl, _⟩; rfl) fun cdv A outer s0 H0 E C z as s₁ d s h => ?_
  obtain ⟨v, rfl, rfl, rfl⟩ := h
  obtain ⟨tl, hl⟩ := T.long
  refine sr_ret ?_
  match v with
  | .int i => exact ev_andT (ev_call G C.hr (ea_cons (ev_var 0) ea_nil) ⟨_, rfl, rfl, rfl⟩) (ev_b1 (et_chainLt (ev_neg (ev_glob rfl hl ⟨tl, rfl⟩)) (ev_var 0) (ev_glob rfl hl ⟨tl, rfl⟩)))
  | .none => exact ev_andF (ev_call G C.hr (ea_cons (ev_var 0) ea_nil) ⟨_, rfl, rfl, rfl⟩)
  | .bool _ => exact ev_andF (ev_call G C.hr (ea_cons (ev_var 0) ea_nil) ⟨_, rfl, rfl, rfl⟩)
  | .str _ => exact ev_andF (ev_call G C.hr (ea_cons (ev_var 0) ea_nil) ⟨_, rfl, rfl, rfl⟩)
  | .list _ => exact ev_andF (ev_call G C.hr (ea_cons (ev_var 0) ea_nil) ⟨_, rfl, rfl, rfl⟩)
  | .tuple _ => exact ev_andF (ev_call G C.hr (ea_cons (ev_var 0) ea_nil) ⟨_, rfl, rfl, rfl⟩)
  | .dict _ => exact ev_andF (ev_call G C.hr (ea_cons (ev_var 0) ea_nil) ⟨_, rfl, rfl, rfl⟩)
abbrev sFrac : Stmt := top 16
theorem scFrac : FnScope ["value", "top", "bottom"] ["value"] (defScope sFrac) := ⟨rfl, rfl, rfl, by decide +kernel, rfl, by decide +kernel, by decide +kernel⟩
def fr2 (t b : PyData) : Bool := match t, b with
  | .int t, .int b => decide (1 ≤ b) && decide (((Nat.gcd t.natAbs b.natAbs : Nat) : Int) = 1)
  | _, _ => false
def frac : PyData → Bool
  | .tuple [t, b] => fr2 t b
  | _ => false
def rFrac : Rel := fun as s d s' => ∃ v, as = [.val v] ∧ d = .bool (frac v) ∧ s' = s
theorem isW_int {v : PyData} (h : isW v = true) : ∃ i, v = .int i := by
  cases v <;> first | exact ⟨_, rfl⟩ | cases h
theorem isW_not {v : PyData} (h : isW v = false) : ∀ i, v ≠ .int i := fun i e => by
  subst e
  cases h
theorem fr2_l {t b : PyData} (h : isW t = false) : fr2 t b = false := by
  cases t <;> first | rfl | cases h
theorem fr2_r {t b : PyData} (h : isW b = false) : fr2 t b = false := by
  cases t <;> cases b <;> first | rfl | cases h
theorem ok_frac (F : Fun K "is_fraction" "is_fraction" sFrac f fd) (T : Top mg) (G : Dn P w K mg base 1 "is_whole" rWhole) : FnOk P w K mg base CX0 2 f fd ["value"] (spD rFrac) := by
  refine okD F scFrac (by rintro _ _ _ _ ⟨v, rfl, _⟩; rfl) fun cdv A outer s0 H0 E C z as s₁ d s h => ?_
  obtain ⟨v, rfl, rfl, rfl⟩ := h
  have bad : (∀ xs, v ≠ .tuple xs) → SR (cxOf CX0 P w K mg base ["value", "top", "bottom"] "is_fraction" (defScope sFrac) f cdv A outer s0 H0 E).nox z (defBody sFrac) [.val v, .un, .un] s (.rt (.bool false) s) := fun hv =>
    sr_ifT (et_w (ew_orT (et_notT (et_val (ev_isi T.isi T.tuple (ev_var 0) (by rw [k_tuple]; cases v <;> first | rfl | exact absurd rfl (hv _))))))) (sr_ret ev_bl)
  have odd : ∀ xs, xs.length ≠ 2 → SR (cxOf CX0 P w K mg base ["value", "top", "bottom"] "is_fraction" (defScope sFrac) f cdv A outer s0 H0 E).nox z (defBody sFrac) [.val (.tuple xs), .un, .un] s (.rt (.bool false) s) := fun xs hx => by
    refine sr_ifT ?_ (sr_ret ev_bl)
    refine et_w (ew_orF (et_notF (et_val (ev_isi T.isi T.tuple (ev_var 0) (k_tuple (.tuple xs))))) (ew_or1 ?_))
    exact ET.is (et_neI C.hu (ev_bltn call_len rb_lenT T.len (ed_cons (ev_var 0) ed_nil)) ev_int) (by simp; omega)
  match v, bad with
  | .int i, bad => exact bad (fun _ h => by cases h)
  | .none, bad => exact bad (fun _ h => by cases h)
  | .bool _, bad => exact bad (fun _ h => by cases h)
  | .str _, bad => exact bad (fun _ h => by cases h)
  | .list _, bad => exact bad (fun _ h => by cases h)
  | .dict _, bad => exact bad (fun _ h => by cases h)
  | .tuple [], _ => exact odd _ (by simp)
  | .tuple [_], _ => exact odd _ (by simp)
  | .tuple (_ :: _ :: _ :: _), _ => exact odd _ (by simp)
  | .tuple [t, b], _ =>
    refine sr_ifF (et_w (ew_orF (et_notF (et_val (ev_isi T.isi T.tuple (ev_var 0) (k_tuple (.tuple [t, b]))))) (ew_or1 (ET.is (et_neI C.hu (ev_bltn call_len rb_lenT T.len (ed_cons (ev_var 0) ed_nil)) ev_int) rfl)))) ?_
    refine sr_unp2 1 2 C.calm C.nd (ev_var 0) ?_
    refine sr_ret ?_
    show EV _ _ _ _ _ (.bool (fr2 t b)) _
    cases ht : isW t with
    | false =>
      rw [fr2_l ht]
      exact ev_andF (ev_call G C.hr (ea_cons (ev_var 1) ea_nil) ⟨_, rfl, by rw [ht], rfl⟩)
    | true =>
      refine ev_andT (ev_call G C.hr (ea_cons (ev_var 1) ea_nil) ⟨_, rfl, by rw [ht], rfl⟩) ?_
      cases hb : isW b with
      | false =>
        rw [fr2_r hb]
        exact ev_andF (ev_call G C.hr (ea_cons (ev_var 2) ea_nil) ⟨_, rfl, by rw [hb], rfl⟩)
      | true =>
        refine ev_andT (ev_call G C.hr (ea_cons (ev_var 2) ea_nil) ⟨_, rfl, by rw [hb], rfl⟩) ?_
        obtain ⟨t, rfl⟩ := isW_int ht
        obtain ⟨b, rfl⟩ := isW_int hb
        exact ev_and (ev_ge (ev_var 2) ev_int) fun _ => ev_b1 (ev_eqI C.hu (ev_bfun cr_gcd rb_gcd T.gcd (ed_cons (ev_var 1) (ed_cons (ev_var 2) ed_nil))) ev_int)
end
end K1


set_option Elab.async false
set_option linter.all false
set_option maxRecDepth 100000
namespace K1
open PySem PySem.Spec PyProof.Rows L2 DL
/-! ### numbers -/
def num (v : PyData) : Bool := intg v || frac v
/-- v is the number t / b -/
inductive Nm : PyData → Int → Int → Prop
  | int {t : Int} : -(10 ^ 60) < t → t < 10 ^ 60 → Nm (.int t) t 1
  | fr {t b : Int} : 1 ≤ b → Nat.gcd t.natAbs b.natAbs = 1 → Nm (.tuple [.int t, .int b]) t b
theorem Nm.num {v : PyData} {t b : Int} (h : Nm v t b) : num v = true := by
  cases h with
  | int h1 h2 =>
    have : intg (.int t) = true := by
      simp only [intg, Bool.and_eq_true, decide_eq_true_eq]
      exact ⟨h1, h2⟩
    simp [K1.num, this]
  | fr h1 h2 =>
    have : frac (.tuple [.int t, .int b]) = true := by simp [frac, fr2, h1, h2]
    simp [K1.num, this]
theorem Nm.pos {v : PyData} {t b : Int} (h : Nm v t b) : 1 ≤ b := by
  cases h with
  | int h1 h2 => decide
  | fr h1 h2 => exact h1
theorem Nm.cop {v : PyData} {t b : Int} (h : Nm v t b) : Nat.gcd t.natAbs b.natAbs = 1 := by
  cases h with
  | int h1 h2 => simp
  | fr h1 h2 => exact h2
/-- of at most so many bits -/
def Bd (n : Nat) (t : Int) : Prop := t.natAbs < 2 ^ n
theorem Bd.mono {n m : Nat} {t : Int} (h : Bd n t) (k : n ≤ m) : Bd m t := Nat.lt_of_lt_of_le h (Nat.pow_le_pow_right (by decide) k)
theorem Bd.mul {n m : Nat} {t u : Int} (h : Bd n t) (k : Bd m u) : Bd (n + m) (t * u) := wide_lt h k
theorem Bd.add {n : Nat} {t u : Int} (h : Bd n t) (k : Bd n u) : Bd (n + 1) (t + u) := by
  unfold Bd at *
  have : (2 : Nat) ^ (n + 1) = 2 ^ n + 2 ^ n := by rw [Nat.pow_succ]; omega
  omega
theorem Bd.neg {n : Nat} {t : Int} (h : Bd n t) : Bd n (-t) := by
  unfold Bd at *
  omega
theorem Bd.sub {n : Nat} {t u : Int} (h : Bd n t) (k : Bd n u) : Bd (n + 1) (t - u) := by
  rw [Int.sub_eq_add_neg]
  exact h.add k.neg
theorem Bd.cmul {n m : Nat} {t u : Int} (h : Bd n t) (k : Bd m u) (hn : 0 < n := by decide) (hm : 0 < m := by decide) (hs : n + m ≤ 1000000 := by decide) : CMulW t u := wide_mul h k hn hm hs
theorem Bd.cdiv {n : Nat} {t u : Int} (h : Bd n u) (h0 : u ≠ 0) (hn : 0 < n := by decide) (hs : n ≤ 9000 := by decide) : CDivZ t u := ⟨h0, Nat.lt_of_lt_of_le (PySem.Flt.log2_lt_of hn h) hs⟩
/-- the quotient in lowest terms -/
def gq (t b : Int) : Int := if b < 0 then -((Nat.gcd t.natAbs b.natAbs : Nat) : Int) else ((Nat.gcd t.natAbs b.natAbs : Nat) : Int)
def frT (t b : Int) : Int := t.fdiv (gq t b)
def frB (t b : Int) : Int := b.fdiv (gq t b)
def frD (t b : Int) : PyData := .tuple [.int (frT t b), .int (frB t b)]
theorem gq_ne {t b : Int} (h : b ≠ 0) : gq t b ≠ 0 := by
  have : 0 < Nat.gcd t.natAbs b.natAbs := Nat.gcd_pos_of_pos_right _ (by omega)
  unfold gq
  split <;> omega
theorem gq_bd {n : Nat} {t b : Int} (h : b ≠ 0) (k : Bd n b) : Bd n (gq t b) := by
  have h1 : Nat.gcd t.natAbs b.natAbs ≤ b.natAbs := Nat.gcd_le_right _ (by omega)
  have h2 : (gq t b).natAbs = Nat.gcd t.natAbs b.natAbs := by
    unfold gq
    split <;> omega
  unfold Bd at *
  omega
section
variable {P : Program} {w : World} {K : PySem.W.Frag} {mg : Str → Option Value} {base : Heap} {f : Addr} {fd : FuncData}
abbrev sNumber : Stmt := top 17
theorem scNumber : FnScope ["value"] ["value"] (defScope sNumber) := ⟨rfl, rfl, rfl, by decide +kernel, rfl, by decide +kernel, by decide +kernel⟩
def rNumber : Rel := fun as s d s' => ∃ v, as = [.val v] ∧ d = .bool (num v) ∧ s' = s
theorem ok_number (F : Fun K "is_number" "is_number" sNumber f fd) (G1 : Dn P w K mg base 2 "is_integer" rInteger) (G2 : Dn P w K mg base 2 "is_fraction" rFrac) : FnOk P w K mg base CX0 3 f fd ["value"] (spD rNumber) := by
  refine okD F scNumber (by rintro _ _ _ _ ⟨v, rfl, _⟩; rfl) fun cdv A outer s0 H0 E C z as s₁ d s h => ?_
  obtain ⟨v, rfl, rfl, rfl⟩ := h
  refine sr_ret (ev_or (ev_call G1 C.hr (ea_cons (ev_var 0) ea_nil) ⟨_, rfl, rfl, rfl⟩) fun _ => ev_b1 (ev_call G2 C.hr (ea_cons (ev_var 0) ea_nil) ⟨_, rfl, rfl, rfl⟩))
abbrev sNeed : Stmt := top 18
theorem scNeed : FnScope ["value"] ["value"] (defScope sNeed) := ⟨rfl, rfl, rfl, by decide +kernel, rfl, by decide +kernel, by decide +kernel⟩
def rNeed : Rel := fun as s d s' => ∃ v, as = [.val v] ∧ num v = true ∧ d = .none ∧ s' = s
theorem ok_need (F : Fun K "need_number" "need_number" sNeed f fd) (G : Dn P w K mg base 3 "is_number" rNumber) : FnOk P w K mg base CX0 4 f fd ["value"] (spD rNeed) := by
  refine okN F scNeed (by rintro _ _ _ _ ⟨v, rfl, _⟩; rfl) fun cdv A outer s0 H0 E C z as s₁ d s h => ?_
  obtain ⟨v, rfl, hv, rfl, rfl⟩ := h
  refine ⟨rfl, _, sr_ifF (et_notF (et_val (ev_call G C.hr (ea_cons (ev_var 0) ea_nil) ⟨_, rfl, by rw [hv], rfl⟩))) sr_nil⟩
abbrev sPair : Stmt := top 19
theorem scPair : FnScope ["number"] ["number"] (defScope sPair) := ⟨rfl, rfl, rfl, by decide +kernel, rfl, by decide +kernel, by decide +kernel⟩
def rPair : Rel := fun as s d s' => ∃ v t b, as = [.val v] ∧ Nm v t b ∧ d = .tuple [.int t, .int b] ∧ s' = s
theorem ok_pair (F : Fun K "as_pair" "as_pair" sPair f fd) (T : Top mg) : FnOk P w K mg base CX0 1 f fd ["number"] (spD rPair) := by
  refine okD F scPair (by rintro _ _ _ _ ⟨v, t, b, rfl, _⟩; rfl) fun cdv A outer s0 H0 E C z as s₁ d s h => ?_
  obtain ⟨v, t, b, rfl, hv, rfl, rfl⟩ := h
  cases hv with
  | int h1 h2 =>
    refine sr_ifF (et_val (ev_isi T.isi T.tuple (ev_var 0) (k_tuple (.int t)))) ?_
    exact sr_ret (ev_tup (ed_cons (ev_var 0) (ed_cons ev_int ed_nil)))
  | fr h1 h2 =>
    refine sr_ifT (et_val (ev_isi T.isi T.tuple (ev_var 0) (k_tuple (.tuple [.int t, .int b])))) ?_
    exact sr_ret (ev_var 0)
abbrev sQuot : Stmt := top 20
theorem scQuot : FnScope ["top", "bottom", "divisor"] ["top", "bottom"] (defScope sQuot) := ⟨rfl, rfl, rfl, by decide +kernel, rfl, by decide +kernel, by decide +kernel⟩
def rQuot : Rel := fun as s d s' => ∃ t b, as = [.val (.int t), .val (.int b)] ∧ b ≠ 0 ∧ Bd 9000 b ∧ d = frD t b ∧ s' = s
theorem ok_quot (F : Fun K "fraction" "fraction" sQuot f fd) (T : Top mg) (G : Dn P w K mg base 1 "is_whole" rWhole) : FnOk P w K mg base CX0 2 f fd ["top", "bottom"] (spD rQuot) := by
  refine okD F scQuot (by rintro _ _ _ _ ⟨v, t, rfl, _⟩; rfl) fun cdv A outer s0 H0 E C z as s₁ d s h => ?_
  obtain ⟨t, b, rfl, hb, hB, rfl, rfl⟩ := h
  refine sr_ifF (et_notF (et_val (ev_call G C.hr (ea_cons (ev_var 0) ea_nil) ⟨_, rfl, rfl, rfl⟩))) ?_
  refine sr_ifF (et_w (ew_orF (et_notF (et_val (ev_call G C.hr (ea_cons (ev_var 1) ea_nil) ⟨_, rfl, rfl, rfl⟩))) (ew_or1 (ET.is (et_eqI C.hu (ev_var 1) ev_int) (by simp [hb]))))) ?_
  refine sr_asg 2 C.nd (ev_bfun cr_gcd rb_gcd T.gcd (ed_cons (ev_var 0) (ed_cons (ev_var 1) ed_nil))) ?_
  have fin : SR (cxOf CX0 P w K mg base ["top", "bottom", "divisor"] "fraction" (defScope sQuot) f cdv A outer s0 H0 E).nox z ((defBody sQuot).drop 4) [.val (.int t), .val (.int b), .val (.int (gq t b))] s (.rt (frD t b) s) := by
    refine sr_ret (ev_tup (ed_cons (ev_div ?_ (ev_var 0) (ev_var 2)) (ed_cons (ev_div ?_ (ev_var 1) (ev_var 2)) ed_nil)))
    · exact (gq_bd hb hB).cdiv (gq_ne hb)
    · exact (gq_bd hb hB).cdiv (gq_ne hb)
  by_cases h0 : b < 0
  · refine sr_ifTn (ET.is (et_lt (ev_var 1) ev_int) (decide_eq_true h0)) (sr_asg 2 C.nd (ev_neg (ev_var 2)) sr_nil) ?_
    have e : gq t b = -((Nat.gcd t.natAbs b.natAbs : Nat) : Int) := if_pos h0
    rw [e] at fin
    exact fin
  · refine sr_ifF (ET.is (et_lt (ev_var 1) ev_int) (decide_eq_false h0)) ?_
    have e : gq t b = ((Nat.gcd t.natAbs b.natAbs : Nat) : Int) := if_neg h0
    rw [e] at fin
    exact fin
abbrev sParts : Stmt := top 21
theorem scParts : FnScope ["one", "other"] ["one", "other"] (defScope sParts) := ⟨rfl, rfl, rfl, by decide +kernel, rfl, by decide +kernel, by decide +kernel⟩
def rParts : Rel := fun as s d s' => ∃ v w t b o u, as = [.val v, .val w] ∧ Nm v t b ∧ Nm w o u ∧ d = .tuple [.int t, .int b, .int o, .int u] ∧ s' = s
theorem ok_parts (F : Fun K "_parts" "_parts" sParts f fd) (G1 : Dn P w K mg base 4 "need_number" rNeed) (G2 : Dn P w K mg base 1 "as_pair" rPair) : FnOk P w K mg base CX0 5 f fd ["one", "other"] (spD rParts) := by
  refine okD F scParts (by rintro _ _ _ _ ⟨v, w, t, b, o, u, rfl, _⟩; rfl) fun cdv A outer s0 H0 E C z as s₁ d s h => ?_
  obtain ⟨v, w, t, b, o, u, rfl, hv, hw, rfl, rfl⟩ := h
  refine sr_expr (ev_call G1 C.hr (ea_cons (ev_var 0) ea_nil) ⟨_, rfl, hv.num, rfl, rfl⟩) ?_
  refine sr_expr (ev_call G1 C.hr (ea_cons (ev_var 1) ea_nil) ⟨_, rfl, hw.num, rfl, rfl⟩) ?_
  exact sr_ret (ev_catT (ds := [.int t, .int b]) (fs := [.int o, .int u]) (by simp) (by simp) (by simp) (ev_call G2 (C.hr.mono (by decide)) (ea_cons (ev_var 0) ea_nil) ⟨_, _, _, rfl, hv, rfl, rfl⟩) (ev_call G2 (C.hr.mono (by decide)) (ea_cons (ev_var 1) ea_nil) ⟨_, _, _, rfl, hw, rfl, rfl⟩))
/-- two numbers of at most 3000 bits -/
structure Two (v w : PyData) (t b o u : Int) : Prop where
  v : Nm v t b
  w : Nm w o u
  t : Bd 3000 t
  b : Bd 3000 b
  o : Bd 3000 o
  u : Bd 3000 u
def N4 : List Str := ["one", "other", "top", "bottom", "over", "under"]
abbrev sAdded : Stmt := top 22
theorem scAdded : FnScope ["one", "other", "top", "bottom", "over", "under"] ["one", "other"] (defScope sAdded) := ⟨rfl, rfl, rfl, by decide +kernel, rfl, by decide +kernel, by decide +kernel⟩
def rAdded : Rel := fun as s d s' => ∃ v w t b o u, as = [.val v, .val w] ∧ Two v w t b o u ∧ d = frD (t * u + o * b) (b * u) ∧ s' = s
theorem mul_ne {b u : Int} (hb : 1 ≤ b) (hu : 1 ≤ u) : b * u ≠ 0 := Int.mul_ne_zero (by omega) (by omega)
theorem ok_added (F : Fun K "added" "added" sAdded f fd) (G1 : Dn P w K mg base 5 "_parts" rParts) (G2 : Dn P w K mg base 2 "fraction" rQuot) : FnOk P w K mg base CX0 6 f fd ["one", "other"] (spD rAdded) := by
  refine okD F scAdded (by rintro _ _ _ _ ⟨v, w, t, b, o, u, rfl, _⟩; rfl) fun cdv A outer s0 H0 E C z as s₁ d s h => ?_
  obtain ⟨v, w, t, b, o, u, rfl, B, rfl, rfl⟩ := h
  refine sr_unp4 2 3 4 5 C.calm C.nd (ev_call G1 C.hr (ea_cons (ev_var 0) (ea_cons (ev_var 1) ea_nil)) ⟨_, _, _, _, _, _, rfl, B.v, B.w, rfl, rfl⟩) ?_
  exact sr_ret (ev_call G2 (C.hr.mono (by decide)) (ea_cons (ev_add (ev_mul (B.t.cmul B.u) (ev_var 2) (ev_var 5)) (ev_mul (B.o.cmul B.b) (ev_var 4) (ev_var 3))) (ea_cons (ev_mul (B.b.cmul B.u) (ev_var 3) (ev_var 5)) ea_nil)) ⟨_, _, rfl, mul_ne B.v.pos B.w.pos, (B.b.mul B.u).mono (by decide), rfl, rfl⟩)
abbrev sLess : Stmt := top 23
theorem scLess : FnScope ["one", "other", "top", "bottom", "over", "under"] ["one", "other"] (defScope sLess) := ⟨rfl, rfl, rfl, by decide +kernel, rfl, by decide +kernel, by decide +kernel⟩
def rLess : Rel := fun as s d s' => ∃ v w t b o u, as = [.val v, .val w] ∧ Two v w t b o u ∧ d = frD (t * u - o * b) (b * u) ∧ s' = s
theorem ok_less (F : Fun K "less" "less" sLess f fd) (G1 : Dn P w K mg base 5 "_parts" rParts) (G2 : Dn P w K mg base 2 "fraction" rQuot) : FnOk P w K mg base CX0 6 f fd ["one", "other"] (spD rLess) := by
  refine okD F scLess (by rintro _ _ _ _ ⟨v, w, t, b, o, u, rfl, _⟩; rfl) fun cdv A outer s0 H0 E C z as s₁ d s h => ?_
  obtain ⟨v, w, t, b, o, u, rfl, B, rfl, rfl⟩ := h
  refine sr_unp4 2 3 4 5 C.calm C.nd (ev_call G1 C.hr (ea_cons (ev_var 0) (ea_cons (ev_var 1) ea_nil)) ⟨_, _, _, _, _, _, rfl, B.v, B.w, rfl, rfl⟩) ?_
  exact sr_ret (ev_call G2 (C.hr.mono (by decide)) (ea_cons (ev_sub (ev_mul (B.t.cmul B.u) (ev_var 2) (ev_var 5)) (ev_mul (B.o.cmul B.b) (ev_var 4) (ev_var 3))) (ea_cons (ev_mul (B.b.cmul B.u) (ev_var 3) (ev_var 5)) ea_nil)) ⟨_, _, rfl, mul_ne B.v.pos B.w.pos, (B.b.mul B.u).mono (by decide), rfl, rfl⟩)
abbrev sMult : Stmt := top 24
theorem scMult : FnScope ["one", "other", "top", "bottom", "over", "under"] ["one", "other"] (defScope sMult) := ⟨rfl, rfl, rfl, by decide +kernel, rfl, by decide +kernel, by decide +kernel⟩
def rMult : Rel := fun as s d s' => ∃ v w t b o u, as = [.val v, .val w] ∧ Two v w t b o u ∧ d = frD (t * o) (b * u) ∧ s' = s
theorem ok_mult (F : Fun K "multiplied" "multiplied" sMult f fd) (G1 : Dn P w K mg base 5 "_parts" rParts) (G2 : Dn P w K mg base 2 "fraction" rQuot) : FnOk P w K mg base CX0 6 f fd ["one", "other"] (spD rMult) := by
  refine okD F scMult (by rintro _ _ _ _ ⟨v, w, t, b, o, u, rfl, _⟩; rfl) fun cdv A outer s0 H0 E C z as s₁ d s h => ?_
  obtain ⟨v, w, t, b, o, u, rfl, B, rfl, rfl⟩ := h
  refine sr_unp4 2 3 4 5 C.calm C.nd (ev_call G1 C.hr (ea_cons (ev_var 0) (ea_cons (ev_var 1) ea_nil)) ⟨_, _, _, _, _, _, rfl, B.v, B.w, rfl, rfl⟩) ?_
  exact sr_ret (ev_call G2 (C.hr.mono (by decide)) (ea_cons (ev_mul (B.t.cmul B.o) (ev_var 2) (ev_var 4)) (ea_cons (ev_mul (B.b.cmul B.u) (ev_var 3) (ev_var 5)) ea_nil)) ⟨_, _, rfl, mul_ne B.v.pos B.w.pos, (B.b.mul B.u).mono (by decide), rfl, rfl⟩)
abbrev sDivd : Stmt := top 25
theorem scDivd : FnScope ["one", "other", "top", "bottom", "over", "under"] ["one", "other"] (defScope sDivd) := ⟨rfl, rfl, rfl, by decide +kernel, rfl, by decide +kernel, by decide +kernel⟩
def rDivd : Rel := fun as s d s' => ∃ v w t b o u, as = [.val v, .val w] ∧ Two v w t b o u ∧ o ≠ 0 ∧ d = frD (t * u) (b * o) ∧ s' = s
theorem ok_divd (F : Fun K "divided" "divided" sDivd f fd) (G1 : Dn P w K mg base 5 "_parts" rParts) (G2 : Dn P w K mg base 2 "fraction" rQuot) : FnOk P w K mg base CX0 6 f fd ["one", "other"] (spD rDivd) := by
  refine okD F scDivd (by rintro _ _ _ _ ⟨v, w, t, b, o, u, rfl, _⟩; rfl) fun cdv A outer s0 H0 E C z as s₁ d s h => ?_
  obtain ⟨v, w, t, b, o, u, rfl, B, ho, rfl, rfl⟩ := h
  have hb := B.v.pos
  refine sr_unp4 2 3 4 5 C.calm C.nd (ev_call G1 C.hr (ea_cons (ev_var 0) (ea_cons (ev_var 1) ea_nil)) ⟨_, _, _, _, _, _, rfl, B.v, B.w, rfl, rfl⟩) ?_
  refine sr_ifF (ET.is (et_eqI C.hu (ev_var 4) ev_int) (decide_eq_false ho)) ?_
  exact sr_ret (ev_call G2 (C.hr.mono (by decide)) (ea_cons (ev_mul (B.t.cmul B.u) (ev_var 2) (ev_var 5)) (ea_cons (ev_mul (B.b.cmul B.o) (ev_var 3) (ev_var 4)) ea_nil)) ⟨_, _, rfl, Int.mul_ne_zero (by omega) ho, (B.b.mul B.o).mono (by decide), rfl, rfl⟩)
abbrev sComp : Stmt := top 26
theorem scComp : FnScope ["one", "other", "top"] ["one", "other"] (defScope sComp) := ⟨rfl, rfl, rfl, by decide +kernel, rfl, by decide +kernel, by decide +kernel⟩
def sgn (i : Int) : Int := if i < 0 then -1 else if 0 < i then 1 else 0
def rComp : Rel := fun as s d s' => ∃ v w t b o u, as = [.val v, .val w] ∧ Two v w t b o u ∧ d = .int (sgn (frT (t * u - o * b) (b * u))) ∧ s' = s
theorem ok_comp (F : Fun K "compared" "compared" sComp f fd) (G1 : Dn P w K mg base 6 "less" rLess) : FnOk P w K mg base CX0 7 f fd ["one", "other"] (spD rComp) := by
  refine okD F scComp (by rintro _ _ _ _ ⟨v, w, t, b, o, u, rfl, _⟩; rfl) fun cdv A outer s0 H0 E C z as s₁ d s h => ?_
  obtain ⟨v, w, t, b, o, u, rfl, B, rfl, rfl⟩ := h
  refine sr_asg 2 C.nd (ev_ixT (i := 0) (ev_call G1 C.hr (ea_cons (ev_var 0) (ea_cons (ev_var 1) ea_nil)) ⟨_, _, _, _, _, _, rfl, B, rfl, rfl⟩) ev_int (atI_nat (j := 0) rfl)) ?_
  generalize frT (t * u - o * b) (b * u) = i
  unfold sgn
  by_cases h1 : i < 0
  · rw [if_pos h1]
    exact sr_ifT (ET.is (et_lt (ev_var 2) ev_int) (decide_eq_true h1)) (sr_ret (ev_neg ev_int))
  · rw [if_neg h1]
    refine sr_ifF (ET.is (et_lt (ev_var 2) ev_int) (decide_eq_false h1)) ?_
    by_cases h2 : 0 < i
    · rw [if_pos h2]
      exact sr_ifT (ET.is (et_gt (ev_var 2) ev_int) (decide_eq_true h2)) (sr_ret ev_int)
    · rw [if_neg h2]
      exact sr_ifF (ET.is (et_gt (ev_var 2) ev_int) (decide_eq_false h2)) (sr_ret ev_int)
end
end K1


set_option Elab.async false
set_option linter.all false
set_option maxRecDepth 100000
namespace K1
open PySem PySem.Spec PyProof.Rows L2 DL
/-! ### powers -/
theorem bd_pow {w : Int} {n : Nat} (h : Bd n w) (a : Nat) : Bd (n * a + 1) (w ^ a) := by
  unfold Bd at *
  rw [Int.natAbs_pow]
  have h1 : w.natAbs ^ a ≤ (2 ^ n) ^ a := Nat.pow_le_pow_left (Nat.le_of_lt h) a
  rw [← Nat.pow_mul] at h1
  have h2 : (2 : Nat) ^ (n * a) < 2 ^ (n * a + 1) := Nat.pow_lt_pow_right (by decide) (by omega)
  omega
theorem bd_pow8 {w : Int} (h : Bd 3000 w) {a : Nat} (ha : a ≤ 8) : Bd 24001 (w ^ a) := (bd_pow h a).mono (by omega)
structure Top2 (mg : Str → Option Value) : Prop where
  raised : ∃ t, mg "MAX_RAISED" = some (.int 1000 t)
  chosen : ∃ t, mg "MAX_CHOSEN" = some (.int 1000 t)
  text : ∃ t, mg "MAX_TEXT" = some (.int 400 t)
  isqrt : mg "isqrt" = some (.builtin "math.isqrt")
  comb : mg "comb" = some (.builtin "math.comb")
/-- the product of 1 to n -/
def fct : Nat → Int
  | 0 => 1
  | n + 1 => fct n * ((n : Int) + 1)
theorem fct_bd : ∀ n : Nat, n ≤ 1000 → Bd (10 * n + 1) (fct n)
  | 0, _ => by
    unfold Bd fct
    decide
  | n + 1, h => by
    have ih := fct_bd n (by omega)
    have h1 : Bd 10 ((n : Int) + 1) := by
      unfold Bd
      have : ((n : Int) + 1).natAbs = n + 1 := by omega
      rw [this]
      show n + 1 < 1024
      omega
    have := ih.mul h1
    rw [show 10 * (n + 1) + 1 = 10 * n + 1 + 10 by omega]
    exact this
theorem fct_pos : ∀ n : Nat, 0 < fct n
  | 0 => by decide
  | n + 1 => Int.mul_pos (fct_pos n) (by omega)
section
variable {P : Program} {w : World} {K : PySem.W.Frag} {mg : Str → Option Value} {base : Heap} {f : Addr} {fd : FuncData}
abbrev sRaised : Stmt := top 27
theorem scRaised : FnScope ["whole", "many", "product", "square", "left"] ["whole", "many"] (defScope sRaised) := ⟨rfl, rfl, rfl, by decide +kernel, rfl, by decide +kernel, by decide +kernel⟩
def rRaised : Rel := fun as s d s' => ∃ (x : Int) (m : Nat), as = [.val (.int x), .val (.int (m : Int))] ∧ m ≤ 8 ∧ Bd 3000 x ∧ d = .int (x ^ m) ∧ s' = s
theorem ok_raised (F : Fun K "raised" "raised" sRaised f fd) : FnOk P w K mg base CX0 1 f fd ["whole", "many"] (spD rRaised) := by
  refine okD F scRaised (by rintro _ _ _ _ ⟨x, m, rfl, _⟩; rfl) fun cdv A outer s0 H0 E C z as s₁ d s h => ?_
  obtain ⟨x, m, rfl, hm, hx, rfl, rfl⟩ := h
  refine sr_asg 2 C.nd ev_int (sr_asg 3 C.nd (ev_var 0) (sr_asg 4 C.nd (ev_var 1) ?_))
  refine sr_whileW C.hp (fun l es s' => s' = s ∧ ∃ (a b : Nat) (q : Sl), es = [.val (.int x), .val (.int (m : Int)), .val (.int (x ^ a)), q, .val (.int (l : Int))] ∧ a + b * l = m ∧ (0 < l → q = .val (.int (x ^ b)) ∧ 0 < b)) (m0 := m)
    ⟨rfl, 0, 1, .val (.int x), by rw [Int.pow_zero]; rfl, by omega, fun _ => ⟨by rw [Int.pow_one], by decide⟩⟩ ?_
  rintro l es s' ⟨rfl, a, b, q, rfl, hs, hq⟩
  by_cases hl : 0 < l
  · right
    obtain ⟨rfl, hb⟩ := hq hl
    have bl : b ≤ b * l := Nat.le_mul_of_pos_right _ hl
    have h2 : ((l : Int)).fmod 2 = ((l % 2 : Nat) : Int) := by
      rw [Int.fmod_eq_emod_of_nonneg _ (by decide)]
      rfl
    have h3 : ((l : Int)).fdiv 2 = ((l / 2 : Nat) : Int) := by
      rw [Int.fdiv_eq_ediv_of_nonneg _ (by decide)]
      rfl
    refine ⟨ET.is (et_gt (ev_var 4) ev_int) (decide_eq_true (by omega)), ?_⟩
    -- the product's step
    obtain ⟨a', ha', step⟩ : ∃ a' : Nat, a' + (b + b) * (l / 2) = m ∧ ∀ o, SR (cxOf CX0 P w K mg base ["whole", "many", "product", "square", "left"] "raised" (defScope sRaised) f cdv A outer s0 H0 E).nox z ((loopB (defBody sRaised)[3]?).drop 1) [.val (.int x), .val (.int (m : Int)), .val (.int (x ^ a')), .val (.int (x ^ b)), .val (.int (l : Int))] s' o →
        SR (cxOf CX0 P w K mg base ["whole", "many", "product", "square", "left"] "raised" (defScope sRaised) f cdv A outer s0 H0 E).nox z (loopB (defBody sRaised)[3]?) [.val (.int x), .val (.int (m : Int)), .val (.int (x ^ a)), .val (.int (x ^ b)), .val (.int (l : Int))] s' o := by
      by_cases ho : l % 2 = 1
      · refine ⟨a + b, ?_, fun o k => ?_⟩
        · have e1 : l = 2 * (l / 2) + 1 := by omega
          have e2 : b * l = b * (2 * (l / 2)) + b := by
            conv => lhs; rw [e1]
            rw [Nat.mul_add, Nat.mul_one]
          have e3 : b * (2 * (l / 2)) = (b + b) * (l / 2) := by rw [← Nat.mul_assoc, Nat.mul_two]
          omega
        · have e4 : b + a ≤ 8 := by omega
          refine sr_ifTn (ET.is (et_eqI C.hu (ev_mod (by decide) (ev_var 4) ev_int) ev_int) (decide_eq_true (by rw [h2, ho]; rfl))) (sr_asg 2 C.nd (ev_mul ((bd_pow8 hx (a := a) (by omega)).cmul (bd_pow8 hx (a := b) (by omega))) (ev_var 2) (ev_var 3)) sr_nil) ?_
          rw [← Int.pow_add]
          exact k
      · refine ⟨a, ?_, fun o k => ?_⟩
        · have e1 : l = 2 * (l / 2) := by omega
          have e2 : b * l = b * (2 * (l / 2)) := congrArg (b * ·) e1
          have e3 : b * (2 * (l / 2)) = (b + b) * (l / 2) := by rw [← Nat.mul_assoc, Nat.mul_two]
          omega
        · exact sr_ifF (ET.is (et_eqI C.hu (ev_mod (by decide) (ev_var 4) ev_int) ev_int) (decide_eq_false (by rw [h2]; omega))) k
    by_cases hh : 0 < l / 2
    · refine ⟨[.val (.int x), .val (.int (m : Int)), .val (.int (x ^ a')), .val (.int (x ^ (b + b))), .val (.int ((l / 2 : Nat) : Int))], s', l / 2, by omega, ⟨rfl, a', b + b, _, rfl, ha', fun _ => ⟨rfl, by omega⟩⟩, step _ ?_⟩
      have e5 : (b + b) ≤ (b + b) * (l / 2) := Nat.le_mul_of_pos_right _ hh
      refine sr_asg 4 C.nd (ev_div ⟨by decide, by decide⟩ (ev_var 4) ev_int) ?_
      rw [h3]
      refine sr_ifTn (ET.is (et_gt (ev_var 4) ev_int) (decide_eq_true (by omega))) (sr_asg 3 C.nd (ev_mul ((bd_pow8 hx (a := b) (by omega)).cmul (bd_pow8 hx (a := b) (by omega))) (ev_var 3) (ev_var 3)) sr_nil) ?_
      rw [← Int.pow_add]
      exact sr_nil
    · refine ⟨[.val (.int x), .val (.int (m : Int)), .val (.int (x ^ a')), .val (.int (x ^ b)), .val (.int ((l / 2 : Nat) : Int))], s', l / 2, by omega, ⟨rfl, a', b + b, _, rfl, ha', fun h => absurd h hh⟩, step _ ?_⟩
      refine sr_asg 4 C.nd (ev_div ⟨by decide, by decide⟩ (ev_var 4) ev_int) ?_
      rw [h3]
      refine sr_ifF (ET.is (et_gt (ev_var 4) ev_int) (decide_eq_false (by omega))) ?_
      exact sr_nil
  · left
    have e0 : l = 0 := by omega
    subst e0
    have ea : a = m := by omega
    subst ea
    exact ⟨ET.is (et_gt (ev_var 4) ev_int) (decide_eq_false (by decide)), sr_ret (ev_var 2)⟩
abbrev sPower : Stmt := top 28
theorem scPower : FnScope ["number", "many", "top", "bottom"] ["number", "many"] (defScope sPower) := ⟨rfl, rfl, rfl, by decide +kernel, rfl, by decide +kernel, by decide +kernel⟩
/-- what power_of gives -/
def pwD (t b m : Int) : PyData :=
  if 0 ≤ m then .tuple [.int (t ^ m.toNat), .int (b ^ m.toNat)]
  else if t < 0 then .tuple [.int ((-b) ^ (-m).toNat), .int ((-t) ^ (-m).toNat)] else .tuple [.int (b ^ (-m).toNat), .int (t ^ (-m).toNat)]
def rPower : Rel := fun as s d s' => ∃ v t b m, as = [.val v, .val (.int m)] ∧ Nm v t b ∧ Bd 3000 t ∧ Bd 3000 b ∧ -8 ≤ m ∧ m ≤ 8 ∧ (m < 0 → t ≠ 0) ∧ d = pwD t b m ∧ s' = s
theorem ok_power (F : Fun K "power_of" "power_of" sPower f fd) (T : Top2 mg) (G1 : Dn P w K mg base 4 "need_number" rNeed) (G2 : Dn P w K mg base 2 "is_between" rBetween) (G3 : Dn P w K mg base 1 "as_pair" rPair) (G4 : Dn P w K mg base 1 "raised" rRaised) : FnOk P w K mg base CX0 5 f fd ["number", "many"] (spD rPower) := by
  refine okD F scPower (by rintro _ _ _ _ ⟨v, t, b, m, rfl, _⟩; rfl) fun cdv A outer s0 H0 E C z as s₁ d s h => ?_
  obtain ⟨v, t, b, m, rfl, hv, ht, hb, m0, m1, mt, rfl, rfl⟩ := h
  obtain ⟨tr, hr⟩ := T.raised
  refine sr_expr (ev_call G1 C.hr (ea_cons (ev_var 0) ea_nil) ⟨_, rfl, hv.num, rfl, rfl⟩) ?_
  refine sr_ifF (et_notF (et_val (ev_call G2 (C.hr.mono (by decide)) (ea_cons (ev_var 1) (ea_cons (ev_neg (ev_glob rfl hr ⟨tr, rfl⟩)) (ea_cons (ev_glob rfl hr ⟨tr, rfl⟩) ea_nil))) ⟨_, _, _, rfl, ?_, rfl⟩))) ?_
  · simp only [btw]
    rw [decide_eq_true (by omega : (-1000 : Int) ≤ m), decide_eq_true (by omega : m ≤ 1000)]
    rfl
  refine sr_unp2 2 3 C.calm C.nd (ev_call G3 (C.hr.mono (by decide)) (ea_cons (ev_var 0) ea_nil) ⟨_, _, _, rfl, hv, rfl, rfl⟩) ?_
  unfold pwD
  by_cases h0 : 0 ≤ m
  · rw [if_pos h0]
    refine sr_ifT (ET.is (et_ge (ev_var 1) ev_int) (decide_eq_true h0)) (sr_ret (ev_tup (ed_cons (ev_call G4 (C.hr.mono (by decide)) (ea_cons (ev_var 2) (ea_cons (ev_var 1) ea_nil)) ⟨t, m.toNat, by rw [Int.toNat_of_nonneg h0], by omega, ht, rfl, rfl⟩) (ed_cons (ev_call G4 (C.hr.mono (by decide)) (ea_cons (ev_var 3) (ea_cons (ev_var 1) ea_nil)) ⟨b, m.toNat, by rw [Int.toNat_of_nonneg h0], by omega, hb, rfl, rfl⟩) ed_nil))))
  · rw [if_neg h0]
    have hn : 0 ≤ -m := by omega
    have t0 := mt (by omega)
    refine sr_ifF (ET.is (et_ge (ev_var 1) ev_int) (decide_eq_false h0)) ?_
    refine sr_ifF (ET.is (et_eqI C.hu (ev_var 2) ev_int) (decide_eq_false t0)) ?_
    by_cases h1 : t < 0
    · rw [if_pos h1]
      refine sr_ifT (ET.is (et_lt (ev_var 2) ev_int) (decide_eq_true h1)) (sr_ret (ev_tup (ed_cons (ev_call G4 (C.hr.mono (by decide)) (ea_cons (ev_neg (ev_var 3)) (ea_cons (ev_neg (ev_var 1)) ea_nil)) ⟨-b, (-m).toNat, by rw [Int.toNat_of_nonneg hn], by omega, hb.neg, rfl, rfl⟩) (ed_cons (ev_call G4 (C.hr.mono (by decide)) (ea_cons (ev_neg (ev_var 2)) (ea_cons (ev_neg (ev_var 1)) ea_nil)) ⟨-t, (-m).toNat, by rw [Int.toNat_of_nonneg hn], by omega, ht.neg, rfl, rfl⟩) ed_nil))))
    · rw [if_neg h1]
      refine sr_ifF (ET.is (et_lt (ev_var 2) ev_int) (decide_eq_false h1)) (sr_ret (ev_tup (ed_cons (ev_call G4 (C.hr.mono (by decide)) (ea_cons (ev_var 3) (ea_cons (ev_neg (ev_var 1)) ea_nil)) ⟨b, (-m).toNat, by rw [Int.toNat_of_nonneg hn], by omega, hb, rfl, rfl⟩) (ed_cons (ev_call G4 (C.hr.mono (by decide)) (ea_cons (ev_var 2) (ea_cons (ev_neg (ev_var 1)) ea_nil)) ⟨t, (-m).toNat, by rw [Int.toNat_of_nonneg hn], by omega, ht, rfl, rfl⟩) ed_nil))))
abbrev sRoot : Stmt := top 29
theorem scRoot : FnScope ["number", "top", "bottom", "over", "under"] ["number"] (defScope sRoot) := ⟨rfl, rfl, rfl, by decide +kernel, rfl, by decide +kernel, by decide +kernel⟩
def sqI (t : Int) : Int := ((Float64.isqrt t.toNat : Nat) : Int)
def rtD (t b : Int) : PyData := if t < 0 then .none else if sqI t * sqI t = t ∧ sqI b * sqI b = b then .tuple [.int (sqI t), .int (sqI b)] else .none
def rRoot : Rel := fun as s d s' => ∃ v t b, as = [.val v] ∧ Nm v t b ∧ Bd 6000 t ∧ Bd 6000 b ∧ d = rtD t b ∧ s' = s
theorem sq_le (n : Nat) : Float64.isqrt n ≤ n := by
  have h := (PySem.Float64.isqrt_spec n).1
  exact Nat.le_trans (Nat.le_mul_self _) h
theorem sq_bd {t : Int} {n : Nat} (h0 : 0 ≤ t) (h : Bd n t) : Bd n (sqI t) := by
  have := sq_le t.toNat
  unfold Bd sqI at *
  omega
theorem ok_root (F : Fun K "root_of" "root_of" sRoot f fd) (T : Top2 mg) (G1 : Dn P w K mg base 4 "need_number" rNeed) (G3 : Dn P w K mg base 1 "as_pair" rPair) : FnOk P w K mg base CX0 5 f fd ["number"] (spD rRoot) := by
  refine okD F scRoot (by rintro _ _ _ _ ⟨v, t, b, rfl, _⟩; rfl) fun cdv A outer s0 H0 E C z as s₁ d s h => ?_
  obtain ⟨v, t, b, rfl, hv, ht, hb, rfl, rfl⟩ := h
  have b1 := hv.pos
  refine sr_expr (ev_call G1 C.hr (ea_cons (ev_var 0) ea_nil) ⟨_, rfl, hv.num, rfl, rfl⟩) ?_
  refine sr_unp2 1 2 C.calm C.nd (ev_call G3 (C.hr.mono (by decide)) (ea_cons (ev_var 0) ea_nil) ⟨_, _, _, rfl, hv, rfl, rfl⟩) ?_
  unfold rtD
  by_cases h0 : t < 0
  · rw [if_pos h0]
    exact sr_ifT (ET.is (et_lt (ev_var 1) ev_int) (decide_eq_true h0)) (sr_ret ev_non)
  · rw [if_neg h0]
    have lg : ∀ {x : Int}, Bd 6000 x → x.natAbs.log2 < 13000 := fun h => Nat.lt_of_lt_of_le (PySem.Flt.log2_lt_of (by decide) h) (by decide)
    have B1 : Bd 6000 (sqI t) := sq_bd (by omega) ht
    have B2 : Bd 6000 (sqI b) := sq_bd (by omega) hb
    refine sr_ifF (ET.is (et_lt (ev_var 1) ev_int) (decide_eq_false h0)) ?_
    refine sr_par 3 4 C.calm C.nd (ed_cons (ev_bfun cr_isqrt (rb_sqrt (by omega) (lg ht)) T.isqrt (ed_cons (ev_var 1) ed_nil)) (ed_cons (ev_bfun cr_isqrt (rb_sqrt (by omega) (lg hb)) T.isqrt (ed_cons (ev_var 2) ed_nil)) ed_nil)) ?_
    have X1 : CMulW (sqI t) (sqI t) := B1.cmul B1
    have X2 : CMulW (sqI b) (sqI b) := B2.cmul B2
    by_cases h1 : sqI t * sqI t = t
    · by_cases h2 : sqI b * sqI b = b
      · rw [if_pos ⟨h1, h2⟩]
        exact sr_ifF (et_w (ew_orF (ET.is (et_neI C.hu (ev_mul X1 (ev_var 3) (ev_var 3)) (ev_var 1)) (by simp [h1])) (ew_or1 (ET.is (et_neI C.hu (ev_mul X2 (ev_var 4) (ev_var 4)) (ev_var 2)) (by simp [h2]))))) (sr_ret (ev_tup (ed_cons (ev_var 3) (ed_cons (ev_var 4) ed_nil))))
      · rw [if_neg (fun h => h2 h.2)]
        exact sr_ifT (et_w (ew_orF (ET.is (et_neI C.hu (ev_mul X1 (ev_var 3) (ev_var 3)) (ev_var 1)) (by simp [h1])) (ew_or1 (ET.is (et_neI C.hu (ev_mul X2 (ev_var 4) (ev_var 4)) (ev_var 2)) (by simp [h2]))))) (sr_ret ev_non)
    · rw [if_neg (fun h => h1 h.1)]
      exact sr_ifT (et_w (ew_orT (ET.is (et_neI C.hu (ev_mul X1 (ev_var 3) (ev_var 3)) (ev_var 1)) (by simp [h1])))) (sr_ret ev_non)
abbrev sFloor : Stmt := top 30
theorem scFloor : FnScope ["number", "top", "bottom"] ["number"] (defScope sFloor) := ⟨rfl, rfl, rfl, by decide +kernel, rfl, by decide +kernel, by decide +kernel⟩
def rFloor : Rel := fun as s d s' => ∃ v t b, as = [.val v] ∧ Nm v t b ∧ Bd 3000 b ∧ d = .int (t / b) ∧ s' = s
theorem ok_floor (F : Fun K "floor_of" "floor_of" sFloor f fd) (G1 : Dn P w K mg base 4 "need_number" rNeed) (G3 : Dn P w K mg base 1 "as_pair" rPair) : FnOk P w K mg base CX0 5 f fd ["number"] (spD rFloor) := by
  refine okD F scFloor (by rintro _ _ _ _ ⟨v, t, b, rfl, _⟩; rfl) fun cdv A outer s0 H0 E C z as s₁ d s h => ?_
  obtain ⟨v, t, b, rfl, hv, hb, rfl, rfl⟩ := h
  have b1 := hv.pos
  refine sr_expr (ev_call G1 C.hr (ea_cons (ev_var 0) ea_nil) ⟨_, rfl, hv.num, rfl, rfl⟩) ?_
  refine sr_unp2 1 2 C.calm C.nd (ev_call G3 (C.hr.mono (by decide)) (ea_cons (ev_var 0) ea_nil) ⟨_, _, _, rfl, hv, rfl, rfl⟩) ?_
  exact sr_ret (EV.is (ev_div (hb.cdiv (by omega)) (ev_var 1) (ev_var 2)) (by rw [Int.fdiv_eq_ediv_of_nonneg _ (by omega)]))
abbrev sFact : Stmt := top 31
theorem scFact : FnScope ["number", "product", "factor"] ["number"] (defScope sFact) := ⟨rfl, rfl, rfl, by decide +kernel, rfl, by decide +kernel, by decide +kernel⟩
def rFact : Rel := fun as s d s' => ∃ n : Nat, as = [.val (.int (n : Int))] ∧ n ≤ 1000 ∧ d = .int (fct n) ∧ s' = s
theorem fct_last (n : Nat) : fct (((n : Int) + 1 - 2).toNat + 1) = fct n := by
  match n with
  | 0 => decide
  | n + 1 => congr 1; omega
theorem fct_step (i : Nat) : fct (i + 1) * (2 + (i : Int)) = fct (i + 1 + 1) := by
  show _ = fct (i + 1) * (((i + 1 : Nat) : Int) + 1)
  congr 1
  omega
theorem ok_fact (F : Fun K "factorial" "factorial" sFact f fd) (TT : Top mg) (T : Top2 mg) (G2 : Dn P w K mg base 2 "is_between" rBetween) : FnOk P w K mg base CX0 3 f fd ["number"] (spD rFact) := by
  refine okD F scFact (by rintro _ _ _ _ ⟨n, rfl, _⟩; rfl) fun cdv A outer s0 H0 E C z as s₁ d s h => ?_
  obtain ⟨n, rfl, hn, rfl, rfl⟩ := h
  obtain ⟨tc, hc⟩ := T.chosen
  refine sr_ifF (et_notF (et_val (ev_call G2 C.hr (ea_cons (ev_var 0) (ea_cons ev_int (ea_cons (ev_glob rfl hc ⟨tc, rfl⟩) ea_nil))) ⟨_, _, _, rfl, ?_, rfl⟩))) ?_
  · simp only [btw]
    rw [decide_eq_true (by omega : (0 : Int) ≤ (n : Int)), decide_eq_true (by omega : (n : Int) ≤ 1000)]
    rfl
  refine sr_asg 1 C.nd ev_int ?_
  refine sr_for2 2 C.hp C.calm C.nd TT.range (ed_cons ev_int (ed_cons (ev_add (ev_var 0) ev_int) ed_nil)) (by decide) (by omega) (by omega) (fun i => [.val (.int (n : Int)), .val (.int (fct (i + 1))), .un]) (fun _ => s) (.same (.same (.un .nil))) rfl (fun i hi => ?_) ?_
  · have hB : CMulW (fct (i + 1)) (2 + (i : Int)) := by
      have h1 := fct_bd (i + 1) (by omega)
      have h2 : Bd 20 (2 + (i : Int)) := by
        unfold Bd
        have : (2 + (i : Int)).natAbs = i + 2 := by omega
        rw [this]
        show i + 2 < 1048576
        omega
      exact (h1.mono (show 10 * (i + 1) + 1 ≤ 20000 by omega)).cmul h2
    refine sr_asg 1 C.nd (ev_mul hB (ev_var 1) (ev_var 2)) ?_
    rw [fct_step]
    exact sr_le sr_nil (.same (.same (.un .nil)))
  · show SR _ _ _ [.val (.int (n : Int)), .val (.int (fct (((n : Int) + 1 - 2).toNat + 1))), .un] _ _
    rw [fct_last]
    exact sr_ret (ev_var 1)
abbrev sBinom : Stmt := top 32
theorem scBinom : FnScope ["top", "low"] ["top", "low"] (defScope sBinom) := ⟨rfl, rfl, rfl, by decide +kernel, rfl, by decide +kernel, by decide +kernel⟩
def rBinom : Rel := fun as s d s' => ∃ n k : Int, as = [.val (.int n), .val (.int k)] ∧ 0 ≤ n ∧ n ≤ 1000 ∧ 0 ≤ k ∧ k ≤ 1000 ∧ (combV n k).natAbs.log2 < bitsLine ∧ d = .int (combV n k) ∧ s' = s
theorem ok_binom (F : Fun K "binomial" "binomial" sBinom f fd) (T : Top2 mg) (G2 : Dn P w K mg base 2 "is_between" rBetween) : FnOk P w K mg base CX0 3 f fd ["top", "low"] (spD rBinom) := by
  refine okD F scBinom (by rintro _ _ _ _ ⟨n, k, rfl, _⟩; rfl) fun cdv A outer s0 H0 E C z as s₁ d s h => ?_
  obtain ⟨n, k, rfl, n0, n1, k0, k1, hz, rfl, rfl⟩ := h
  obtain ⟨tc, hc⟩ := T.chosen
  have bt : ∀ {x : Int}, 0 ≤ x → x ≤ 1000 → PyData.bool true = .bool (btw 0 1000 (.int x)) := fun a b => by
    simp only [btw]
    rw [decide_eq_true a, decide_eq_true b]
    rfl
  refine sr_ifF (et_notF (et_val (ev_call G2 C.hr (ea_cons (ev_var 0) (ea_cons ev_int (ea_cons (ev_glob rfl hc ⟨tc, rfl⟩) ea_nil))) ⟨_, _, _, rfl, bt n0 n1, rfl⟩))) ?_
  refine sr_ifF (et_notF (et_val (ev_call G2 C.hr (ea_cons (ev_var 1) (ea_cons ev_int (ea_cons (ev_glob rfl hc ⟨tc, rfl⟩) ea_nil))) ⟨_, _, _, rfl, bt k0 k1, rfl⟩))) ?_
  exact sr_ret (ev_bfun cr_comb (rb_comb n0 n1 k0 k1 hz) T.comb (ed_cons (ev_var 0) (ed_cons (ev_var 1) ed_nil)))
end
end K1


set_option Elab.async false
set_option linter.all false
set_option maxRecDepth 100000
namespace K1
open PySem PySem.Spec PyProof.Rows L2 DL
/-! ### texts of numbers -/
def slash : Str := "/"
def dash : Str := "-"
def ntx (t b : Int) : Str := if b = 1 then itx t else itx t ++ slash ++ itx b
theorem itx_nat (n : Nat) : TL.tl (itx (n : Int)) = TL.numL n := TL.tl_num n
theorem itx_neg (n : Nat) (h : 0 < n) : TL.tl (itx (-(n : Int))) = 45 :: TL.numL n := by
  obtain ⟨m, rfl⟩ : ∃ m, n = m + 1 := ⟨n - 1, by omega⟩
  have e : itx (-((m + 1 : Nat) : Int)) = Str.ofString ("-" ++ toString (m + 1)) := rfl
  have g := itx_nat (m + 1)
  have e2 : itx ((m + 1 : Nat) : Int) = Str.ofString (toString (m + 1)) := rfl
  rw [e2, TL.tl_ofString] at g
  rw [e, TL.tl_ofString, String.toList_append, List.map_append, g]
  rfl
theorem numL_bd {n k : Nat} (h : n < 2 ^ (3 * k)) (hk : 0 < k) : (TL.numL n).length ≤ k := by
  refine TL.numL_len hk (Nat.lt_of_lt_of_le h ?_)
  rw [Nat.pow_mul]
  exact Nat.pow_le_pow_left (by decide) k
theorem itx_len {i : Int} {k : Nat} (h : Bd (3 * k) i) (hk : 0 < k) : (itx i).length ≤ k + 1 := by
  rw [TL.len_tl]
  by_cases h0 : 0 ≤ i
  · obtain ⟨n, rfl⟩ := Int.eq_ofNat_of_zero_le h0
    rw [itx_nat]
    have := numL_bd (n := n) (k := k) h hk
    omega
  · obtain ⟨n, e, hn⟩ : ∃ n : Nat, i = -(n : Int) ∧ 0 < n := ⟨i.natAbs, by omega, by omega⟩
    subst e
    rw [itx_neg n hn, List.length_cons]
    have : n < 2 ^ (3 * k) := by
      unfold Bd at h
      rwa [Int.natAbs_neg] at h
    have := numL_bd this hk
    omega
theorem ntx_len {t b : Int} {k : Nat} (ht : Bd (3 * k) t) (hb : Bd (3 * k) b) (hk : 0 < k) : (ntx t b).length ≤ 2 * k + 3 := by
  have h1 := itx_len ht hk
  have h2 := itx_len hb hk
  have e : slash.length = 1 := by decide
  unfold ntx
  split
  · omega
  · rw [Str.length_append, Str.length_append, e]
    omega
theorem sub45 (x : Str) : Builtin.Str.subAt x dash 0 = decide ((TL.tl x).take 1 = [45]) := by
  unfold Builtin.Str.subAt
  have e1 : dash.length = 1 := by decide
  have e2 : dash.cps = #[45] := by decide
  rw [e1, e2]
  rw [Bool.eq_iff_iff, beq_iff_eq, decide_eq_true_eq, ← Array.toList_inj, Array.toList_extract]
  exact Iff.rfl
theorem starts45 (x : Str) : Txt.startswith x dash = decide ((TL.tl x).take 1 = [45]) := by
  unfold Txt.startswith
  rw [sub45]
  have e1 : dash.length = 1 := by decide
  rw [e1, Nat.zero_add, TL.len_tl]
  cases h : TL.tl x with
  | nil => rfl
  | cons c r => simp
theorem remove45 (x : Str) : TL.tl (Txt.removeprefix x dash) = if (TL.tl x).take 1 = [45] then (TL.tl x).drop 1 else TL.tl x := by
  unfold Txt.removeprefix
  rw [sub45]
  by_cases h : (TL.tl x).take 1 = [45]
  · rw [decide_eq_true h, if_pos h, if_pos rfl]
    have e1 : dash.length = 1 := by decide
    unfold Txt.affix
    rw [e1]
    have hl : x.length = (TL.tl x).length := TL.len_tl x
    have hp : 0 < (TL.tl x).length := by
      cases e : TL.tl x with
      | nil =>
        rw [e] at h
        cases h
      | cons c r => simp
    show TL.tl (if (x.length - 1 == x.length) = true then x else Builtin.Str.strSub x 1 x.length) = _
    rw [if_neg (by rw [beq_iff_eq]; omega), TL.tl_strSub_end]
  · rw [decide_eq_false h, if_neg h, if_neg Bool.false_ne_true]
    rfl
/-! ### digits -/
def DigS (x : Str) : Prop := NumText.AllDigits (TL.tl x) ∧ TL.tl x ≠ []
theorem dig_ok : ∀ c : Nat, c < 10 → Unicode.isDigit (48 + c) = true := by decide +kernel
theorem DigS.ascii {x : Str} (h : DigS x) : Txt.isascii x = true := by
  unfold Txt.isascii
  rw [Array.all_eq_true']
  intro c hc
  have := h.1 c (Array.mem_toList_iff.mpr hc)
  exact decide_eq_true (by omega)
theorem DigS.digit {x : Str} (h : DigS x) : Txt.isdigit x = true := by
  unfold Txt.isdigit
  have h1 : x.length > 0 := by
    rw [TL.len_tl]
    exact List.length_pos_iff.mpr h.2
  rw [decide_eq_true h1, Bool.true_and, Array.all_eq_true']
  intro c hc
  have := h.1 c (Array.mem_toList_iff.mpr hc)
  have e := dig_ok (c - 48) (by omega)
  rwa [show 48 + (c - 48) = c by omega] at e
theorem dig_nat (n : Nat) : DigS (itx (n : Int)) := by
  unfold DigS
  rw [itx_nat]
  exact ⟨TL.numL_digits n, TL.numL_ne n⟩
theorem int_nat {n k : Nat} (h : n < 2 ^ (3 * k)) (hk : 0 < k) (h4 : k ≤ 4000) : PySem.intText? (itx (n : Int)) = some (n : Int) := TL.int_num (by have := numL_bd h hk; omega)
/-- the quotient of two integers in lowest terms is the pair itself -/
theorem frD_cop {t b : Int} (hb : 1 ≤ b) (h : Nat.gcd t.natAbs b.natAbs = 1) : frD t b = .tuple [.int t, .int b] := by
  have e : gq t b = 1 := by
    unfold gq
    rw [if_neg (by omega), h]
    rfl
  unfold frD frT frB
  rw [e, Int.fdiv_one, Int.fdiv_one]
section
variable {P : Program} {w : World} {K : PySem.W.Frag} {mg : Str → Option Value} {base : Heap} {f : Addr} {fd : FuncData}
abbrev sNText : Stmt := top 33
theorem scNText : FnScope ["number", "top", "bottom"] ["number"] (defScope sNText) := ⟨rfl, rfl, rfl, by decide +kernel, rfl, by decide +kernel, by decide +kernel⟩
def rNText : Rel := fun as s d s' => ∃ v t b, as = [.val v] ∧ Nm v t b ∧ Bd 1500 t ∧ Bd 1500 b ∧ d = .str (ntx t b) ∧ s' = s
theorem bd_log {i : Int} (h : Bd 1500 i) : i.natAbs.log2 < 1920 := Nat.lt_of_lt_of_le (PySem.Flt.log2_lt_of (by decide) h) (by decide)
theorem ok_ntext (F : Fun K "number_text" "number_text" sNText f fd) (G1 : Dn P w K mg base 4 "need_number" rNeed) (G3 : Dn P w K mg base 1 "as_pair" rPair) : FnOk P w K mg base CX0 5 f fd ["number"] (spD rNText) := by
  refine okD F scNText (by rintro _ _ _ _ ⟨v, t, b, rfl, _⟩; rfl) fun cdv A outer s0 H0 E C z as s₁ d s h => ?_
  obtain ⟨v, t, b, rfl, hv, ht, hb, rfl, rfl⟩ := h
  have b1 := hv.pos
  refine sr_expr (ev_call G1 C.hr (ea_cons (ev_var 0) ea_nil) ⟨_, rfl, hv.num, rfl, rfl⟩) ?_
  refine sr_unp2 1 2 C.calm C.nd (ev_call G3 (C.hr.mono (by decide)) (ea_cons (ev_var 0) ea_nil) ⟨_, _, _, rfl, hv, rfl, rfl⟩) ?_
  unfold ntx
  by_cases h0 : b = 1
  · rw [if_pos h0]
    exact sr_ifT (ET.is (et_eqI C.hu (ev_var 2) ev_int) (decide_eq_true h0)) (sr_ret (ev_fstr1 (ev_fmtI (bd_log ht) (ev_var 1))))
  · rw [if_neg h0]
    have h1 := itx_len (k := 500) ht (by decide)
    have h2 := itx_len (k := 500) hb (by decide)
    have e : slash.length = 1 := by decide
    exact sr_ifF (ET.is (et_eqI C.hu (ev_var 2) ev_int) (decide_eq_false h0)) (sr_ret (ev_fstr3 (by omega) (ev_fmtI (bd_log ht) (ev_var 1)) ev_str (ev_fmtI (bd_log hb) (ev_var 2))))
abbrev sDigs : Stmt := top 34
theorem scDigs : FnScope ["text"] ["text"] (defScope sDigs) := ⟨rfl, rfl, rfl, by decide +kernel, rfl, by decide +kernel, by decide +kernel⟩
def rDigs : Rel := fun as s d s' => ∃ x, as = [.val (.str x)] ∧ DigS x ∧ d = .bool true ∧ s' = s
theorem ok_digs (F : Fun K "_digits_only" "_digits_only" sDigs f fd) : FnOk P w K mg base CX0 1 f fd ["text"] (spD rDigs) := by
  refine okD F scDigs (by rintro _ _ _ _ ⟨x, rfl, _⟩; rfl) fun cdv A outer s0 H0 E C z as s₁ d s h => ?_
  obtain ⟨x, rfl, hx, rfl, rfl⟩ := h
  refine sr_ret (ev_andT (ev_m0 (x := x) PySem.F.slot_str_isascii PySem.F.type_str_isascii mt_isascii (fun vs H at_ r Q q => ?_) (ev_var 0)) (ev_b1 (ev_m0 (x := x) PySem.F.slot_str_isdigit PySem.F.type_str_isdigit mt_isdigit (fun vs H at_ r Q q => ?_) (ev_var 0))))
  · cases r
    exact ⟨x, rfl, rfl, trivial, by rw [hx.ascii]; exact q _ H (.refl H) at_ (.bl _)⟩
  · cases r
    exact ⟨x, rfl, rfl, trivial, by rw [hx.digit]; exact q _ H (.refl H) at_ (.bl _)⟩
abbrev sNOf : Stmt := top 35
theorem scNOf : FnScope ["text", "size", "number", "over", "slash", "under"] ["text"] (defScope sNOf) := ⟨rfl, rfl, rfl, by decide +kernel, rfl, by decide +kernel, by decide +kernel⟩
def rNOf : Rel := fun as s d s' => ∃ t b, as = [.val (.str (ntx t b))] ∧ 1 ≤ b ∧ Nat.gcd t.natAbs b.natAbs = 1 ∧ Bd 450 t ∧ Bd 450 b ∧ d = .tuple [.int t, .int b] ∧ s' = s
theorem pl_str {x : Str} (h : ∀ c ∈ TL.tl x, c < 128) : Pl (.str x) := by
  have e : PyData.strOk x = true := by
    unfold PyData.strOk
    rw [Array.all_eq_true']
    intro c hc
    have := h c (Array.mem_toList_iff.mpr hc)
    exact decide_eq_true (by omega)
  refine ⟨rfl, ?_⟩
  show (PyData.strOk x && _) = true
  rw [e]
  rfl
theorem numL_small (n : Nat) : ∀ c ∈ TL.numL n, c < 128 := fun c hc => by
  have := TL.numL_digits n c hc
  omega
theorem itx_small (i : Int) : ∀ c ∈ TL.tl (itx i), c < 128 := by
  by_cases h0 : 0 ≤ i
  · obtain ⟨n, rfl⟩ := Int.eq_ofNat_of_zero_le h0
    rw [itx_nat]
    exact numL_small n
  · obtain ⟨n, e, hn⟩ : ∃ n : Nat, i = -(n : Int) ∧ 0 < n := ⟨i.natAbs, by omega, by omega⟩
    subst e
    rw [itx_neg n hn]
    intro c hc
    rcases List.mem_cons.mp hc with e | hc
    · omega
    · exact numL_small n c hc
theorem ntx_small (t b : Int) : ∀ c ∈ TL.tl (ntx t b), c < 128 := by
  unfold ntx
  split
  · exact itx_small t
  · rw [TL.tl_append, TL.tl_append]
    intro c hc
    rcases List.mem_append.mp hc with hc | hc
    · rcases List.mem_append.mp hc with hc | hc
      · exact itx_small t c hc
      · have e : TL.tl slash = [47] := rfl
        rw [e] at hc
        have := List.mem_singleton.mp hc
        omega
    · exact itx_small b c hc
/-- the parts of such a text -/
theorem parts_of {t b : Int} (hb : 1 ≤ b) : TL.tl (Txt.removeprefix (ntx t b) dash) = TL.tl (ntx (t.natAbs : Int) b) ∧ Txt.startswith (ntx t b) dash = decide (t < 0) := by
  have hd : ∀ n, (TL.numL n).take 1 ≠ [45] := fun n h => by
    have : (45 : Nat) ∈ TL.numL n := List.mem_of_mem_take (i := 1) (by rw [h]; simp)
    exact TL.numL_free (n := n) (s := 45) (.inl (by decide)) this
  have hd2 : ∀ (n : Nat) (l : List Nat), (TL.numL n ++ l).take 1 ≠ [45] := fun n l h => by
    have hne := TL.numL_ne n
    cases e : TL.numL n with
    | nil => exact hne e
    | cons c r =>
      rw [e] at h
      exact hd n (by rw [e]; simpa using h)
  rw [remove45, starts45]
  have key : TL.tl (ntx t b) = (if t < 0 then [45] else []) ++ TL.tl (ntx (t.natAbs : Int) b) := by
    have one : TL.tl (itx t) = (if t < 0 then [45] else []) ++ TL.tl (itx (t.natAbs : Int)) := by
      by_cases h0 : t < 0
      · rw [if_pos h0, itx_nat]
        have := itx_neg t.natAbs (by omega)
        rw [show -((t.natAbs : Nat) : Int) = t by omega] at this
        exact this
      · rw [if_neg h0, show ((t.natAbs : Nat) : Int) = t by omega]
        rfl
    unfold ntx
    split
    · exact one
    · rw [TL.tl_append, TL.tl_append, TL.tl_append, TL.tl_append, one, List.append_assoc, List.append_assoc, List.append_assoc]
  have nod : (TL.tl (ntx (t.natAbs : Int) b)).take 1 ≠ [45] := by
    unfold ntx
    split
    · rw [itx_nat]
      exact hd _
    · rw [TL.tl_append, TL.tl_append, itx_nat, List.append_assoc]
      exact hd2 _ _
  rw [key]
  by_cases h0 : t < 0
  · rw [if_pos h0, decide_eq_true h0]
    refine ⟨?_, decide_eq_true rfl⟩
    rw [if_pos (show List.take 1 ([45] ++ TL.tl (ntx (t.natAbs : Int) b)) = [45] from rfl)]
    rfl
  · rw [if_neg h0, decide_eq_false h0, List.nil_append]
    exact ⟨if_neg nod, decide_eq_false nod⟩
theorem part_of {n : Nat} {b : Int} (hb : 1 ≤ b) : Txt.partition (ntx (n : Int) b) slash = if b = 1 then (itx (n : Int), Str.empty, Str.empty) else (itx (n : Int), slash, itx b) := by
  have hs : TL.tl slash = [47] := rfl
  have hf : 47 ∉ TL.tl (itx (n : Int)) := by
    rw [itx_nat]
    exact TL.numL_free (.inl (by decide))
  unfold ntx
  split
  · rw [TL.partition_none hs hf]
  · rw [TL.partition_app hs hf]
theorem ok_nof (F : Fun K "number_of_text" "number_of_text" sNOf f fd) (TT : Top mg) (T : Top2 mg) (G1 : Dn P w K mg base 1 "_digits_only" rDigs) (G2 : Dn P w K mg base 2 "fraction" rQuot) (G3 : Dn P w K mg base 6 "multiplied" rMult) (G4 : Dn P w K mg base 5 "number_text" rNText) : FnOk P w K mg base CX0 7 f fd ["text"] (spD rNOf) := by
  refine okD F scNOf (by rintro _ _ _ _ ⟨t, b, rfl, _⟩; rfl) fun cdv A outer s0 H0 E C z as s₁ d s h => ?_
  obtain ⟨t, b, rfl, b1, hc, ht, hb, rfl, rfl⟩ := h
  obtain ⟨tx, hx⟩ := T.text
  have hl := ntx_len (k := 150) ht hb (by decide)
  have hL : (100000 : Nat) ≤ sizeLine := by decide
  have hz : (ntx t b).length ≤ sizeLine := by omega
  -- not a text, too long
  refine sr_ifF (et_w (ew_orF (et_notF (et_val (ev_isi TT.isi TT.str (ev_var 0) (k_str (.str (ntx t b)))))) (ew_or1 (ET.is (et_gt (ev_bltn call_len (rb_lenS hz) TT.len (ed_cons (ev_var 0) ed_nil)) (ev_glob rfl hx ⟨tx, rfl⟩)) (decide_eq_false (by omega)))))) ?_
  obtain ⟨p1, p2⟩ := parts_of (t := t) b1
  have e1 : Txt.removeprefix (ntx t b) dash = ntx (t.natAbs : Int) b := TL.ext_tl p1
  have hA : Bd 450 ((t.natAbs : Nat) : Int) := by
    unfold Bd at *
    omega
  have hl2 := ntx_len (k := 150) hA hb (by decide)
  have rp : ∀ {s : S}, RM z s (fun x xs H Q => ∃ a b, x = .str a ∧ xs = [.str b] ∧ a.length ≤ sizeLine ∧ Q (.str (Txt.removeprefix a b)) H) (ntx t b) [.str dash] (.str (ntx (t.natAbs : Int) b)) := fun {s} vs H at_ r Q q => by
    cases r with
    | cons r1 r =>
      cases r
      cases r1
      exact ⟨_, _, rfl, rfl, hz, by rw [e1]; exact q _ H (.refl H) at_ (.str _)⟩
  have rpart : ∀ {s : S}, RM z s (fun x xs H Q => ∃ a b, x = .str a ∧ xs = [.str b] ∧ (b.length == 0) = false ∧ a.length ≤ sizeLine ∧ ∀ p, H p = none → Q (.ref p) (upd H p (.tup [.str (Txt.partition a b).1, .str (Txt.partition a b).2.1, .str (Txt.partition a b).2.2])))
      (ntx (t.natAbs : Int) b) [.str slash] (.tuple [.str (itx (t.natAbs : Int)), .str (if b = 1 then Str.empty else slash), .str (if b = 1 then Str.empty else itx b)]) := fun {s} vs H at_ r Q q => by
    cases r with
    | cons r1 r =>
      cases r
      cases r1
      refine ⟨_, _, rfl, rfl, by decide, by omega, fun p hp => q _ _ (.new hp) (at_.new hp) (.tup (at_.fresh hp) upd_same ?_)⟩
      rw [part_of b1]
      by_cases h0 : b = 1
      · rw [if_pos h0, if_pos h0, if_pos h0]
        exact .cons (.str _) (.cons (.str _) (.cons (.str _) .nil))
      · rw [if_neg h0, if_neg h0, if_neg h0]
        exact .cons (.str _) (.cons (.str _) (.cons (.str _) .nil))
  refine sr_unp3 3 4 5 C.calm C.nd (ev_m1 (x := ntx (t.natAbs : Int) b) PySem.F.slot_str_partition PySem.F.type_str_partition mt_partition rpart (ev_m1 (x := ntx t b) PySem.F.slot_str_removeprefix PySem.F.type_str_removeprefix mt_removeprefix rp (ev_var 0) ev_str) ev_str) ?_
  obtain ⟨nb, rfl⟩ : ∃ nb : Nat, b = (nb : Int) := ⟨b.toNat, by omega⟩
  -- the lower part
  have tail : ∀ q : Sl, SR (cxOf CX0 P w K mg base ["text", "size", "number", "over", "slash", "under"] "number_of_text" (defScope sNOf) f cdv A outer s0 H0 E).nox z ((defBody sNOf).drop 3)
      [.val (.str (ntx t (nb : Int))), .un, .un, .val (.str (itx (t.natAbs : Int))), q, .val (.str (itx (nb : Int)))] s (.rt (.tuple [.int t, .int (nb : Int)]) s) := fun q => by
    have i1 := int_nat (n := t.natAbs) (k := 150) ht (by decide) (by decide)
    have i2 := int_nat (n := nb) (k := 150) (by unfold Bd at hb; simpa using hb) (by decide) (by decide)
    have l1 := itx_len (k := 150) hA (by decide)
    have l2 := itx_len (k := 150) hb (by decide)
    refine sr_ifF (et_w (ew_orF (et_notF (et_val (ev_call G1 (C.hr.mono (by decide)) (ea_cons (ev_var 3) ea_nil) ⟨_, rfl, dig_nat _, rfl, rfl⟩))) (ew_orF (et_notF (et_val (ev_call G1 (C.hr.mono (by decide)) (ea_cons (ev_var 5) ea_nil) ⟨_, rfl, dig_nat _, rfl, rfl⟩)))
      (ew_or1 (ET.is (et_eqI C.hu (ev_bty call_int_str (rb_intS i2 (by omega)) TT.int (ed_cons (ev_var 5) ed_nil)) ev_int) (decide_eq_false (by omega))))))) ?_
    have ga : Nat.gcd ((t.natAbs : Nat) : Int).natAbs ((nb : Nat) : Int).natAbs = 1 := hc
    refine sr_asg 1 C.nd (EV.is (ev_call G2 (C.hr.mono (by decide)) (ea_cons (ev_bty call_int_str (rb_intS i1 (by omega)) TT.int (ed_cons (ev_var 3) ed_nil)) (ea_cons (ev_bty call_int_str (rb_intS i2 (by omega)) TT.int (ed_cons (ev_var 5) ed_nil)) ea_nil)) ⟨_, _, rfl, by omega, hb.mono (by decide), rfl, rfl⟩) (frD_cop b1 ga)) ?_
    have rs : ∀ {s : S}, RM z s (fun x xs H Q => ∃ a b, x = .str a ∧ xs = [.str b] ∧ Q (.bl (Txt.startswith a b)) H) (ntx t (nb : Int)) [.str dash] (.bool (decide (t < 0))) := fun {s} vs H at_ r Q q => by
      cases r with
      | cons r1 r =>
        cases r
        cases r1
        exact ⟨_, _, rfl, rfl, by rw [p2]; exact q _ H (.refl H) at_ (.bl _)⟩
    have hs : ET (cxOf CX0 P w K mg base ["text", "size", "number", "over", "slash", "under"] "number_of_text" (defScope sNOf) f cdv A outer s0 H0 E).nox z (match (defBody sNOf)[5]? with | some (Stmt.Assign _ (Expr.IfExp c _ _ _) _) => c | _ => .Constant .none 0 ⟨0, 0, 0, 0⟩) [.val (.str (ntx t (nb : Int))), .val (.tuple [.int (t.natAbs : Int), .int (nb : Int)]), .un, .val (.str (itx (t.natAbs : Int))), q, .val (.str (itx (nb : Int)))] s (decide (t < 0)) s :=
      et_val (ev_m1 (x := ntx t (nb : Int)) PySem.F.slot_str_startswith PySem.F.type_str_startswith mt_startswith rs (ev_var 0) ev_str)
    refine sr_asg (d := .tuple [.int t, .int (nb : Int)]) (s1 := s) 2 C.nd ?_ ?_
    · by_cases h0 : t < 0
      · rw [decide_eq_true h0] at hs
        refine ev_ifT hs (EV.is (ev_call G3 (C.hr.mono (by decide)) (ea_cons (ev_var 1) (ea_cons (ev_neg ev_int) ea_nil)) ⟨_, _, (t.natAbs : Int), (nb : Int), -1, 1, rfl, ⟨.fr b1 ga, .int (by decide) (by decide), hA.mono (by decide), hb.mono (by decide), by unfold Bd; decide, by unfold Bd; decide⟩, rfl, rfl⟩) ?_)
        have e1 : (t.natAbs : Int) * -1 = t := by omega
        rw [e1, Int.mul_one]
        exact frD_cop b1 hc
      · rw [decide_eq_false h0] at hs
        have e1 : (t.natAbs : Int) = t := by omega
        refine ev_ifF hs ?_
        exact EV.is (ev_var 1) (by rw [e1])
    · refine sr_ifF (ET.is (et_ne C.hu (pl_str (ntx_small _ _)) (pl_str (ntx_small _ _)) (ev_call G4 (C.hr.mono (by decide)) (ea_cons (ev_var 2) ea_nil) ⟨_, _, _, rfl, .fr b1 hc, ht.mono (by decide), hb.mono (by decide), rfl, rfl⟩) (ev_var 0)) ?_) (sr_ret (ev_var 2))
      show (!(ntx t (nb : Int) == ntx t (nb : Int))) = false
      simp
  by_cases h0 : (nb : Int) = 1
  · have e : PyData.str (if (nb : Int) = 1 then Str.empty else slash) = .str Str.empty := by rw [if_pos h0]
    rw [e]
    refine sr_ifTn (ET.is (et_eq C.hu (pl_str (x := Str.empty) (by decide)) (pl_str (x := Str.empty) (by decide)) (ev_var 4) ev_str) rfl) (sr_asg 5 C.nd ev_str sr_nil) ?_
    have t1 := tail (.val (.str Str.empty))
    have e2 : itx (nb : Int) = ("1" : Str) := by rw [h0]; rfl
    rw [e2] at t1
    exact t1
  · rw [if_neg h0, if_neg h0]
    exact sr_ifF (ET.is (et_eq C.hu (pl_str (x := slash) (by decide)) (pl_str (x := Str.empty) (by decide)) (ev_var 4) ev_str) (by decide)) (tail _)
end
end K1


set_option Elab.async false
set_option linter.all false
set_option maxRecDepth 100000
namespace K1
open PySem PySem.Spec PyProof.Rows L2 DL
/-! ### the dice -/
def oneV (s : S) : Int := (s.2.1 + 99990067 * (s.2.2 + 1)).fmod 2305843009213693381
def twoV (s : S) : Int := (oneV s * oneV s + 89 * (s.2.2 + 1)).fmod 2305843009213693343 * 8675309 + oneV s
def rollV (s : S) (n : Int) : Int := if 0 < s.1 then s.1.fmod n else ((twoV s).fdiv 65551).fmod n
def rollS (s : S) (n : Int) : S := if 0 < s.1 then (s.1.fdiv n, s.2.1, s.2.2) else (s.1, s.2.1, s.2.2 + 1)
theorem fmod_bd {i n : Int} (h : 0 < n) : 0 ≤ i.fmod n ∧ i.fmod n < n := by
  rw [Int.fmod_eq_emod_of_nonneg _ (by omega)]
  exact ⟨Int.emod_nonneg _ (by omega), Int.emod_lt_of_pos _ h⟩
theorem roll_bd (s : S) {n : Int} (h : 0 < n) : 0 ≤ rollV s n ∧ rollV s n < n := by
  unfold rollV
  split <;> exact fmod_bd h
/-- the item that a pick gives -/
def pickV (s : S) (ds : List PyData) : PyData := ds.getD (rollV s ds.length).toNat .none
theorem gcd_turn (x y : Nat) : Nat.gcd y (x % y) = Nat.gcd x y := by
  rw [Nat.gcd_comm y (x % y), ← Nat.gcd_rec, Nat.gcd_comm]
section
variable {P : Program} {w : World} {K : PySem.W.Frag} {mg : Str → Option Value} {base : Heap} {f : Addr} {fd : FuncData}
abbrev sRoll : Stmt := top 38
theorem scRoll : FnScope ["_law_dice_here", "_law_total", "_law_one", "_law_two", "_law_found"] ["_law_dice_here", "_law_total"] (defScope sRoll) := ⟨rfl, rfl, rfl, by decide +kernel, rfl, by decide +kernel, by decide +kernel⟩
def rRoll : Rel := fun as s d s' => ∃ n, as = [.dice, .val (.int n)] ∧ 0 < n ∧ Bd 9000 n ∧ d = .int (rollV s n) ∧ s' = rollS s n
theorem ok_roll (F : Fun K "_law_roll" "_law_roll" sRoll f fd) (T : Top mg) : FnOk P w K mg base CX0 1 f fd ["_law_dice_here", "_law_total"] (spD rRoll) := by
  refine okD F scRoll (by rintro _ _ _ _ ⟨n, rfl, _⟩; rfl) fun cdv A outer s0 H0 E C z as s d s' h => ?_
  obtain ⟨n, rfl, n0, hn, rfl, rfl⟩ := h
  obtain ⟨a, b, c⟩ := s
  by_cases h0 : 0 < a
  · have e1 : rollV (a, b, c) n = a.fmod n := if_pos h0
    have e2 : rollS (a, b, c) n = (a.fdiv n, b, c) := if_pos h0
    rw [e1, e2]
    refine sr_ifT (ET.is (et_gt (ev_dice 0 0) ev_int) (decide_eq_true h0)) ?_
    refine sr_asg 4 C.nd (ev_mod (show n ≠ 0 by omega) (ev_bty call_int1 rb_int T.int (ed_cons (ev_dice 0 0) ed_nil)) (ev_var 1)) ?_
    refine sr_put 0 0 (ev_div (hn.cdiv (by omega)) (ev_dice 0 0) (ev_var 1)) ?_
    exact sr_ret (ev_var 4)
  · have e1 : rollV (a, b, c) n = ((twoV (a, b, c)).fdiv 65551).fmod n := if_neg h0
    have e2 : rollS (a, b, c) n = (a, b, c + 1) := if_neg h0
    rw [e1, e2]
    have m1 : -(2 ^ 64) < oneV (a, b, c) ∧ oneV (a, b, c) < 2 ^ 64 := by
      have := fmod_bd (i := b + 99990067 * (c + 1)) (n := 2305843009213693381) (by decide)
      unfold oneV
      dsimp only
      omega
    have m2 : -(2 ^ 64) < (oneV (a, b, c) * oneV (a, b, c) + 89 * (c + 1)).fmod 2305843009213693343 ∧ (oneV (a, b, c) * oneV (a, b, c) + 89 * (c + 1)).fmod 2305843009213693343 < 2 ^ 64 := by
      have := fmod_bd (i := oneV (a, b, c) * oneV (a, b, c) + 89 * (c + 1)) (n := 2305843009213693343) (by decide)
      omega
    refine sr_ifF (ET.is (et_gt (ev_dice 0 0) ev_int) (decide_eq_false h0)) ?_
    refine sr_put 0 2 (ev_add (ev_dice 0 2) ev_int) ?_
    refine sr_asg (d := .int (oneV (a, b, c))) 2 C.nd (ev_mod (by decide) (ev_bty call_int1 rb_int T.int (ed_cons (ev_add (ev_dice 0 1) (ev_mulL (by decide) ev_int (ev_dice 0 2))) ed_nil)) ev_int) ?_
    refine sr_asg (d := .int (twoV (a, b, c))) 3 C.nd (ev_add (ev_mulL m2 (ev_mod (by decide) (ev_bty call_int1 rb_int T.int (ed_cons (ev_add (ev_mulL m1 (ev_var 2) (ev_var 2)) (ev_mulL (by decide) ev_int (ev_dice 0 2))) ed_nil)) ev_int) ev_int) (ev_var 2)) ?_
    exact sr_ret (ev_mod (show n ≠ 0 by omega) (ev_bty call_int1 rb_int T.int (ed_cons (ev_div ⟨by decide, by decide⟩ (ev_var 3) ev_int) ed_nil)) (ev_var 1))
abbrev sPick : Stmt := top 39
theorem scPick : FnScope ["_law_dice_here", "_law_items"] ["_law_dice_here", "_law_items"] (defScope sPick) := ⟨rfl, rfl, rfl, by decide +kernel, rfl, by decide +kernel, by decide +kernel⟩
def rPick : Rel := fun as s d s' => ∃ ds : List PyData, as = [.dice, .val (.list ds)] ∧ 0 < ds.length ∧ ds.length ≤ 1000 ∧ d = pickV s ds ∧ s' = rollS s ds.length
theorem pick_at (s : S) {ds : List PyData} (h : 0 < ds.length) : atI ds (rollV s ds.length) = some (pickV s ds) := by
  have hb := roll_bd s (n := ds.length) (by omega)
  have e : rollV s ds.length = (((rollV s ds.length).toNat : Nat) : Int) := by omega
  rw [e]
  refine atI_nat ?_
  unfold pickV
  rw [List.getD_eq_getElem?_getD, List.getElem?_eq_getElem (show (rollV s ds.length).toNat < ds.length by omega)]
  rfl
theorem ok_pick (F : Fun K "_law_pick" "_law_pick" sPick f fd) (T : Top mg) (G : Dn P w K mg base 1 "_law_roll" rRoll) : FnOk P w K mg base CX0 2 f fd ["_law_dice_here", "_law_items"] (spD rPick) := by
  refine okD F scPick (by rintro _ _ _ _ ⟨ds, rfl, _⟩; rfl) fun cdv A outer s0 H0 E C z as s d s' h => ?_
  obtain ⟨ds, rfl, h0, h1, rfl, rfl⟩ := h
  have hB : Bd 9000 (ds.length : Int) := by
    refine Bd.mono (n := 20) ?_ (by decide)
    unfold Bd
    show ds.length < 1048576
    omega
  exact sr_ret (ev_ixL (ev_var 1) (ev_call G C.hr (ea_dice 0 (ea_cons (ev_bltn call_len rb_len T.len (ed_cons (ev_var 1) ed_nil)) ea_nil)) ⟨_, rfl, by omega, hB, rfl, rfl⟩) (pick_at s h0))
abbrev sGcd : Stmt := top 40
theorem scGcd : FnScope ["_law_one", "_law_other"] ["_law_one", "_law_other"] (defScope sGcd) := ⟨rfl, rfl, rfl, by decide +kernel, rfl, by decide +kernel, by decide +kernel⟩
def rGcd' : Rel := fun as s d s' => ∃ a b, as = [.val (.int a), .val (.int b)] ∧ d = .int (Nat.gcd a.natAbs b.natAbs : Nat) ∧ s' = s
theorem ok_gcd (F : Fun K "_law_gcd" "_law_gcd" sGcd f fd) (T : Top mg) : FnOk P w K mg base CX0 1 f fd ["_law_one", "_law_other"] (spD rGcd') := by
  refine okD F scGcd (by rintro _ _ _ _ ⟨a, b, rfl, _⟩; rfl) fun cdv A outer s0 H0 E C z as s₁ d s h => ?_
  obtain ⟨a, b, rfl, rfl, rfl⟩ := h
  refine sr_par 0 1 C.calm C.nd (ed_cons (ev_bltn call_abs rb_abs T.abs (ed_cons (ev_var 0) ed_nil)) (ed_cons (ev_bltn call_abs rb_abs T.abs (ed_cons (ev_var 1) ed_nil)) ed_nil)) ?_
  refine sr_whileW C.hp (fun m es s' => s' = s ∧ ∃ x : Nat, es = [.val (.int (x : Int)), .val (.int (m : Int))] ∧ Nat.gcd x m = Nat.gcd a.natAbs b.natAbs) (m0 := b.natAbs) ⟨rfl, a.natAbs, rfl, rfl⟩ ?_
  rintro m es s' ⟨rfl, x, rfl, hg⟩
  by_cases hm : 0 < m
  · right
    refine ⟨ET.is (et_gt (ev_var 1) ev_int) (decide_eq_true (by omega)), _, s', x % m, Nat.mod_lt _ hm, ⟨rfl, m, rfl, by rw [gcd_turn, hg]⟩, ?_⟩
    have e : ((x : Int)).fmod (m : Int) = ((x % m : Nat) : Int) := by
      rw [Int.fmod_eq_emod_of_nonneg _ (by omega)]
      rfl
    refine sr_par 0 1 C.calm C.nd (ed_cons (ev_var 1) (ed_cons (EV.is (ev_mod (show (m : Int) ≠ 0 by omega) (ev_bty call_int1 rb_int T.int (ed_cons (ev_var 0) ed_nil)) (ev_var 1)) (by rw [e])) ed_nil)) sr_nil
  · left
    have e0 : m = 0 := by omega
    subst e0
    rw [Nat.gcd_zero_right] at hg
    subst hg
    exact ⟨ET.is (et_gt (ev_var 1) ev_int) (decide_eq_false (by decide)), sr_ret (ev_var 0)⟩
abbrev sLFr : Stmt := top 41
theorem scLFr : FnScope ["_law_top", "_law_bottom", "_law_shared"] ["_law_top", "_law_bottom"] (defScope sLFr) := ⟨rfl, rfl, rfl, by decide +kernel, rfl, by decide +kernel, by decide +kernel⟩
theorem ok_lfr (F : Fun K "_law_fraction" "_law_fraction" sLFr f fd) (G : Dn P w K mg base 1 "_law_gcd" rGcd') : FnOk P w K mg base CX0 2 f fd ["_law_top", "_law_bottom"] (spD rQuot) := by
  refine okD F scLFr (by rintro _ _ _ _ ⟨v, t, rfl, _⟩; rfl) fun cdv A outer s0 H0 E C z as s₁ d s h => ?_
  obtain ⟨t, b, rfl, hb, hB, rfl, rfl⟩ := h
  refine sr_asg 2 C.nd (ev_call G C.hr (ea_cons (ev_var 0) (ea_cons (ev_var 1) ea_nil)) ⟨_, _, rfl, rfl, rfl⟩) ?_
  have fin : SR (cxOf CX0 P w K mg base ["_law_top", "_law_bottom", "_law_shared"] "_law_fraction" (defScope sLFr) f cdv A outer s0 H0 E).nox z ((defBody sLFr).drop 2) [.val (.int t), .val (.int b), .val (.int (gq t b))] s (.rt (frD t b) s) :=
    sr_ret (ev_tup (ed_cons (ev_div ((gq_bd hb hB).cdiv (gq_ne hb)) (ev_var 0) (ev_var 2)) (ed_cons (ev_div ((gq_bd hb hB).cdiv (gq_ne hb)) (ev_var 1) (ev_var 2)) ed_nil)))
  by_cases h0 : b < 0
  · have e : gq t b = -((Nat.gcd t.natAbs b.natAbs : Nat) : Int) := if_pos h0
    rw [e] at fin
    exact sr_ifTn (ET.is (et_lt (ev_var 1) ev_int) (decide_eq_true h0)) (sr_asg 2 C.nd (ev_neg (ev_var 2)) sr_nil) fin
  · have e : gq t b = ((Nat.gcd t.natAbs b.natAbs : Nat) : Int) := if_neg h0
    rw [e] at fin
    exact sr_ifF (ET.is (et_lt (ev_var 1) ev_int) (decide_eq_false h0)) fin
/-! ### the law's own sums -/
def prD (t b : Int) : PyData := .tuple [.int t, .int b]
theorem ev_fst {X : Cx} {z : Z} {e : Expr} {es : List Sl} {s s1 : S} {t b : Int} {pos p : Pos} {j} (h : EV X z e es s (prD t b) s1) : EV X z (.Subscript e (.Constant (.int 0) j p) pos) es s (.int t) s1 := ev_ixT h ev_int (atI_nat (j := 0) rfl)
theorem ev_snd {X : Cx} {z : Z} {e : Expr} {es : List Sl} {s s1 : S} {t b : Int} {pos p : Pos} {j} (h : EV X z e es s (prD t b) s1) : EV X z (.Subscript e (.Constant (.int 1) j p) pos) es s (.int b) s1 := ev_ixT h ev_int (atI_nat (j := 1) rfl)
def rPlus : Rel := fun as s d s' => ∃ t b o u, as = [.val (prD t b), .val (prD o u)] ∧ Bd 3000 t ∧ Bd 3000 b ∧ Bd 3000 o ∧ Bd 3000 u ∧ b * u ≠ 0 ∧ d = frD (t * u + o * b) (b * u) ∧ s' = s
abbrev sPlus : Stmt := top 42
theorem scPlus : FnScope ["_law_one", "_law_other"] ["_law_one", "_law_other"] (defScope sPlus) := ⟨rfl, rfl, rfl, by decide +kernel, rfl, by decide +kernel, by decide +kernel⟩
theorem ok_plus (F : Fun K "_law_plus" "_law_plus" sPlus f fd) (G : Dn P w K mg base 2 "_law_fraction" rQuot) : FnOk P w K mg base CX0 3 f fd ["_law_one", "_law_other"] (spD rPlus) := by
  refine okD F scPlus (by rintro _ _ _ _ ⟨t, b, o, u, rfl, _⟩; rfl) fun cdv A outer s0 H0 E C z as s₁ d s h => ?_
  obtain ⟨t, b, o, u, rfl, ht, hb, ho, hu, h0, rfl, rfl⟩ := h
  exact sr_ret (ev_call G C.hr (ea_cons (ev_add (ev_mul (ht.cmul hu) (ev_fst (ev_var 0)) (ev_snd (ev_var 1))) (ev_mul (ho.cmul hb) (ev_fst (ev_var 1)) (ev_snd (ev_var 0)))) (ea_cons (ev_mul (hb.cmul hu) (ev_snd (ev_var 0)) (ev_snd (ev_var 1))) ea_nil)) ⟨_, _, rfl, h0, (hb.mul hu).mono (by decide), rfl, rfl⟩)
def rTimes : Rel := fun as s d s' => ∃ t b o u, as = [.val (prD t b), .val (prD o u)] ∧ Bd 3000 t ∧ Bd 3000 b ∧ Bd 3000 o ∧ Bd 3000 u ∧ b * u ≠ 0 ∧ d = frD (t * o) (b * u) ∧ s' = s
abbrev sTimes : Stmt := top 43
theorem scTimes : FnScope ["_law_one", "_law_other"] ["_law_one", "_law_other"] (defScope sTimes) := ⟨rfl, rfl, rfl, by decide +kernel, rfl, by decide +kernel, by decide +kernel⟩
theorem ok_times (F : Fun K "_law_times" "_law_times" sTimes f fd) (G : Dn P w K mg base 2 "_law_fraction" rQuot) : FnOk P w K mg base CX0 3 f fd ["_law_one", "_law_other"] (spD rTimes) := by
  refine okD F scTimes (by rintro _ _ _ _ ⟨t, b, o, u, rfl, _⟩; rfl) fun cdv A outer s0 H0 E C z as s₁ d s h => ?_
  obtain ⟨t, b, o, u, rfl, ht, hb, ho, hu, h0, rfl, rfl⟩ := h
  exact sr_ret (ev_call G C.hr (ea_cons (ev_mul (ht.cmul ho) (ev_fst (ev_var 0)) (ev_fst (ev_var 1))) (ea_cons (ev_mul (hb.cmul hu) (ev_snd (ev_var 0)) (ev_snd (ev_var 1))) ea_nil)) ⟨_, _, rfl, h0, (hb.mul hu).mono (by decide), rfl, rfl⟩)
def rLessL : Rel := fun as s d s' => ∃ t b o u, as = [.val (prD t b), .val (prD o u)] ∧ Bd 3000 t ∧ Bd 3000 b ∧ Bd 2000 o ∧ Bd 3000 u ∧ b * u ≠ 0 ∧ d = frD (t * u + (0 - o) * b) (b * u) ∧ s' = s
abbrev sLessL : Stmt := top 44
theorem scLessL : FnScope ["_law_one", "_law_other"] ["_law_one", "_law_other"] (defScope sLessL) := ⟨rfl, rfl, rfl, by decide +kernel, rfl, by decide +kernel, by decide +kernel⟩
theorem bd_sub0 {o : Int} {n m : Nat} (h : Bd n o) (k : n ≤ m) : Bd m (0 - o) := by
  have := h.neg.mono k
  rwa [Int.zero_sub]
theorem ok_lessL (F : Fun K "_law_less" "_law_less" sLessL f fd) (G : Dn P w K mg base 3 "_law_plus" rPlus) : FnOk P w K mg base CX0 4 f fd ["_law_one", "_law_other"] (spD rLessL) := by
  refine okD F scLessL (by rintro _ _ _ _ ⟨t, b, o, u, rfl, _⟩; rfl) fun cdv A outer s0 H0 E C z as s₁ d s h => ?_
  obtain ⟨t, b, o, u, rfl, ht, hb, ho, hu, h0, rfl, rfl⟩ := h
  exact sr_ret (ev_call G C.hr (ea_cons (ev_var 0) (ea_cons (ev_tup (ed_cons (ev_sub ev_int (ev_fst (ev_var 1))) (ed_cons (ev_snd (ev_var 1)) ed_nil))) ea_nil)) ⟨t, b, 0 - o, u, rfl, ht, hb, bd_sub0 ho (by decide), hu, h0, rfl, rfl⟩)
def rOver : Rel := fun as s d s' => ∃ t b o u, as = [.val (prD t b), .val (prD o u)] ∧ Bd 3000 t ∧ Bd 3000 b ∧ Bd 3000 o ∧ Bd 3000 u ∧ b * o ≠ 0 ∧ d = frD (t * u) (b * o) ∧ s' = s
abbrev sOver : Stmt := top 45
theorem scOver : FnScope ["_law_one", "_law_other"] ["_law_one", "_law_other"] (defScope sOver) := ⟨rfl, rfl, rfl, by decide +kernel, rfl, by decide +kernel, by decide +kernel⟩
theorem ok_over (F : Fun K "_law_over" "_law_over" sOver f fd) (G : Dn P w K mg base 2 "_law_fraction" rQuot) : FnOk P w K mg base CX0 3 f fd ["_law_one", "_law_other"] (spD rOver) := by
  refine okD F scOver (by rintro _ _ _ _ ⟨t, b, o, u, rfl, _⟩; rfl) fun cdv A outer s0 H0 E C z as s₁ d s h => ?_
  obtain ⟨t, b, o, u, rfl, ht, hb, ho, hu, h0, rfl, rfl⟩ := h
  exact sr_ret (ev_call G C.hr (ea_cons (ev_mul (ht.cmul hu) (ev_fst (ev_var 0)) (ev_snd (ev_var 1))) (ea_cons (ev_mul (hb.cmul ho) (ev_snd (ev_var 0)) (ev_fst (ev_var 1))) ea_nil)) ⟨_, _, rfl, h0, (hb.mul ho).mono (by decide), rfl, rfl⟩)
abbrev sPow : Stmt := top 46
theorem scPow : FnScope ["_law_number", "_law_exponent", "_law_found", "_law_turn"] ["_law_number", "_law_exponent"] (defScope sPow) := ⟨rfl, rfl, rfl, by decide +kernel, rfl, by decide +kernel, by decide +kernel⟩
theorem ok_pow (F : Fun K "_law_power" "_law_power" sPow f fd) (T : Top mg) : FnOk P w K mg base CX0 1 f fd ["_law_number", "_law_exponent"] (spD rRaised) := by
  refine okD F scPow (by rintro _ _ _ _ ⟨x, m, rfl, _⟩; rfl) fun cdv A outer s0 H0 E C z as s₁ d s h => ?_
  obtain ⟨x, m, rfl, hm, hx, rfl, rfl⟩ := h
  refine sr_asg 2 C.nd ev_int ?_
  refine sr_for1 3 C.hp C.calm C.nd T.range (ed_cons (ev_var 1) ed_nil) (by omega) (by omega) (fun i => [.val (.int x), .val (.int (m : Int)), .val (.int (x ^ i)), .un]) (fun _ => s) (by show Le _ [.val (.int x), .val (.int (m : Int)), .val (.int (x ^ 0)), .un]; rw [Int.pow_zero]; exact .same (.same (.same (.un .nil)))) rfl (fun i hi => ?_) ?_
  · refine sr_asg 2 C.nd (ev_mul ((bd_pow8 hx (a := i) (by omega)).cmul hx) (ev_var 2) (ev_var 0)) ?_
    rw [← Int.pow_succ]
    exact sr_le sr_nil (.same (.same (.same (.un .nil))))
  · exact sr_ret (ev_var 2)
abbrev sLFact : Stmt := top 47
theorem scLFact : FnScope ["_law_number", "_law_found", "_law_step"] ["_law_number"] (defScope sLFact) := ⟨rfl, rfl, rfl, by decide +kernel, rfl, by decide +kernel, by decide +kernel⟩
theorem ok_lfact (F : Fun K "_law_factorial" "_law_factorial" sLFact f fd) (TT : Top mg) : FnOk P w K mg base CX0 1 f fd ["_law_number"] (spD rFact) := by
  refine okD F scLFact (by rintro _ _ _ _ ⟨n, rfl, _⟩; rfl) fun cdv A outer s0 H0 E C z as s₁ d s h => ?_
  obtain ⟨n, rfl, hn, rfl, rfl⟩ := h
  refine sr_asg 1 C.nd ev_int ?_
  refine sr_for2 2 C.hp C.calm C.nd TT.range (ed_cons ev_int (ed_cons (ev_add (ev_var 0) ev_int) ed_nil)) (by decide) (by omega) (by omega) (fun i => [.val (.int (n : Int)), .val (.int (fct (i + 1))), .un]) (fun _ => s) (.same (.same (.un .nil))) rfl (fun i hi => ?_) ?_
  · have hB : CMulW (fct (i + 1)) (2 + (i : Int)) := by
      have h1 := fct_bd (i + 1) (by omega)
      have h2 : Bd 20 (2 + (i : Int)) := by
        unfold Bd
        have : (2 + (i : Int)).natAbs = i + 2 := by omega
        rw [this]
        show i + 2 < 1048576
        omega
      exact (h1.mono (show 10 * (i + 1) + 1 ≤ 20000 by omega)).cmul h2
    refine sr_asg 1 C.nd (ev_mul hB (ev_var 1) (ev_var 2)) ?_
    rw [fct_step]
    exact sr_le sr_nil (.same (.same (.un .nil)))
  · show SR _ _ _ [.val (.int (n : Int)), .val (.int (fct (((n : Int) + 1 - 2).toNat + 1))), .un] _ _
    rw [fct_last]
    exact sr_ret (ev_var 1)
end
end K1


set_option Elab.async false
set_option linter.all false
set_option maxRecDepth 100000
set_option exponentiation.threshold 3000
namespace K1
open PySem PySem.Spec PyProof.Rows L2 DL
/-! ### fractions in lowest terms -/
theorem fdiv_mul {t g : Int} (h : g ≠ 0) : (t * g).fdiv g = t := by
  have := Int.mul_fdiv_cancel t h
  exact this
theorem frD_uniq {t b c : Int} (hc : c ≠ 0) (hb : 1 ≤ b) (h : Nat.gcd t.natAbs b.natAbs = 1) : frT (t * c) (b * c) = t ∧ frB (t * c) (b * c) = b := by
  have e : gq (t * c) (b * c) = c := by
    unfold gq
    rw [Int.natAbs_mul, Int.natAbs_mul, Nat.gcd_mul_right, h, Nat.one_mul]
    by_cases h0 : c < 0
    · rw [if_pos (Int.mul_neg_of_pos_of_neg (by omega) h0)]
      omega
    · have : 0 ≤ b * c := Int.mul_nonneg (by omega) (by omega)
      rw [if_neg (by omega)]
      omega
  unfold frT frB
  rw [e, fdiv_mul hc, fdiv_mul hc]
  exact ⟨rfl, rfl⟩
/-- what a quotient in lowest terms is -/
structure FrS (t b q r g : Int) : Prop where
  g0 : g ≠ 0
  t : t = q * g
  b : b = r * g
  r1 : 1 ≤ r
  cop : Nat.gcd q.natAbs r.natAbs = 1
theorem fr_spec {t b : Int} (hb : b ≠ 0) : FrS t b (frT t b) (frB t b) (gq t b) := by
  have hg := gq_ne (t := t) hb
  have hn : (gq t b).natAbs = Nat.gcd t.natAbs b.natAbs := by
    unfold gq
    split <;> omega
  have d1 : gq t b ∣ t := Int.natAbs_dvd_natAbs.mp (by rw [hn]; exact Nat.gcd_dvd_left _ _)
  have d2 : gq t b ∣ b := Int.natAbs_dvd_natAbs.mp (by rw [hn]; exact Nat.gcd_dvd_right _ _)
  obtain ⟨q, hq⟩ := d1
  obtain ⟨r, hr⟩ := d2
  rw [Int.mul_comm] at hq hr
  have e1 : frT t b = q := by
    have := fdiv_mul (t := q) hg
    rwa [← hq] at this
  have e2 : frB t b = r := by
    have := fdiv_mul (t := r) hg
    rwa [← hr] at this
  rw [e1, e2]
  have hG : 0 < Nat.gcd t.natAbs b.natAbs := Nat.gcd_pos_of_pos_right _ (by omega)
  refine ⟨hg, hq, hr, ?_, ?_⟩
  · by_cases h0 : b < 0
    · have eg : gq t b = -((Nat.gcd t.natAbs b.natAbs : Nat) : Int) := if_pos h0
      have : gq t b < 0 := by omega
      rcases Int.lt_trichotomy r 0 with h | h | h
      · have := Int.mul_pos_of_neg_of_neg h this
        omega
      · subst h
        rw [Int.zero_mul] at hr
        omega
      · omega
    · have eg : gq t b = ((Nat.gcd t.natAbs b.natAbs : Nat) : Int) := if_neg h0
      have : 0 < gq t b := by omega
      rcases Int.lt_trichotomy r 0 with h | h | h
      · have := Int.mul_neg_of_neg_of_pos h this
        omega
      · subst h
        rw [Int.zero_mul] at hr
        omega
      · omega
  · have k1 : t.natAbs = q.natAbs * Nat.gcd t.natAbs b.natAbs := by
      rw [← hn, ← Int.natAbs_mul, ← hq]
    have k2 : b.natAbs = r.natAbs * Nat.gcd t.natAbs b.natAbs := by
      rw [← hn, ← Int.natAbs_mul, ← hr]
    have e := Nat.gcd_mul_right q.natAbs (Nat.gcd t.natAbs b.natAbs) r.natAbs
    rw [← k1, ← k2] at e
    have : (Nat.gcd q.natAbs r.natAbs) * Nat.gcd t.natAbs b.natAbs = 1 * Nat.gcd t.natAbs b.natAbs := by omega
    exact Nat.eq_of_mul_eq_mul_right hG this
theorem FrS.nm {t b : Int} (hb : b ≠ 0) : Nm (frD t b) (frT t b) (frB t b) := .fr (fr_spec hb).r1 (fr_spec hb).cop
theorem abs_le {q g : Int} (hg : g ≠ 0) : q.natAbs ≤ (q * g).natAbs := by
  rw [Int.natAbs_mul]
  exact Nat.le_mul_of_pos_right _ (by omega)
theorem frT_bd {t b : Int} {n : Nat} (hb : b ≠ 0) (h : Bd n t) : Bd n (frT t b) := by
  have s := fr_spec (t := t) hb
  have := abs_le (q := frT t b) s.g0
  rw [← s.t] at this
  exact Nat.lt_of_le_of_lt this h
theorem frB_bd {t b : Int} {n : Nat} (hb : b ≠ 0) (h : Bd n b) : Bd n (frB t b) := by
  have s := fr_spec (t := t) hb
  have := abs_le (q := frB t b) s.g0
  rw [← s.b] at this
  exact Nat.lt_of_le_of_lt this h
theorem frD_neg {t b : Int} (hb : b ≠ 0) : frT (-t) b = -frT t b ∧ frB (-t) b = frB t b := by
  have s := fr_spec (t := t) hb
  have := frD_uniq (t := -frT t b) (b := frB t b) (c := gq t b) s.g0 s.r1 (by rw [Int.natAbs_neg]; exact s.cop)
  rwa [Int.neg_mul, ← s.t, ← s.b] at this
theorem frT_zero {b : Int} : frT 0 b = 0 := by
  unfold frT
  exact Int.zero_fdiv _
theorem sgn_neg (i : Int) : sgn (-i) = -sgn i := by
  unfold sgn
  by_cases h1 : i < 0
  · rw [if_neg (by omega), if_pos (by omega), if_pos h1]
    rfl
  · by_cases h2 : 0 < i
    · rw [if_pos (by omega), if_neg h1, if_pos h2]
    · rw [if_neg (by omega), if_neg (by omega), if_neg h1, if_neg h2]
      rfl
/-! ### binomials -/
def ch : Nat → Nat → Nat
  | _, 0 => 1
  | 0, _ + 1 => 0
  | n + 1, k + 1 => ch n k + ch n (k + 1)
abbrev fl (n : Int) (k : Nat) : Int := Builtin.Math.fallingProduct n k
theorem fl_succ (n : Int) (k : Nat) : fl n (k + 1) = fl n k * (n - (k : Int)) := by
  show (List.range (k + 1)).foldl _ _ = (List.range k).foldl _ _ * _
  rw [List.range_succ, List.foldl_append]
  rfl
theorem fl_first (n : Int) : ∀ k : Nat, fl (n + 1) (k + 1) = (n + 1) * fl n k
  | 0 => by
    rw [fl_succ]
    show (1 : Int) * (n + 1 - ((0 : Nat) : Int)) = (n + 1) * 1
    omega
  | k + 1 => by
    rw [fl_succ, fl_first n k, fl_succ n k, Int.mul_assoc]
    congr 2
    omega
theorem ch_fl : ∀ n k : Nat, (ch n k : Int) * fct k = fl n k
  | n, 0 => by
    have : ch n 0 = 1 := by cases n <;> rfl
    rw [this]
    rfl
  | 0, k + 1 => by
    show (0 : Int) * _ = _
    rw [Int.zero_mul]
    have : ∀ k : Nat, fl 0 (k + 1) = 0 := by
      intro k
      induction k with
      | zero => rfl
      | succ k ih => rw [fl_succ, ih, Int.zero_mul]
    exact (this k).symm
  | n + 1, k + 1 => by
    have h1 := ch_fl n k
    have h2 := ch_fl n (k + 1)
    have h3 : fl ((n + 1 : Nat) : Int) (k + 1) = ((n : Int) + 1) * fl n k := by
      rw [← fl_first]
      rfl
    rw [h3]
    show ((ch n k + ch n (k + 1) : Nat) : Int) * fct (k + 1) = _
    rw [Int.natCast_add, Int.add_mul, h2, fl_succ]
    show (ch n k : Int) * (fct k * ((k : Int) + 1)) + _ = _
    rw [← Int.mul_assoc, h1, ← Int.mul_add, Int.mul_comm]
    congr 1
    omega
theorem fl_self : ∀ k : Nat, fl k k = fct k
  | 0 => rfl
  | k + 1 => by
    have h : fl ((k + 1 : Nat) : Int) (k + 1) = ((k : Int) + 1) * fl k k := by
      rw [← fl_first]
      rfl
    rw [h, fl_self k, Int.mul_comm]
    rfl
theorem fl_rest : ∀ (k m : Nat), fl ((k + m : Nat) : Int) k * fct m = fct (k + m)
  | 0, m => by
    rw [Nat.zero_add]
    show (1 : Int) * _ = _
    rw [Int.one_mul]
  | k + 1, m => by
    have h : fl ((k + 1 + m : Nat) : Int) (k + 1) = (((k + m : Nat) : Int) + 1) * fl ((k + m : Nat) : Int) k := by
      rw [← fl_first]
      congr 1
      omega
    rw [h, Int.mul_assoc, fl_rest k m, Int.mul_comm, show k + 1 + m = k + m + 1 by omega]
    rfl
theorem ch_sym (k m : Nat) : ch (k + m) k = ch (k + m) m := by
  have h1 := ch_fl (k + m) k
  have h2 := ch_fl (k + m) m
  have h3 := fl_rest k m
  have h4 := fl_rest m k
  rw [Nat.add_comm m k] at h4
  rw [← h1] at h3
  rw [← h2] at h4
  have e : (ch (k + m) k : Int) * (fct k * fct m) = (ch (k + m) m : Int) * (fct k * fct m) := by
    rw [← Int.mul_assoc, h3, ← h4, Int.mul_assoc, Int.mul_comm (fct m)]
  have hp : fct k * fct m ≠ 0 := by
    have := Int.mul_pos (fct_pos k) (fct_pos m)
    omega
  have := Int.eq_of_mul_eq_mul_right hp e
  omega
theorem ch_le : ∀ n k : Nat, ch n k ≤ 2 ^ n
  | n, 0 => by
    have : ch n 0 = 1 := by cases n <;> rfl
    rw [this]
    exact Nat.one_le_two_pow
  | 0, k + 1 => Nat.zero_le _
  | n + 1, k + 1 => by
    have h1 := ch_le n k
    have h2 := ch_le n (k + 1)
    show ch n k + ch n (k + 1) ≤ _
    rw [Nat.pow_succ]
    omega
theorem ch_bd {n k : Nat} (h : n ≤ 1000) : Bd 1001 (ch n k : Int) := by
  unfold Bd
  have h1 := ch_le n k
  have h2 : (2 : Nat) ^ n ≤ 2 ^ 1000 := Nat.pow_le_pow_right (by decide) h
  have h3 : (2 : Nat) ^ 1000 < 2 ^ 1001 := Nat.pow_lt_pow_right (by decide) (by decide)
  show ch n k < _
  omega
theorem ch_step (n i : Nat) : (ch n i : Int) * ((n : Int) - (i : Int)) = (ch n (i + 1) : Int) * ((i : Int) + 1) := by
  have h1 := ch_fl n i
  have h2 := ch_fl n (i + 1)
  rw [fl_succ, ← h1] at h2
  have h3 : (ch n (i + 1) : Int) * fct (i + 1) = (ch n (i + 1) : Int) * ((i : Int) + 1) * fct i := by
    show (ch n (i + 1) : Int) * (fct i * ((i : Int) + 1)) = _
    rw [Int.mul_comm (fct i), Int.mul_assoc]
  rw [h3] at h2
  have hp : fct i ≠ 0 := by
    have := fct_pos i
    omega
  refine Int.eq_of_mul_eq_mul_right hp ?_
  rw [h2, Int.mul_assoc, Int.mul_assoc, Int.mul_comm (fct i)]
theorem comb_ch {n k : Nat} (h : k ≤ n) : combV n k = ch n k := by
  unfold combV
  rw [if_neg (by omega)]
  obtain ⟨m, rfl⟩ : ∃ m, n = k + m := ⟨n - k, by omega⟩
  have key : ∀ j : Nat, Builtin.Math.fallingProduct ((k + m : Nat) : Int) j / Builtin.Math.fallingProduct (j : Int) j = ch (k + m) j := fun j => by
    show fl _ j / fl _ j = _
    rw [fl_self, ← ch_fl, Int.mul_ediv_cancel _ (by have := fct_pos j; omega)]
  by_cases hk : k ≤ m
  · have e : min (k : Int) (((k + m : Nat) : Int) - k) = k := by omega
    rw [e, Int.toNat_natCast, key]
  · have e : min (k : Int) (((k + m : Nat) : Int) - k) = m := by omega
    rw [e, Int.toNat_natCast, key, ch_sym]
theorem comb_log {n k : Nat} (h : n ≤ 1000) : (combV n k).natAbs.log2 < bitsLine := by
  by_cases hk : k ≤ n
  · rw [comb_ch hk]
    exact Nat.lt_of_lt_of_le (PySem.Flt.log2_lt_of (by decide) (ch_bd h)) (by decide)
  · unfold combV
    rw [if_pos (by omega)]
    decide
section
variable {P : Program} {w : World} {K : PySem.W.Frag} {mg : Str → Option Value} {base : Heap} {f : Addr} {fd : FuncData}
abbrev sLBin : Stmt := top 48
theorem scLBin : FnScope ["_law_top", "_law_low", "_law_found", "_law_step"] ["_law_top", "_law_low"] (defScope sLBin) := ⟨rfl, rfl, rfl, by decide +kernel, rfl, by decide +kernel, by decide +kernel⟩
def rLBin : Rel := fun as s d s' => ∃ n k : Nat, as = [.val (.int (n : Int)), .val (.int (k : Int))] ∧ n ≤ 1000 ∧ k ≤ n ∧ d = .int (ch n k) ∧ s' = s
theorem ok_lbin (F : Fun K "_law_binomial" "_law_binomial" sLBin f fd) (T : Top mg) : FnOk P w K mg base CX0 1 f fd ["_law_top", "_law_low"] (spD rLBin) := by
  refine okD F scLBin (by rintro _ _ _ _ ⟨n, k, rfl, _⟩; rfl) fun cdv A outer s0 H0 E C z as s₁ d s h => ?_
  obtain ⟨n, k, rfl, hn, hk, rfl, rfl⟩ := h
  refine sr_asg 2 C.nd ev_int ?_
  refine sr_for1 3 C.hp C.calm C.nd T.range (ed_cons (ev_var 1) ed_nil) (by omega) (by omega) (fun i => [.val (.int (n : Int)), .val (.int (k : Int)), .val (.int (ch n i)), .un]) (fun _ => s)
    (by show Le _ [.val (.int (n : Int)), .val (.int (k : Int)), .val (.int (ch n 0)), .un]; rw [show ch n 0 = 1 by cases n <;> rfl]; exact .same (.same (.same (.un .nil)))) rfl (fun i hi => ?_) ?_
  · have hs : Bd 20 ((n : Int) - (i : Int)) := by
      unfold Bd
      show _ < 1048576
      omega
    have hd : CDivZ ((ch n i : Int) * ((n : Int) - (i : Int))) ((i : Int) + 1) := by
      have : Bd 20 ((i : Int) + 1) := by
        unfold Bd
        show _ < 1048576
        omega
      exact this.cdiv (by omega)
    refine sr_asg 2 C.nd (ev_div hd (ev_mul ((ch_bd hn).cmul hs) (ev_var 2) (ev_sub (ev_var 0) (ev_var 3))) (ev_add (ev_var 3) ev_int)) ?_
    rw [ch_step, fdiv_mul (by omega)]
    exact sr_le sr_nil (.same (.same (.same (.un .nil))))
  · exact sr_ret (ev_var 2)
/-! ### drawn numbers -/
def pickI (s : S) (l : List Int) : Int := l.getD (rollV s l.length).toNat 0
theorem pickI_mem (s : S) {l : List Int} (h : 0 < l.length) : pickI s l ∈ l := by
  have hb := roll_bd s (n := l.length) (by omega)
  unfold pickI
  rw [List.getD_eq_getElem?_getD, List.getElem?_eq_getElem (show (rollV s l.length).toNat < l.length by omega)]
  exact List.getElem_mem _
theorem pick_int (s : S) {l : List Int} (h : 0 < l.length) : pickV s (l.map .int) = .int (pickI s l) := by
  have hb := roll_bd s (n := l.length) (by omega)
  unfold pickV pickI
  rw [List.length_map, List.getD_eq_getElem?_getD, List.getD_eq_getElem?_getD, List.getElem?_map, List.getElem?_eq_getElem (show (rollV s l.length).toNat < l.length by omega)]
  rfl
def mostL : List Int := [3, 12, 10 ^ (9 : Int).toNat, 10 ^ (40 : Int).toNat]
def lowL : List Int := [1, 4, 12, 1000]
def dMost (s : S) : Int := pickI s mostL
def dS1 (s : S) : S := rollS s 4
def dTop (s : S) : Int := rollV (dS1 s) (2 * dMost s + 1) - dMost s
def dS2 (s : S) : S := rollS (dS1 s) (2 * dMost s + 1)
def dWay (s : S) : Int := rollV (dS2 s) 6
def dS3 (s : S) : S := rollS (dS2 s) 6
def drawnV (s : S) : PyData :=
  if dWay s < 2 then .int (dTop s) else if dWay s = 2 then frD (dTop s * 10 ^ (30 : Int).toNat + 7) (1 + rollV (dS3 s) (10 ^ (50 : Int).toNat)) else frD (dTop s) (1 + rollV (rollS (dS3 s) 4) (pickI (dS3 s) lowL))
def drawnS (s : S) : S := if dWay s < 2 then dS3 s else if dWay s = 2 then rollS (dS3 s) (10 ^ (50 : Int).toNat) else rollS (rollS (dS3 s) 4) (pickI (dS3 s) lowL)
theorem most_bd (s : S) : 3 ≤ dMost s ∧ dMost s ≤ 10 ^ 40 := by
  have h := pickI_mem s (l := mostL) (by decide)
  unfold dMost
  simp only [mostL, List.mem_cons, List.not_mem_nil, or_false] at h
  rcases h with e | e | e | e <;> rw [show pickI s mostL = _ from e] <;> decide
theorem low_bd (s : S) : 1 ≤ pickI s lowL ∧ pickI s lowL ≤ 1000 := by
  have h := pickI_mem s (l := lowL) (by decide)
  simp only [lowL, List.mem_cons, List.not_mem_nil, or_false] at h
  rcases h with e | e | e | e <;> rw [show pickI s lowL = _ from e] <;> decide
theorem top_bd (s : S) : -(10 ^ 40) ≤ dTop s ∧ dTop s ≤ 10 ^ 40 := by
  have h := most_bd s
  have h2 := roll_bd (dS1 s) (n := 2 * dMost s + 1) (by omega)
  unfold dTop
  omega
theorem drawn_nm (s : S) : ∃ t b, Nm (drawnV s) t b ∧ Bd 240 t ∧ Bd 240 b := by
  have h := top_bd s
  unfold drawnV
  split
  · exact ⟨dTop s, 1, .int (by omega) (by omega), by unfold Bd; omega, by unfold Bd; decide⟩
  · split
    · have h2 := roll_bd (dS3 s) (n := 10 ^ (50 : Int).toNat) (by decide)
      have e : (10 : Int) ^ (50 : Int).toNat = 10 ^ 50 := rfl
      have e3 : (10 : Int) ^ (30 : Int).toNat = 10 ^ 30 := rfl
      rw [e] at h2 ⊢
      rw [e3]
      have hb : 1 + rollV (dS3 s) (10 ^ 50) ≠ 0 := by omega
      exact ⟨_, _, FrS.nm hb, frT_bd hb (by unfold Bd; omega), frB_bd hb (by unfold Bd; omega)⟩
    · have h3 := low_bd (dS3 s)
      have h2 := roll_bd (rollS (dS3 s) 4) (n := pickI (dS3 s) lowL) (by omega)
      have hb : 1 + rollV (rollS (dS3 s) 4) (pickI (dS3 s) lowL) ≠ 0 := by omega
      exact ⟨_, _, FrS.nm hb, frT_bd hb (by unfold Bd; omega), frB_bd hb (by unfold Bd; omega)⟩
abbrev sDrawn : Stmt := top 49
theorem scDrawn : FnScope ["_law_dice_here", "_law_most", "_law_top", "_law_way"] ["_law_dice_here"] (defScope sDrawn) := ⟨rfl, rfl, rfl, by decide +kernel, rfl, by decide +kernel, by decide +kernel⟩
def rDrawn : Rel := fun as s d s' => as = [.dice] ∧ d = drawnV s ∧ s' = drawnS s
theorem cpow10 {j : Int} (h0 : 0 ≤ j) (h : j ≤ 100) : CPow 10 j := ⟨h0, by omega, by decide⟩
theorem ok_drawn (F : Fun K "_law_nm_drawn" "_law_nm_drawn" sDrawn f fd) (G1 : Dn P w K mg base 2 "_law_pick" rPick) (G2 : Dn P w K mg base 1 "_law_roll" rRoll) (G3 : Dn P w K mg base 2 "_law_fraction" rQuot) : FnOk P w K mg base CX0 3 f fd ["_law_dice_here"] (spD rDrawn) := by
  refine okD F scDrawn (by rintro _ _ _ _ ⟨rfl, _⟩; rfl) fun cdv A outer s0 H0 E C z as s d s' h => ?_
  obtain ⟨rfl, rfl, rfl⟩ := h
  have hm := most_bd s
  have ht := top_bd s
  have h2 := roll_bd (dS3 s) (n := 10 ^ (50 : Int).toNat) (by decide)
  have h3 := low_bd (dS3 s)
  have h4 := roll_bd (rollS (dS3 s) 4) (n := pickI (dS3 s) lowL) (by omega)
  refine sr_asg (d := .int (dMost s)) (s1 := dS1 s) 1 C.nd (ev_call G1 C.hr (ea_dice 0 (ea_cons (ev_lst (ed_cons ev_int (ed_cons ev_int (ed_cons (ev_pow (cpow10 (by decide) (by decide)) ev_int ev_int) (ed_cons (ev_pow (cpow10 (by decide) (by decide)) ev_int ev_int) ed_nil))))) ea_nil)) ⟨mostL.map .int, rfl, by decide, by decide, (pick_int s (by decide)).symm, rfl⟩) ?_
  refine sr_asg (d := .int (dTop s)) (s1 := dS2 s) 2 C.nd (ev_sub (ev_call G2 (C.hr.mono (by decide)) (ea_dice 0 (ea_cons (ev_add (ev_mulL (by decide) ev_int (ev_var 1)) ev_int) ea_nil)) ⟨2 * dMost s + 1, rfl, by omega, Bd.mono (n := 200) (by unfold Bd; omega) (by decide), rfl, rfl⟩) (ev_var 1)) ?_
  refine sr_asg (d := .int (dWay s)) (s1 := dS3 s) 3 C.nd (ev_call G2 (C.hr.mono (by decide)) (ea_dice 0 (ea_cons ev_int ea_nil)) ⟨6, rfl, by decide, Bd.mono (n := 200) (by unfold Bd; decide) (by decide), rfl, rfl⟩) ?_
  unfold drawnV drawnS
  by_cases w1 : dWay s < 2
  · rw [if_pos w1, if_pos w1]
    exact sr_ifT (ET.is (et_lt (ev_var 3) ev_int) (decide_eq_true w1)) (sr_ret (ev_var 2))
  · rw [if_neg w1, if_neg w1]
    refine sr_ifF (ET.is (et_lt (ev_var 3) ev_int) (decide_eq_false w1)) ?_
    by_cases w2 : dWay s = 2
    · rw [if_pos w2, if_pos w2]
      refine sr_ifT (ET.is (et_eqI C.hu (ev_var 3) ev_int) (decide_eq_true w2)) (sr_ret ?_)
      have bt : Bd 200 (dTop s) := by unfold Bd; omega
      have b3 : Bd 200 ((10 : Int) ^ (30 : Int).toNat) := by unfold Bd; decide
      have h5 : rollV (dS3 s) (10 ^ (50 : Int).toNat) < 10 ^ 50 := h2.2
      exact ev_call G3 C.hr (ea_cons (ev_add (ev_mul (bt.cmul b3) (ev_var 2) (ev_pow (cpow10 (by decide) (by decide)) ev_int ev_int)) ev_int) (ea_cons (ev_add ev_int (ev_call G2 (C.hr.mono (by decide)) (ea_dice 0 (ea_cons (ev_pow (cpow10 (by decide) (by decide)) ev_int ev_int) ea_nil)) ⟨_, rfl, by decide, Bd.mono (n := 200) (by unfold Bd; decide) (by decide), rfl, rfl⟩)) ea_nil))
        ⟨_, _, rfl, by omega, Bd.mono (n := 200) (by unfold Bd; omega) (by decide), rfl, rfl⟩
    · rw [if_neg w2, if_neg w2]
      refine sr_ifF (ET.is (et_eqI C.hu (ev_var 3) ev_int) (decide_eq_false w2)) (sr_ret ?_)
      exact ev_call G3 C.hr (ea_cons (ev_var 2) (ea_cons (ev_add ev_int (ev_call G2 (C.hr.mono (by decide)) (ea_dice 0 (ea_cons (EV.st (s1 := rollS (dS3 s) 4) (ev_call G1 C.hr (ea_dice 0 (ea_cons (ev_lst (ed_cons ev_int (ed_cons ev_int (ed_cons ev_int (ed_cons ev_int ed_nil))))) ea_nil)) ⟨lowL.map .int, rfl, by decide, by decide, (pick_int (dS3 s) (by decide)).symm, rfl⟩) rfl) ea_nil)) ⟨pickI (dS3 s) lowL, rfl, by omega, Bd.mono (n := 200) (by unfold Bd; omega) (by decide), rfl, rfl⟩)) ea_nil))
        ⟨dTop s, 1 + rollV (rollS (dS3 s) 4) (pickI (dS3 s) lowL), rfl, by omega, Bd.mono (n := 200) (by unfold Bd; omega) (by decide), rfl, rfl⟩
abbrev sLPair : Stmt := top 50
theorem scLPair : FnScope ["_law_number"] ["_law_number"] (defScope sLPair) := ⟨rfl, rfl, rfl, by decide +kernel, rfl, by decide +kernel, by decide +kernel⟩
theorem ok_lpair (F : Fun K "_law_nm_pair" "_law_nm_pair" sLPair f fd) (T : Top mg) : FnOk P w K mg base CX0 1 f fd ["_law_number"] (spD rPair) := by
  refine okD F scLPair (by rintro _ _ _ _ ⟨v, t, b, rfl, _⟩; rfl) fun cdv A outer s0 H0 E C z as s₁ d s h => ?_
  obtain ⟨v, t, b, rfl, hv, rfl, rfl⟩ := h
  refine sr_ret ?_
  cases hv with
  | int h1 h2 => exact ev_ifT (et_val (ev_isi T.isi T.int (ev_var 0) (k_int (.int t)))) (ev_tup (ed_cons (ev_var 0) (ed_cons ev_int ed_nil)))
  | fr h1 h2 => exact ev_ifF (et_val (ev_isi T.isi T.int (ev_var 0) (k_int (.tuple [.int t, .int b])))) (ev_var 0)
abbrev sLPow : Stmt := top 51
theorem scLPow : FnScope ["_law_pair", "_law_exponent"] ["_law_pair", "_law_exponent"] (defScope sLPow) := ⟨rfl, rfl, rfl, by decide +kernel, rfl, by decide +kernel, by decide +kernel⟩
def rLPow : Rel := fun as s d s' => ∃ (t b : Int) (m : Nat), as = [.val (prD t b), .val (.int (m : Int))] ∧ m ≤ 8 ∧ Bd 3000 t ∧ Bd 3000 b ∧ d = prD (t ^ m) (b ^ m) ∧ s' = s
theorem ok_lpow (F : Fun K "_law_nm_power" "_law_nm_power" sLPow f fd) (G : Dn P w K mg base 1 "_law_power" rRaised) : FnOk P w K mg base CX0 2 f fd ["_law_pair", "_law_exponent"] (spD rLPow) := by
  refine okD F scLPow (by rintro _ _ _ _ ⟨t, b, m, rfl, _⟩; rfl) fun cdv A outer s0 H0 E C z as s₁ d s h => ?_
  obtain ⟨t, b, m, rfl, hm, ht, hb, rfl, rfl⟩ := h
  exact sr_ret (ev_tup (ed_cons (ev_call G C.hr (ea_cons (ev_fst (ev_var 0)) (ea_cons (ev_var 1) ea_nil)) ⟨t, m, rfl, hm, ht, rfl, rfl⟩) (ed_cons (ev_call G C.hr (ea_cons (ev_snd (ev_var 0)) (ea_cons (ev_var 1) ea_nil)) ⟨b, m, rfl, hm, hb, rfl, rfl⟩) ed_nil)))
abbrev sLText : Stmt := top 52
theorem scLText : FnScope ["_law_pair"] ["_law_pair"] (defScope sLText) := ⟨rfl, rfl, rfl, by decide +kernel, rfl, by decide +kernel, by decide +kernel⟩
def rLText : Rel := fun as s d s' => ∃ (t b : Int), as = [.val (prD t b)] ∧ Bd 1500 t ∧ Bd 1500 b ∧ d = .str (ntx t b) ∧ s' = s
theorem ok_ltext (F : Fun K "_law_text" "_law_text" sLText f fd) (T : Top mg) : FnOk P w K mg base CX0 1 f fd ["_law_pair"] (spD rLText) := by
  refine okD F scLText (by rintro _ _ _ _ ⟨t, b, rfl, _⟩; rfl) fun cdv A outer s0 H0 E C z as s₁ d s h => ?_
  obtain ⟨t, b, rfl, ht, hb, rfl, rfl⟩ := h
  have h1 := itx_len (k := 500) ht (by decide)
  have h2 := itx_len (k := 500) hb (by decide)
  have e : slash.length = 1 := by decide
  have hL : (100000 : Nat) ≤ sizeLine := by decide
  unfold ntx
  refine sr_ret ?_
  by_cases h0 : b = 1
  · rw [if_pos h0]
    exact ev_ifT (ET.is (et_eqI C.hu (ev_snd (ev_var 0)) ev_int) (decide_eq_true h0)) (ev_bty call_str_int (rb_str (bd_log ht)) T.str (ed_cons (ev_fst (ev_var 0)) ed_nil))
  · rw [if_neg h0]
    exact ev_ifF (ET.is (et_eqI C.hu (ev_snd (ev_var 0)) ev_int) (decide_eq_false h0)) (ev_addS (by rw [Str.length_append]; omega) (ev_addS (x := itx t) (y := slash) (by omega) (ev_bty call_str_int (rb_str (bd_log ht)) T.str (ed_cons (ev_fst (ev_var 0)) ed_nil)) ev_str) (ev_bty call_str_int (rb_str (bd_log hb)) T.str (ed_cons (ev_snd (ev_var 0)) ed_nil)))
end
end K1


set_option Elab.async false
set_option linter.all false
set_option maxRecDepth 100000
set_option exponentiation.threshold 3000
namespace K1
open PySem PySem.Spec PyProof.Rows L2 DL
theorem eqv_self {d : PyData} (p : Pl d) : PyData.eqv d d = true := SeqAt.eqv_refl d (SeqAt.canLay_of_shaped p.2)
section
variable {X : Cx} {z : Z} {es : List Sl} {s s1 s2 : S} {a b : Expr} {pos : Pos} {d : PyData}
theorem et_neS (hu : X.A.units + 64 < cLine) (p : Pl d) (ha : EV X z a es s d s1) (hb : EV X z b es s1 d s2) : ET X z (.Compare a [.NotEq] [b] pos) es s false s2 := ET.is (et_ne hu p p ha hb) (by rw [eqv_self p]; rfl)
theorem et_eqS (hu : X.A.units + 64 < cLine) (p : Pl d) (ha : EV X z a es s d s1) (hb : EV X z b es s1 d s2) : ET X z (.Compare a [.Eq] [b] pos) es s true s2 := ET.is (et_eq hu p p ha hb) (eqv_self p)
theorem ev_eqS (hu : X.A.units + 64 < cLine) (p : Pl d) (ha : EV X z a es s d s1) (hb : EV X z b es s1 d s2) : EV X z (.Compare a [.Eq] [b] pos) es s (.bool true) s2 := EV.is (ev_eq hu p p ha hb) (by rw [eqv_self p])
end
theorem pl_fr {t b : Int} : Pl (prD t b) := ⟨rfl, rfl⟩
theorem Nm.tup {v : PyData} {t b : Int} (h : Nm v t b) : kitB (tyD v) "tuple" = some (frac v) := by
  cases h with
  | int h1 h2 => exact k_tuple (.int t)
  | fr h1 h2 =>
    have : frac (.tuple [.int t, .int b]) = true := by simp [frac, fr2, h1, h2]
    rw [this]
    exact k_tuple (.tuple [.int t, .int b])
theorem Nm.pair {v : PyData} {t b : Int} (h : Nm v t b) : Nm (prD t b) t b := .fr h.pos h.cop
theorem Nm.frac {v : PyData} {t b : Int} (h : Nm v t b) : K1.frac (prD t b) = true := by
  simp [K1.frac, prD, fr2, h.pos, h.cop]
theorem sub_eq (x y : Int) (b : Int) : x + (0 - y) * b = x - y * b := by rw [Int.zero_sub, Int.neg_mul, ← Int.sub_eq_add_neg]
theorem sign_eq (i : Int) : (if (decide (0 < i)) = true then (1 : Int) else 0) - (if (decide (i < 0)) = true then 1 else 0) = sgn i := by
  unfold sgn
  by_cases h1 : i < 0
  · rw [if_neg (by simp; omega), if_pos (by simpa using h1), if_pos h1]
    rfl
  · by_cases h2 : 0 < i
    · rw [if_pos (by simpa using h2), if_neg (by simpa using h1), if_neg h1, if_pos h2]
      rfl
    · rw [if_neg (by simpa using h2), if_neg (by simpa using h1), if_neg h1, if_neg h2]
      rfl
section
variable {P : Program} {w : World} {K : PySem.W.Frag} {mg : Str → Option Value} {base : Heap} {f : Addr} {fd : FuncData}
abbrev sSums : Stmt := top 53
theorem scSums : FnScope ["_law_dice_here", "_law_one", "_law_other", "_law_first", "_law_last", "_law_told", "_law_due", "_law_sign"] ["_law_dice_here"] (defScope sSums) := ⟨rfl, rfl, rfl, by decide +kernel, rfl, by decide +kernel, by decide +kernel⟩
def rTwo : Rel := fun as s d s' => as = [.dice] ∧ d = .bool true ∧ s' = drawnS (drawnS s)
theorem ok_sums (F : Fun K "_law_sums_right" "_law_sums_right" sSums f fd) (T : Top mg) (Gd : Dn P w K mg base 3 "_law_nm_drawn" rDrawn) (Gp : Dn P w K mg base 1 "_law_nm_pair" rPair)
    (Ga : Dn P w K mg base 6 "added" rAdded) (Gl : Dn P w K mg base 6 "less" rLess) (Gm : Dn P w K mg base 6 "multiplied" rMult) (Gv : Dn P w K mg base 6 "divided" rDivd) (Gc : Dn P w K mg base 7 "compared" rComp)
    (Lp : Dn P w K mg base 3 "_law_plus" rPlus) (Ll : Dn P w K mg base 4 "_law_less" rLessL) (Lt : Dn P w K mg base 3 "_law_times" rTimes) (Lo : Dn P w K mg base 3 "_law_over" rOver)
    (Gn : Dn P w K mg base 3 "is_number" rNumber) (Gf : Dn P w K mg base 2 "is_fraction" rFrac) : FnOk P w K mg base CX0 8 f fd ["_law_dice_here"] (spD rTwo) := by
  refine okD F scSums (by rintro _ _ _ _ ⟨rfl, _⟩; rfl) fun cdv A outer s0 H0 E C z as s d s' h => ?_
  obtain ⟨rfl, rfl, rfl⟩ := h
  obtain ⟨t, b, hv, ht, hb⟩ := drawn_nm s
  obtain ⟨o, u, hw, ho, hu⟩ := drawn_nm (drawnS s)
  generalize ev : drawnV s = v at *
  generalize ex : drawnV (drawnS s) = x at *
  have hb1 := hv.pos
  have hu1 := hw.pos
  have bu : b * u ≠ 0 := mul_ne hb1 hu1
  have lt3 : (240 : Nat) ≤ 3000 := by decide
  have TW : Two v x t b o u := ⟨hv, hw, ht.mono lt3, hb.mono lt3, ho.mono lt3, hu.mono lt3⟩
  have TR : Two x v o u t b := ⟨hw, hv, ho.mono lt3, hu.mono lt3, ht.mono lt3, hb.mono lt3⟩
  have TP : Two (prD o u) (prD t b) o u t b := ⟨hw.pair, hv.pair, ho.mono lt3, hu.mono lt3, ht.mono lt3, hb.mono lt3⟩
  have TS : Two v (prD t b) t b t b := ⟨hv, hv.pair, ht.mono lt3, hb.mono lt3, ht.mono lt3, hb.mono lt3⟩
  have r1 : Room 1 (cxOf CX0 P w K mg base ["_law_dice_here", "_law_one", "_law_other", "_law_first", "_law_last", "_law_told", "_law_due", "_law_sign"] "_law_sums_right" (defScope sSums) f cdv A outer s0 H0 E).nox.A := C.hr.mono (by decide)
  have r2 := C.hr.mono (show 2 ≤ 7 by decide)
  have r3 := C.hr.mono (show 3 ≤ 7 by decide)
  have r4 := C.hr.mono (show 4 ≤ 7 by decide)
  have r6 := C.hr.mono (show 6 ≤ 7 by decide)
  refine sr_par 1 2 C.calm C.nd (ed_cons (EV.is (ev_call Gd r3 (ea_dice 0 ea_nil) ⟨rfl, rfl, rfl⟩) ev) (ed_cons (EV.is (ev_call Gd r3 (ea_dice 0 ea_nil) ⟨rfl, rfl, rfl⟩) ex) ed_nil)) ?_
  refine sr_par (d1 := prD t b) (d2 := prD o u) 3 4 C.calm C.nd (ed_cons (ev_call Gp r1 (ea_cons (ev_var 1) ea_nil) ⟨_, _, _, rfl, hv, rfl, rfl⟩) (ed_cons (ev_call Gp r1 (ea_cons (ev_var 2) ea_nil) ⟨_, _, _, rfl, hw, rfl, rfl⟩) ed_nil)) ?_
  -- the five and the three
  have cA : frD (o * b + t * u) (u * b) = frD (t * u + o * b) (b * u) := by rw [Int.add_comm, Int.mul_comm u b]
  have cC : frD (o * t) (u * b) = frD (t * o) (b * u) := by rw [Int.mul_comm o t, Int.mul_comm u b]
  have cB : frD (t * u + (0 - o) * b) (b * u) = frD (t * u - o * b) (b * u) := by rw [sub_eq]
  refine sr_asg (d := .list [frD (t * u + o * b) (b * u), frD (t * u - o * b) (b * u), frD (t * o) (b * u), frD (t * u + o * b) (b * u), frD (t * o) (b * u)]) 5 C.nd (ev_lst
    (ed_cons (ev_call Ga r6 (ea_cons (ev_var 1) (ea_cons (ev_var 2) ea_nil)) ⟨_, _, _, _, _, _, rfl, TW, rfl, rfl⟩)
    (ed_cons (ev_call Gl r6 (ea_cons (ev_var 1) (ea_cons (ev_var 2) ea_nil)) ⟨_, _, _, _, _, _, rfl, TW, rfl, rfl⟩)
    (ed_cons (ev_call Gm r6 (ea_cons (ev_var 1) (ea_cons (ev_var 2) ea_nil)) ⟨_, _, _, _, _, _, rfl, TW, rfl, rfl⟩)
    (ed_cons (EV.is (ev_call Ga r6 (ea_cons (ev_var 4) (ea_cons (ev_var 3) ea_nil)) ⟨_, _, _, _, _, _, rfl, TP, rfl, rfl⟩) cA)
    (ed_cons (EV.is (ev_call Gm r6 (ea_cons (ev_var 4) (ea_cons (ev_var 3) ea_nil)) ⟨_, _, _, _, _, _, rfl, TP, rfl, rfl⟩) cC) ed_nil)))))) ?_
  refine sr_asg (d := .list [frD (t * u + o * b) (b * u), frD (t * u - o * b) (b * u), frD (t * o) (b * u)]) 6 C.nd (ev_lst
    (ed_cons (ev_call Lp r3 (ea_cons (ev_var 3) (ea_cons (ev_var 4) ea_nil)) ⟨_, _, _, _, rfl, TW.t, TW.b, TW.o, TW.u, bu, rfl, rfl⟩)
    (ed_cons (EV.is (ev_call Ll r4 (ea_cons (ev_var 3) (ea_cons (ev_var 4) ea_nil)) ⟨_, _, _, _, rfl, TW.t, TW.b, ho.mono (by decide), TW.u, bu, rfl, rfl⟩) cB)
    (ed_cons (ev_call Lt r3 (ea_cons (ev_var 3) (ea_cons (ev_var 4) ea_nil)) ⟨_, _, _, _, rfl, TW.t, TW.b, TW.o, TW.u, bu, rfl, rfl⟩) ed_nil)))) ?_
  have nB : frD (o * b - t * u) (u * b) = prD (0 - frT (t * u - o * b) (b * u)) (frB (t * u - o * b) (b * u)) := by
    have e := frD_neg (t := t * u - o * b) bu
    have e2 : o * b - t * u = -(t * u - o * b) := by omega
    unfold frD prD
    rw [e2, Int.mul_comm u b, e.1, e.2, Int.zero_sub]
  have nT : frT (o * b - t * u) (u * b) = -frT (t * u - o * b) (b * u) := by
    have e := frD_neg (t := t * u - o * b) bu
    have e2 : o * b - t * u = -(t * u - o * b) := by omega
    rw [e2, Int.mul_comm u b, e.1]
  have hA : ∀ i j, Pl (frD i j) := fun i j => pl_fr
  generalize hX : frT (t * u - o * b) (b * u) = q at *
  generalize hY : frB (t * u - o * b) (b * u) = r at *
  have eB : frD (t * u - o * b) (b * u) = prD q r := by
    unfold frD prD
    rw [hX, hY]
  rw [eB]
  refine sr_ifF (et_w (ew_orF (et_neS C.hu ⟨rfl, rfl⟩ (ev_var 5) (ev_cat (ds := [frD (t * u + o * b) (b * u), prD q r, frD (t * o) (b * u)]) (fs := [frD (t * u + o * b) (b * u), frD (t * o) (b * u)]) (Nat.le_of_ble_eq_true rfl) (ev_var 6) (ev_lst (ed_cons (ev_ixL (ev_var 6) ev_int (atI_nat (j := 0) rfl)) (ed_cons (ev_ixL (ev_var 6) ev_int (atI_nat (j := 2) rfl)) ed_nil)))))
    (ew_orF (et_notF (et_val (ev_call Gn r3 (ea_cons (ev_var 1) ea_nil) ⟨_, rfl, by rw [hv.num], rfl⟩))) (ew_or1 (et_notF (et_val (ev_call Gf r2 (ea_cons (ev_var 3) ea_nil) ⟨_, rfl, by rw [hv.frac], rfl⟩))))))) ?_
  refine sr_ifF (et_w (ew_orF (et_neS C.hu (d := .bool (frac v)) ⟨rfl, rfl⟩ (ev_call Gf r2 (ea_cons (ev_var 1) ea_nil) ⟨_, rfl, rfl, rfl⟩) (ev_isi T.isi T.tuple (ev_var 1) hv.tup))
    (ew_or1 (et_neS C.hu (d := prD (0 - q) r) pl_fr (EV.is (ev_call Gl r6 (ea_cons (ev_var 2) (ea_cons (ev_var 1) ea_nil)) ⟨_, _, _, _, _, _, rfl, TR, rfl, rfl⟩) nB) (ev_tup (ed_cons (ev_sub ev_int (ev_fst (t := q) (b := r) (ev_ixL (ev_var 6) ev_int (atI_nat (j := 1) rfl)))) (ed_cons (ev_snd (t := q) (b := r) (ev_ixL (ev_var 6) ev_int (atI_nat (j := 1) rfl))) ed_nil))))))) ?_
  refine sr_asg (d := .int (sgn q)) 7 C.nd (EV.is (ev_sub (ev_bty call_int1 rb_intB T.int (ed_cons (ev_gt (ev_fst (t := q) (b := r) (ev_ixL (ev_var 6) ev_int (atI_nat (j := 1) rfl))) ev_int) ed_nil)) (ev_bty call_int1 rb_intB T.int (ed_cons (ev_lt (ev_fst (t := q) (b := r) (ev_ixL (ev_var 6) ev_int (atI_nat (j := 1) rfl))) ev_int) ed_nil))) (by rw [sign_eq])) ?_
  refine sr_ifF (et_neS C.hu (d := .list [.int (sgn q), .int (0 - sgn q), .int 0]) ⟨rfl, rfl⟩ (ev_lst
    (ed_cons (EV.is (ev_call Gc C.hr (ea_cons (ev_var 1) (ea_cons (ev_var 2) ea_nil)) ⟨_, _, _, _, _, _, rfl, TW, rfl, rfl⟩) (by rw [hX]))
    (ed_cons (EV.is (ev_call Gc C.hr (ea_cons (ev_var 2) (ea_cons (ev_var 1) ea_nil)) ⟨_, _, _, _, _, _, rfl, TR, rfl, rfl⟩) (by rw [nT, sgn_neg, Int.zero_sub]))
    (ed_cons (EV.is (ev_call Gc C.hr (ea_cons (ev_var 1) (ea_cons (ev_var 3) ea_nil)) ⟨_, _, _, _, _, _, rfl, TS, rfl, rfl⟩) (by rw [Int.sub_self, frT_zero]; rfl)) ed_nil))))
    (ev_lst (ed_cons (ev_var 7) (ed_cons (ev_sub ev_int (ev_var 7)) (ed_cons ev_int ed_nil))))) ?_
  refine sr_ret ?_
  by_cases h0 : o = 0
  · exact ev_orT (EV.is (ev_eqI C.hu (ev_fst (t := o) (b := u) (ev_var 4)) ev_int) (by rw [decide_eq_true h0]))
  · exact ev_orF (EV.is (ev_eqI C.hu (ev_fst (t := o) (b := u) (ev_var 4)) ev_int) (by rw [decide_eq_false h0])) (ev_b1 (ev_eqS C.hu (hA _ _) (ev_call Gv r6 (ea_cons (ev_var 1) (ea_cons (ev_var 2) ea_nil)) ⟨_, _, _, _, _, _, rfl, TW, h0, rfl, rfl⟩)
      (ev_call Lo r3 (ea_cons (ev_var 3) (ea_cons (ev_var 4) ea_nil)) ⟨_, _, _, _, rfl, TW.t, TW.b, TW.o, TW.u, Int.mul_ne_zero (by omega) h0, rfl, rfl⟩)))
end
end K1


set_option Elab.async false
set_option linter.all false
set_option maxRecDepth 100000
set_option exponentiation.threshold 3000
namespace K1
open PySem PySem.Spec PyProof.Rows L2 DL
section
variable {X : Cx} {z : Z} {es : List Sl} {s s1 s2 : S} {a b : Expr} {pos : Pos} {d : PyData} {ds : List PyData}
theorem et_notN0 (ha : EV X z a es s .none s1) (hb : EV X z b es s1 .none s2) : ET X z (.Compare a [.IsNot] [b] pos) es s false s2 :=
  et_cmpR op_notN (fun x y H at_ hx hy Q q => by
    cases hx
    cases hy
    exact ⟨rfl, q _ H (.refl H) at_ (.bl false)⟩) ha hb (nomark _)
theorem et_notN1 (ha : EV X z a es s (.tuple ds) s1) (hb : EV X z b es s1 .none s2) : ET X z (.Compare a [.IsNot] [b] pos) es s true s2 :=
  et_cmpR op_notN (fun x y H at_ hx hy Q q => by
    cases hx
    cases hy
    exact ⟨rfl, q _ H (.refl H) at_ (.bl true)⟩) ha hb (nomark _)
end
theorem msq (t : Int) : 0 ≤ t * t := by
  rw [← Int.natAbs_mul_self]
  omega
theorem sq_sq (n : Nat) : Float64.isqrt (n * n) = n := by
  obtain ⟨h1, h2⟩ := PySem.Float64.isqrt_spec (n * n)
  have a1 : Float64.isqrt (n * n) ≤ n := Nat.mul_self_le_mul_self_iff.mp h1
  have a2 : n < Float64.isqrt (n * n) + 1 := Nat.mul_self_lt_mul_self_iff.mp h2
  omega
theorem sqI_sq (t : Int) : sqI (t * t) = (t.natAbs : Int) := by
  unfold sqI
  rw [show (t * t).toNat = t.natAbs * t.natAbs by
    rw [← Int.natAbs_mul]
    have := msq t
    omega, sq_sq]
theorem abs_sq (t : Int) : (t.natAbs : Int) * (t.natAbs : Int) = t * t := Int.natAbs_mul_self
theorem cop_mul {t b : Nat} (h : Nat.gcd t b = 1) : Nat.gcd (t * t) (b * b) = 1 := by
  have : Nat.Coprime t b := h
  exact Nat.Coprime.mul_left (Nat.Coprime.mul_right this this) (Nat.Coprime.mul_right this this)
theorem rt_sq {t b : Int} (hb : 1 ≤ b) : rtD (t * t) (b * b) = prD (t.natAbs : Int) b := by
  have h0 := msq t
  have e : ((b.natAbs : Nat) : Int) = b := by omega
  unfold rtD
  rw [sqI_sq, sqI_sq, if_neg (by omega), if_pos ⟨abs_sq t, abs_sq b⟩, e]
  rfl
theorem rt_next {t : Int} (h : t ≠ 0) : rtD (t * t + 1) 1 = .none := by
  have h0 := msq t
  unfold rtD
  rw [if_neg (by omega), if_neg]
  rintro ⟨h1, _⟩
  have hs : 0 ≤ sqI (t * t + 1) := by
    unfold sqI
    omega
  generalize sqI (t * t + 1) = q at *
  have hn : q.natAbs * q.natAbs = t.natAbs * t.natAbs + 1 := by
    have h2 := congrArg Int.toNat h1
    have e1 : (q * q).toNat = q.natAbs * q.natAbs := by
      rw [← Int.natAbs_mul]
      omega
    have e2 : (t * t + 1).toNat = t.natAbs * t.natAbs + 1 := by
      have : (t * t).natAbs = t.natAbs * t.natAbs := Int.natAbs_mul t t
      omega
    omega
  have hp : 0 < t.natAbs := by omega
  generalize t.natAbs = n at *
  generalize q.natAbs = m at *
  have c1 : n < m := Nat.mul_self_lt_mul_self_iff.mp (by omega)
  have c2 : (n + 1) * (n + 1) ≤ m * m := Nat.mul_self_le_mul_self (by omega)
  have : (n + 1) * (n + 1) = n * n + n + n + 1 := by
    rw [Nat.add_mul, Nat.mul_add]
    omega
  omega
theorem pow_cop {t b : Int} (h : Nat.gcd t.natAbs b.natAbs = 1) (a : Nat) : Nat.gcd (t ^ a).natAbs (b ^ a).natAbs = 1 := by
  rw [Int.natAbs_pow, Int.natAbs_pow]
  exact Nat.Coprime.pow a a h
theorem pow_pos1 {t : Int} (h : 1 ≤ t) : ∀ a : Nat, 1 ≤ t ^ a
  | 0 => by
    rw [Int.pow_zero]
    decide
  | a + 1 => by
    rw [Int.pow_succ]
    have := Int.mul_pos (show 0 < t ^ a from pow_pos1 h a) (show 0 < t by omega)
    omega
/-- powers with an exponent below 0 -/
theorem pw_neg {t b m : Int} (hb : 1 ≤ b) (hc : Nat.gcd t.natAbs b.natAbs = 1) (ht : t ≠ 0) (hm : m < 0) : pwD t b m = frD (b ^ m.natAbs) (t ^ m.natAbs) := by
  have e : (-m).toNat = m.natAbs := by omega
  unfold pwD
  rw [if_neg (by omega), e]
  have hc' : Nat.gcd b.natAbs t.natAbs = 1 := by rw [Nat.gcd_comm]; exact hc
  by_cases h : t < 0
  · rw [if_pos h]
    have u := frD_uniq (t := (-b) ^ m.natAbs) (b := (-t) ^ m.natAbs) (c := (-1) ^ m.natAbs) (by
      have : ((-1 : Int) ^ m.natAbs).natAbs = 1 := by rw [Int.natAbs_pow]; exact Nat.one_pow _
      omega) (pow_pos1 (by omega) _) (pow_cop (by rw [Int.natAbs_neg, Int.natAbs_neg]; exact hc') _)
    rw [← Int.mul_pow, ← Int.mul_pow] at u
    rw [show -b * -1 = b by omega, show -t * -1 = t by omega] at u
    unfold frD
    rw [u.1, u.2]
  · rw [if_neg h]
    exact (frD_cop (pow_pos1 (by omega) _) (pow_cop hc' _)).symm
theorem pw_pos {t b m : Int} (hm : 0 ≤ m) : pwD t b m = prD (t ^ m.natAbs) (b ^ m.natAbs) := by
  have e : m.toNat = m.natAbs := by omega
  unfold pwD
  rw [if_pos hm, e]
  rfl
section
variable {P : Program} {w : World} {K : PySem.W.Frag} {mg : Str → Option Value} {base : Heap} {f : Addr} {fd : FuncData}
abbrev sPows : Stmt := top 54
theorem scPows : FnScope ["_law_dice_here", "_law_one", "_law_wide", "_law_first", "_law_power_here", "_law_square", "_law_floor", "_law_scale"] ["_law_dice_here"] (defScope sPows) := ⟨rfl, rfl, rfl, by decide +kernel, rfl, by decide +kernel, by decide +kernel⟩
def powS (s : S) : S := rollS (rollS (drawnS s) 17) 99
def rPows : Rel := fun as s d s' => as = [.dice] ∧ d = .bool true ∧ s' = powS s
theorem bd_one : Bd 3000 1 := Bd.mono (n := 2) (by unfold Bd; decide) (by decide)
theorem ok_pows (F : Fun K "_law_powers_right" "_law_powers_right" sPows f fd) (T : Top mg) (Gd : Dn P w K mg base 3 "_law_nm_drawn" rDrawn) (Gp : Dn P w K mg base 1 "_law_nm_pair" rPair) (Gr : Dn P w K mg base 1 "_law_roll" rRoll)
    (Lw : Dn P w K mg base 2 "_law_nm_power" rLPow) (Gw : Dn P w K mg base 5 "power_of" rPower) (Lf : Dn P w K mg base 2 "_law_fraction" rQuot) (Lt : Dn P w K mg base 3 "_law_times" rTimes) (Lp : Dn P w K mg base 3 "_law_plus" rPlus)
    (Go : Dn P w K mg base 5 "root_of" rRoot) (Gl : Dn P w K mg base 5 "floor_of" rFloor) (Gq : Dn P w K mg base 2 "fraction" rQuot) : FnOk P w K mg base CX0 6 f fd ["_law_dice_here"] (spD rPows) := by
  refine okD F scPows (by rintro _ _ _ _ ⟨rfl, _⟩; rfl) fun cdv A outer s0 H0 E C z as s d s' h => ?_
  obtain ⟨rfl, rfl, rfl⟩ := h
  obtain ⟨t, b, hv, ht, hb⟩ := drawn_nm s
  generalize ev : drawnV s = v at *
  have hb1 := hv.pos
  have hc := hv.cop
  have bb : b * b ≠ 0 := mul_ne hb1 hb1
  have lt3 : (240 : Nat) ≤ 3000 := by decide
  have t3 := ht.mono lt3
  have b3 := hb.mono lt3
  have tt : Bd 480 (t * t) := ht.mul ht
  have b2 : Bd 480 (b * b) := hb.mul hb
  have r1 : Room 1 (cxOf CX0 P w K mg base ["_law_dice_here", "_law_one", "_law_wide", "_law_first", "_law_power_here", "_law_square", "_law_floor", "_law_scale"] "_law_powers_right" (defScope sPows) f cdv A outer s0 H0 E).nox.A := C.hr.mono (by decide)
  have r2 := C.hr.mono (show 2 ≤ 5 by decide)
  have r3 := C.hr.mono (show 3 ≤ 5 by decide)
  have hw := roll_bd (drawnS s) (n := 17) (by decide)
  have hk := roll_bd (rollS (drawnS s) 17) (n := 99) (by decide)
  refine sr_par (d2 := .int (rollV (drawnS s) 17 - 8)) 1 2 C.calm C.nd (ed_cons (EV.is (ev_call Gd r3 (ea_dice 0 ea_nil) ⟨rfl, rfl, rfl⟩) ev) (ed_cons (ev_sub (ev_call Gr r1 (ea_dice 0 (ea_cons ev_int ea_nil)) ⟨17, rfl, by decide, Bd.mono (n := 20) (by unfold Bd; decide) (by decide), rfl, rfl⟩) ev_int) ed_nil)) ?_
  generalize hm : rollV (drawnS s) 17 - 8 = m at *
  have m8 : -8 ≤ m ∧ m ≤ 8 := by omega
  unfold powS
  generalize rollS (drawnS s) 17 = s2 at *
  refine sr_asg (d := prD t b) 3 C.nd (ev_call Gp r1 (ea_cons (ev_var 1) ea_nil) ⟨_, _, _, rfl, hv, rfl, rfl⟩) ?_
  refine sr_asg (d := prD (t ^ m.natAbs) (b ^ m.natAbs)) 4 C.nd (ev_call Lw r2 (ea_cons (ev_var 3) (ea_cons (ev_bltn call_abs rb_abs T.abs (ed_cons (ev_var 2) ed_nil)) ea_nil)) ⟨t, b, m.natAbs, rfl, by omega, t3, b3, rfl, rfl⟩) ?_
  have Bp : ∀ {y : Int}, Bd 240 y → Bd 2000 (y ^ m.natAbs) := fun h => (bd_pow h m.natAbs).mono (by omega)
  -- the powers
  have pows : ∀ o, SR (cxOf CX0 P w K mg base ["_law_dice_here", "_law_one", "_law_wide", "_law_first", "_law_power_here", "_law_square", "_law_floor", "_law_scale"] "_law_powers_right" (defScope sPows) f cdv A outer s0 H0 E).nox z ((defBody sPows).drop 5) [.dice, .val v, .val (.int m), .val (prD t b), .val (prD (t ^ m.natAbs) (b ^ m.natAbs)), .un, .un, .un] s2 o →
      SR (cxOf CX0 P w K mg base ["_law_dice_here", "_law_one", "_law_wide", "_law_first", "_law_power_here", "_law_square", "_law_floor", "_law_scale"] "_law_powers_right" (defScope sPows) f cdv A outer s0 H0 E).nox z ((defBody sPows).drop 3) [.dice, .val v, .val (.int m), .val (prD t b), .val (prD (t ^ m.natAbs) (b ^ m.natAbs)), .un, .un, .un] s2 o := fun o k => by
    by_cases h0 : 0 ≤ m
    · refine sr_ifF (et_w (ew_andT (ET.is (et_ge (ev_var 2) ev_int) (decide_eq_true h0)) (ew_and1 (et_neS C.hu (d := prD (t ^ m.natAbs) (b ^ m.natAbs)) pl_fr (EV.is (ev_call Gw C.hr (ea_cons (ev_var 1) (ea_cons (ev_var 2) ea_nil)) ⟨_, _, _, _, rfl, hv, t3, b3, m8.1, m8.2, fun h => absurd h (by omega), rfl, rfl⟩) (pw_pos h0)) (ev_var 4))))) ?_
      exact sr_ifF (et_w (ew_andF (ET.is (et_lt (ev_var 2) ev_int) (decide_eq_false (by omega))))) k
    · have h1 : m < 0 := by omega
      refine sr_ifF (et_w (ew_andF (ET.is (et_ge (ev_var 2) ev_int) (decide_eq_false h0)))) ?_
      by_cases h2 : t = 0
      · exact sr_ifF (et_w (ew_andT (ET.is (et_lt (ev_var 2) ev_int) (decide_eq_true h1)) (ew_andF (ET.is (et_neI C.hu (ev_fst (t := t) (b := b) (ev_var 3)) ev_int) (by rw [decide_eq_true h2]; rfl))))) k
      · have tp : t ^ m.natAbs ≠ 0 := Int.pow_ne_zero h2
        exact sr_ifF (et_w (ew_andT (ET.is (et_lt (ev_var 2) ev_int) (decide_eq_true h1)) (ew_andT (ET.is (et_neI C.hu (ev_fst (t := t) (b := b) (ev_var 3)) ev_int) (by rw [decide_eq_false h2]; rfl))
          (ew_and1 (et_neS C.hu (d := frD (b ^ m.natAbs) (t ^ m.natAbs)) pl_fr (EV.is (ev_call Gw C.hr (ea_cons (ev_var 1) (ea_cons (ev_var 2) ea_nil)) ⟨_, _, _, _, rfl, hv, t3, b3, m8.1, m8.2, fun _ => h2, rfl, rfl⟩) (pw_neg hb1 hc h2 h1))
            (ev_call Lf r2 (ea_cons (ev_snd (t := t ^ m.natAbs) (b := b ^ m.natAbs) (ev_var 4)) (ea_cons (ev_fst (t := t ^ m.natAbs) (b := b ^ m.natAbs) (ev_var 4)) ea_nil)) ⟨_, _, rfl, tp, (Bp ht).mono (by decide), rfl, rfl⟩)))))) k
  refine pows _ ?_
  -- the square
  have c2 : Nat.gcd (t * t).natAbs (b * b).natAbs = 1 := by
    rw [Int.natAbs_mul, Int.natAbs_mul]
    exact cop_mul hc
  have q1 : 1 ≤ b * b := by
    have := Int.mul_pos (show 0 < b by omega) (show 0 < b by omega)
    omega
  refine sr_asg (d := prD (t * t) (b * b)) 5 C.nd (EV.is (ev_call Lt r3 (ea_cons (ev_var 3) (ea_cons (ev_var 3) ea_nil)) ⟨_, _, _, _, rfl, t3, b3, t3, b3, bb, rfl, rfl⟩) (frD_cop q1 c2)) ?_
  have roots : ∀ o, SR (cxOf CX0 P w K mg base ["_law_dice_here", "_law_one", "_law_wide", "_law_first", "_law_power_here", "_law_square", "_law_floor", "_law_scale"] "_law_powers_right" (defScope sPows) f cdv A outer s0 H0 E).nox z ((defBody sPows).drop 7) [.dice, .val v, .val (.int m), .val (prD t b), .val (prD (t ^ m.natAbs) (b ^ m.natAbs)), .val (prD (t * t) (b * b)), .un, .un] s2 o →
      SR (cxOf CX0 P w K mg base ["_law_dice_here", "_law_one", "_law_wide", "_law_first", "_law_power_here", "_law_square", "_law_floor", "_law_scale"] "_law_powers_right" (defScope sPows) f cdv A outer s0 H0 E).nox z ((defBody sPows).drop 6) [.dice, .val v, .val (.int m), .val (prD t b), .val (prD (t ^ m.natAbs) (b ^ m.natAbs)), .val (prD (t * t) (b * b)), .un, .un] s2 o := fun o k => by
    refine sr_ifF (et_w (ew_orF (et_neS C.hu (d := prD (t.natAbs : Int) b) pl_fr (EV.is (ev_call Go C.hr (ea_cons (ev_var 5) ea_nil) ⟨_, _, _, rfl, .fr q1 c2, tt.mono (by decide), b2.mono (by decide), rfl, rfl⟩) (rt_sq hb1)) (ev_tup (ed_cons (ev_bltn call_abs rb_abs T.abs (ed_cons (ev_fst (t := t) (b := b) (ev_var 3)) ed_nil)) (ed_cons (ev_snd (t := t) (b := b) (ev_var 3)) ed_nil))))
      (ew_or1 ?_))) k
    by_cases h2 : t = 0
    · exact et_w (ew_andF (ET.is (et_neI C.hu (ev_fst (t := t) (b := b) (ev_var 3)) ev_int) (by rw [decide_eq_true h2]; rfl)))
    · have tp : 0 < t * t := by
        have := msq t
        have := Int.mul_ne_zero h2 h2
        omega
      exact et_w (ew_andT (ET.is (et_neI C.hu (ev_fst (t := t) (b := b) (ev_var 3)) ev_int) (by rw [decide_eq_false h2]; rfl)) (ew_and1 (et_notN0 (EV.is (ev_call Go C.hr (ea_cons (ev_tup (ed_cons (ev_sub ev_int (ev_fst (t := t * t) (b := b * b) (ev_var 5))) (ed_cons (ev_snd (t := t * t) (b := b * b) (ev_var 5)) ed_nil))) ea_nil)
        ⟨_, 0 - t * t, b * b, rfl, .fr q1 (by rw [Int.zero_sub, Int.natAbs_neg]; exact c2), bd_sub0 tt (by decide), b2.mono (by decide), rfl, rfl⟩) (by unfold rtD; rw [if_pos (by omega)])) ev_non)))
  refine roots _ ?_
  -- one more
  have nz : b * b * 1 ≠ 0 := by omega
  have PL : EV (cxOf CX0 P w K mg base ["_law_dice_here", "_law_one", "_law_wide", "_law_first", "_law_power_here", "_law_square", "_law_floor", "_law_scale"] "_law_powers_right" (defScope sPows) f cdv A outer s0 H0 E).nox z
      (match (defBody sPows)[7]? with | some (Stmt.If (Expr.BoolOp _ (Expr.Compare e _ _ _ :: _) _) _ _ _) => e | _ => .Constant .none 0 ⟨0, 0, 0, 0⟩)
      [.dice, .val v, .val (.int m), .val (prD t b), .val (prD (t ^ m.natAbs) (b ^ m.natAbs)), .val (prD (t * t) (b * b)), .un, .un] s2 (rtD (frT (t * t * 1 + 1 * (b * b)) (b * b * 1)) (frB (t * t * 1 + 1 * (b * b)) (b * b * 1))) s2 := by
    have B1 : Bd 1000 (t * t * 1 + 1 * (b * b)) := by
      rw [Int.mul_one, Int.one_mul]
      exact (tt.add b2).mono (by decide)
    have B2 : Bd 1000 (b * b * 1) := by
      rw [Int.mul_one]
      exact b2.mono (by decide)
    exact ev_call Go C.hr (ea_cons (ev_call Lp r3 (ea_cons (ev_var 5) (ea_cons (ev_tup (ed_cons ev_int (ed_cons ev_int ed_nil))) ea_nil)) ⟨t * t, b * b, 1, 1, rfl, tt.mono (by decide), b2.mono (by decide), bd_one, bd_one, nz, rfl, rfl⟩) ea_nil)
      ⟨_, _, _, rfl, FrS.nm nz, (frT_bd nz B1).mono (by decide), (frB_bd nz B2).mono (by decide), rfl, rfl⟩
  have one : ET (cxOf CX0 P w K mg base ["_law_dice_here", "_law_one", "_law_wide", "_law_first", "_law_power_here", "_law_square", "_law_floor", "_law_scale"] "_law_powers_right" (defScope sPows) f cdv A outer s0 H0 E).nox z
      (match (defBody sPows)[7]? with | some (Stmt.If e _ _ _) => e | _ => .Constant .none 0 ⟨0, 0, 0, 0⟩)
      [.dice, .val v, .val (.int m), .val (prD t b), .val (prD (t ^ m.natAbs) (b ^ m.natAbs)), .val (prD (t * t) (b * b)), .un, .un] s2 false s2 := by
    have imp : t ≠ 0 → b = 1 → rtD (frT (t * t * 1 + 1 * (b * b)) (b * b * 1)) (frB (t * t * 1 + 1 * (b * b)) (b * b * 1)) = .none := fun h1 h2 => by
      subst h2
      have e1 : t * t * 1 + 1 * (1 * 1) = t * t + 1 := by omega
      have u := frD_uniq (t := t * t + 1) (b := 1) (c := 1) (by decide) (by decide) (Nat.gcd_one_right _)
      rw [Int.mul_one] at u
      rw [e1, show (1 : Int) * 1 * 1 = 1 * 1 from rfl, u.1, u.2]
      exact rt_next h1
    have cases : ∀ r : PyData, (r = .none ∨ ∃ i j, r = prD i j) → r = rtD (frT (t * t * 1 + 1 * (b * b)) (b * b * 1)) (frB (t * t * 1 + 1 * (b * b)) (b * b * 1)) → ET (cxOf CX0 P w K mg base ["_law_dice_here", "_law_one", "_law_wide", "_law_first", "_law_power_here", "_law_square", "_law_floor", "_law_scale"] "_law_powers_right" (defScope sPows) f cdv A outer s0 H0 E).nox z
      (match (defBody sPows)[7]? with | some (Stmt.If e _ _ _) => e | _ => .Constant .none 0 ⟨0, 0, 0, 0⟩)
      [.dice, .val v, .val (.int m), .val (prD t b), .val (prD (t ^ m.natAbs) (b ^ m.natAbs)), .val (prD (t * t) (b * b)), .un, .un] s2 false s2 := fun r hr e => by
      rw [← e] at PL imp
      rcases hr with rfl | ⟨i, j, rfl⟩
      · exact et_w (ew_andF (et_notN0 PL ev_non))
      · refine et_w (ew_andT (et_notN1 PL ev_non) ?_)
        by_cases h1 : t = 0
        · exact ew_andF (ET.is (et_neI C.hu (ev_fst (t := t) (b := b) (ev_var 3)) ev_int) (by rw [decide_eq_true h1]; rfl))
        · refine ew_andT (ET.is (et_neI C.hu (ev_fst (t := t) (b := b) (ev_var 3)) ev_int) (by rw [decide_eq_false h1]; rfl)) (ew_and1 (ET.is (et_eqI C.hu (ev_snd (t := t) (b := b) (ev_var 3)) ev_int) (decide_eq_false fun h2 => ?_)))
          cases imp h1 h2
    refine cases _ ?_ rfl
    unfold rtD
    split
    · exact .inl rfl
    · split
      · exact .inr ⟨_, _, rfl⟩
      · exact .inl rfl
  refine sr_ifF one ?_
  -- the floor
  refine sr_asg (d := .int (t / b)) 6 C.nd (ev_call Gl C.hr (ea_cons (ev_var 1) ea_nil) ⟨_, _, _, rfl, hv, b3, rfl, rfl⟩) ?_
  have d1 := Int.mul_ediv_add_emod t b
  have d2 := Int.emod_nonneg t (show b ≠ 0 by omega)
  have d3 := Int.emod_lt_of_pos t (show 0 < b by omega)
  have d4 : t / b * b = b * (t / b) := Int.mul_comm _ _
  have d5 : (t / b + 1) * b = b * (t / b) + b := by rw [Int.add_mul, Int.one_mul, d4]
  have qb : Bd 240 (t / b) := by
    unfold Bd at *
    have : (t / b).natAbs ≤ t.natAbs := by
      have := Int.natAbs_ediv_le_natAbs t b
      exact this
    omega
  refine sr_ifF (et_w (ew_orF (et_notF (et_val (ev_isi T.isi T.int (ev_var 6) (k_int (.int (t / b)))))) (ew_orF (ET.is (et_gt (ev_mul (qb.cmul hb) (ev_var 6) (ev_snd (t := t) (b := b) (ev_var 3))) (ev_fst (t := t) (b := b) (ev_var 3))) (decide_eq_false (by omega)))
    (ew_or1 (ET.is (et_le (ev_mul ((qb.add (show Bd 240 1 from Bd.mono (n := 2) (by unfold Bd; decide) (by decide))).cmul hb) (ev_add (ev_var 6) ev_int) (ev_snd (t := t) (b := b) (ev_var 3))) (ev_fst (t := t) (b := b) (ev_var 3))) (decide_eq_false (by omega))))))) ?_
  -- a scale
  refine sr_asg (d := .int (rollV s2 99 - 49)) (s1 := rollS s2 99) 7 C.nd (ev_sub (ev_call Gr r1 (ea_dice 0 (ea_cons ev_int ea_nil)) ⟨99, rfl, by decide, Bd.mono (n := 20) (by unfold Bd; decide) (by decide), rfl, rfl⟩) ev_int) ?_
  generalize hcc : rollV s2 99 - 49 = c at *
  generalize rollS s2 99 = s3 at *
  have fin : ∀ c : Int, c ≠ 0 → Bd 10 c → SR (cxOf CX0 P w K mg base ["_law_dice_here", "_law_one", "_law_wide", "_law_first", "_law_power_here", "_law_square", "_law_floor", "_law_scale"] "_law_powers_right" (defScope sPows) f cdv A outer s0 H0 E).nox z ((defBody sPows).drop 12) [.dice, .val v, .val (.int m), .val (prD t b), .val (prD (t ^ m.natAbs) (b ^ m.natAbs)), .val (prD (t * t) (b * b)), .val (.int (t / b)), .val (.int c)] s3 (.rt (.bool true) s3) := fun c c0 cB => by
    have u := frD_uniq (t := t) (b := b) c0 hb1 hc
    exact sr_ret (ev_eqS C.hu (d := prD t b) pl_fr (EV.is (ev_call Gq r2 (ea_cons (ev_mul (ht.cmul cB) (ev_fst (t := t) (b := b) (ev_var 3)) (ev_var 7)) (ea_cons (ev_mul (hb.cmul cB) (ev_snd (t := t) (b := b) (ev_var 3)) (ev_var 7)) ea_nil)) ⟨t * c, b * c, rfl, Int.mul_ne_zero (by omega) c0, (hb.mul cB).mono (by decide), rfl, rfl⟩) (by unfold frD; rw [u.1, u.2]; rfl)) (ev_var 3))
  by_cases h0 : c = 0
  · exact sr_asg (d := .int 7) 7 C.nd (ev_ifF (ET.is (et_neI C.hu (ev_var 7) ev_int) (by rw [decide_eq_true h0]; rfl)) ev_int) (fin 7 (by decide) (by unfold Bd; decide))
  · exact sr_asg (d := .int c) 7 C.nd (ev_ifT (ET.is (et_neI C.hu (ev_var 7) ev_int) (by rw [decide_eq_false h0]; rfl)) (ev_var 7)) (fin c h0 (by unfold Bd; omega))
end
end K1


set_option Elab.async false
set_option linter.all false
set_option maxRecDepth 100000
namespace DL
open PySem PySem.Spec PyProof.Rows L2
/-! ### 8. list comprehensions -/
def Z.add (z : Z) (D : Addr) (o : HO) : Z := ⟨z.dice, (D, o) :: z.vol⟩
theorem Fz.of_add {z : Z} {D a : Addr} {o : HO} (h : Fz (z.add D o) a) : Fz z a ∧ a ≠ D := ⟨⟨h.1, fun u hu => h.2 u (List.mem_cons_of_mem _ hu)⟩, fun e => h.2 o (by rw [e]; exact List.mem_cons_self ..)⟩
theorem Fz.to_add {z : Z} {D a : Addr} {o : HO} (h : Fz z a) (n : a ≠ D) : Fz (z.add D o) a := ⟨h.1, fun u hu => by
  rcases List.mem_cons.mp hu with e | e
  · exact n (congrArg Prod.fst e)
  · exact h.2 u e⟩
mutual
theorem Da.re {z z' : Z} {H H' : Hp} (k : ∀ a o, Fz z a → H a = some o → Fz z' a ∧ H' a = some o) : ∀ {v : V} {d : PyData}, Da z H v d → Da z' H' v d
  | _, _, .non => .non
  | _, _, .bl b => .bl b
  | _, _, .int i => .int i
  | _, _, .str x => .str x
  | _, _, .dct n h => .dct (k _ _ n h).1 (k _ _ n h).2
  | _, _, .lst n h r => .lst (k _ _ n h).1 (k _ _ n h).2 (DaAll.re k r)
  | _, _, .tup n h r => .tup (k _ _ n h).1 (k _ _ n h).2 (DaAll.re k r)
theorem DaAll.re {z z' : Z} {H H' : Hp} (k : ∀ a o, Fz z a → H a = some o → Fz z' a ∧ H' a = some o) : ∀ {vs : List V} {ds : List PyData}, DaAll z H vs ds → DaAll z' H' vs ds
  | _, _, .nil => .nil
  | _, _, .cons h r => .cons (Da.re k h) (DaAll.re k r)
end
theorem En.re {z z' : Z} {H H' : Hp} (hd : z'.dice = z.dice) (k : ∀ a o, Fz z a → H a = some o → Fz z' a ∧ H' a = some o) : ∀ {σ : L2.St} {es : List Sl}, En z H σ es → En z' H' σ es
  | _, _, .nil => .nil
  | _, _, .cons h r => .cons (by
      cases h with
      | un => exact .un
      | val d => exact .val (d.re k)
      | dice e => exact .dice (hd.trans e)
      | raw => exact .raw) (En.re hd k r)
section
variable {X : Cx} {z : Z} {es : List Sl} {s s1 : S} {iter elt cond : Expr} {ds : List PyData}
/-- the turns of a comprehension over anything that walks and leaves the heap alone -/
theorem lc_gen {te : TE} {tt : TT} {j n : Nat} {J : It} {G : Hp → Prop} {Y : Nat → Hp → V → Hp → Prop} (wk : Walk J n G Y) {σ : L2.St} {H1 : Hp} {D : Addr} (T U : Nat → S) (en1 : En z H1 σ es) (a1 : At z H1 (T 0)) (hD : H1 D = none) (items : Nat → PyData)
    (hG : ∀ H', Ez z H1 H' → G H') (hY : ∀ i x H' H2, i < n → Y i H' x H2 → H2 = H' ∧ Da z H1 x (items i)) (hl : n ≤ 100000) (kb : Nat → Bool) (A : Nat → List PyData) (hA0 : A 0 = [])
    (Ht : ∀ (z' : Z) (i : Nat), i < n → ∀ σ H, En z' H σ (es.set j (.val (items i))) → At z' H (T i) → ∀ Q : Bool → Hp → Prop, (∀ H2, Ez z' H H2 → At z' H2 (U i) → Q (kb i) H2) → tt σ H Q)
    (He : ∀ (z' : Z) (i : Nat), i < n → kb i = true → ∃ y, A (i + 1) = A i ++ [y] ∧ ∀ σ H, En z' H σ (es.set j (.val (items i))) → At z' H (U i) → ∀ Q : VK, (∀ v H2, Ez z' H H2 → At z' H2 (T (i + 1)) → Da z' H2 v y → Q v H2) → te σ H Q)
    (hn : ∀ (i : Nat), i < n → kb i = false → A (i + 1) = A i ∧ T (i + 1) = U i) {Qd : Hp → Prop} (hQ : ∀ H', Ez z H1 H' → At z H' (T n) → Da z H' (.ref D) (.list (A n)) → Qd H') :
    ∃ W : Nat → Nat → Hp → Prop, (∃ m, W 0 m (upd H1 D (.lst []))) ∧ ∀ i m H, W i m H → (J.stop i H ∧ Qd H) ∨ (J.go i H ∧ ∃ Nx : Hp → Prop, (∀ H', Nx H' → ∃ m', m' < m ∧ W (i + 1) m' H') ∧ ∀ x H', J.yld i H x H' → gName j x (wipe σ [j]) H' fun σ2 H2 => wipe σ2 [j] = wipe σ [j] ∧ tt σ2 H2 fun b H3 =>
        if b = true then te σ2 H3 fun y H4 => ∃ acc, H4 D = some (.lst acc) ∧ acc.length < sizeLine ∧ Nx (upd H4 D (.lst (acc ++ [y]))) else Nx H3) := by
  have lA : ∀ i, i ≤ n → (A i).length ≤ i := by
    intro i
    induction i with
    | zero => intro _; rw [hA0]; exact Nat.le_refl _
    | succ i ih =>
      intro hi
      cases hk : kb i with
      | true =>
        obtain ⟨y, hy, _⟩ := He z i (by omega) hk
        rw [hy, List.length_append]
        have := ih (by omega)
        simp
        omega
      | false =>
        rw [(hn i (by omega) hk).1]
        have := ih (by omega)
        omega
  have reach : ∀ {H' : Hp} {o : HO}, Ez z H1 H' → ∀ (b : Addr) (u : HO), Fz z b → H1 b = some u → Fz (z.add D o) b ∧ H' b = some u := fun e b u fb hb => ⟨fb.to_add (ne_of_none hb hD), e b u fb hb⟩
  have up : ∀ {H' H2 : Hp} {o : HO}, Ez z H1 H' → Ez (z.add D o) H' H2 → Ez z H1 H2 := fun e e2 b u fb hb => e2 b u (fb.to_add (ne_of_none hb hD)) (e b u fb hb)
  refine lc_it wk (fun i H' => Ez z H1 H' ∧ ∃ acc, H' D = some (.lst acc) ∧ At (z.add D (.lst acc)) H' (T i) ∧ DaAll (z.add D (.lst acc)) H' acc (A i)) ?_ (fun i H' _ w => hG H' w.1) ?_ ?_
  · refine ⟨.new hD, [], upd_same, ⟨?_, ?_, ?_⟩, ?_⟩
    · intro b hb
      rw [upd_ne (ne_of_none (a1.d b hb) hD)]
      exact a1.d b hb
    · intro p hp
      rcases List.mem_cons.mp hp with e | e
      · rw [e]
        exact upd_same
      · rw [upd_ne (ne_of_none (a1.v p e) hD)]
        exact a1.v p e
    · intro p hp e2
      rcases List.mem_cons.mp hp with e | e
      · rw [e] at e2
        have := a1.d D e2
        rw [this] at hD
        cases hD
      · exact a1.n p e e2
    · rw [hA0]
      exact .nil
  · intro i x H0 H' hi w hy
    obtain ⟨rfl, hxd⟩ := hY i x H0 H' hi hy
    obtain ⟨e2, acc, hDa, a2, rA⟩ := w
    have es2 : (wipe σ [j]).set j (some x) = σ.set j (some x) := by
      show (σ.set j none).set j (some x) = _
      rw [List.set_set]
    show (wipe ((wipe σ [j]).set j (some x)) [j] = wipe σ [j]) ∧ tt ((wipe σ [j]).set j (some x)) H' _
    refine ⟨by
      rw [es2]
      show (σ.set j (some x)).set j none = σ.set j none
      rw [List.set_set], ?_⟩
    rw [es2]
    have en0 : En (z.add D (.lst acc)) H' σ es := En.re (z := z) (z' := z.add D (.lst acc)) rfl (reach e2) en1
    have hx2 : Da (z.add D (.lst acc)) H' x (items i) := hxd.re (reach e2)
    have en2 : En (z.add D (.lst acc)) H' (σ.set j (some x)) (es.set j (.val (items i))) := en0.set j (.val hx2)
    refine Ht _ i hi _ H' en2 a2 _ fun H3 e3 a3 => ?_
    have hD3 : H3 D = some (.lst acc) := a3.v (D, .lst acc) (List.mem_cons_self ..)
    cases hk : kb i with
    | false =>
      obtain ⟨n1, n2⟩ := hn i hi hk
      refine iteF ⟨up e2 e3, acc, hD3, by rw [n2]; exact a3, by rw [n1]; exact rA.mono e3⟩
    | true =>
      obtain ⟨y, hy, go⟩ := He (z.add D (.lst acc)) i hi hk
      refine iteT (go _ H3 (en2.mono e3) a3 _ fun v H4 e4 a4 v4 => ?_)
      have hD4 : H4 D = some (.lst acc) := a4.v (D, .lst acc) (List.mem_cons_self ..)
      have rA4 := (rA.mono e3).mono e4
      have la := rA4.length
      have := lA i (by omega)
      have far : ∀ (b : Addr) (u : HO), Fz (z.add D (.lst acc)) b → H4 b = some u → Fz (z.add D (.lst (acc ++ [v]))) b ∧ upd H4 D (.lst (acc ++ [v])) b = some u := fun b u fb hb => by
        obtain ⟨f1, f2⟩ := fb.of_add
        exact ⟨f1.to_add f2, by rw [upd_ne f2]; exact hb⟩
      refine ⟨acc, hD4, Nat.lt_of_lt_of_le (show acc.length < 100001 by omega) (by decide), ?_, acc ++ [v], upd_same, ⟨?_, ?_, ?_⟩, ?_⟩
      · intro b u fb hb
        rw [upd_ne (ne_of_none hb hD)]
        exact up (up e2 e3) e4 b u fb hb
      · intro b hb
        rw [upd_ne (fun e => a4.n (D, .lst acc) (List.mem_cons_self ..) (by rw [← e]; exact hb))]
        exact a4.d b hb
      · intro p hp
        rcases List.mem_cons.mp hp with e | e
        · rw [e]
          exact upd_same
        · have h1 := a1.v p e
          rw [upd_ne (ne_of_none h1 hD)]
          exact a4.v p (List.mem_cons_of_mem _ e)
      · intro p hp
        rcases List.mem_cons.mp hp with e | e
        · rw [e]
          exact a4.n (D, .lst acc) (List.mem_cons_self ..)
        · exact a4.n p (List.mem_cons_of_mem _ e)
      · rw [hy]
        exact (rA4.re far).app (.cons (v4.re far) .nil)
  · intro H' w
    obtain ⟨e2, acc, hDa, a2, rA⟩ := w
    have fD : Fz z D := a1.fresh hD
    exact hQ H' e2 ⟨a2.d, fun p hp => a2.v p (List.mem_cons_of_mem _ hp), fun p hp => a2.n p (List.mem_cons_of_mem _ hp)⟩ (.lst fD hDa (rA.re fun b u fb hb => ⟨fb.of_add.1, hb⟩))
theorem lc_read {te : TE} {tt : TT} {j : Nat} (hit : EV X z iter es s (.list ds) s1) (hl : ds.length ≤ 100000) (kb : Nat → Bool) (A : Nat → List PyData) (T U : Nat → S) (hA0 : A 0 = []) (t0 : T 0 = s1)
    (Ht : ∀ (z' : Z) (i : Nat) d, ds[i]? = some d → ∀ σ H, En z' H σ (es.set j (.val d)) → At z' H (T i) → ∀ Q : Bool → Hp → Prop, (∀ H2, Ez z' H H2 → At z' H2 (U i) → Q (kb i) H2) → tt σ H Q)
    (He : ∀ (z' : Z) (i : Nat) d, ds[i]? = some d → kb i = true → ∃ y, A (i + 1) = A i ++ [y] ∧ ∀ σ H, En z' H σ (es.set j (.val d)) → At z' H (U i) → ∀ Q : VK, (∀ v H2, Ez z' H H2 → At z' H2 (T (i + 1)) → Da z' H2 v y → Q v H2) → te σ H Q)
    (hn : ∀ (i : Nat) d, ds[i]? = some d → kb i = false → A (i + 1) = A i ∧ T (i + 1) = U i) :
    ∀ σ H, En z H σ es → At z H s → ∀ Q : VK, (∀ v H2, Ez z H H2 → At z H2 (T ds.length) → Da z H2 v (.list (A ds.length)) → Q v H2) → tLc (iList X.K (wE X iter)) (gName j) tt te [j] σ H Q := fun σ H en at_ Q q => by
  refine hit σ H en at_ _ fun v H1 e1 a1 v1 => ?_
  cases v1 with
  | @lst a xs _ fa ha r =>
    have hx : xs.length = ds.length := r.length
    have g : ∀ i, i < xs.length → ds[i]? = some (ds.getD i .none) := fun i hi => by
      rw [List.getD_eq_getElem?_getD, List.getElem?_eq_getElem (by omega)]
      rfl
    refine ⟨a, rfl, ⟨xs, .inl (.inl ha)⟩, fun D hD => ?_⟩
    refine lc_gen (walk_list (K := X.K) (a := a) (xs := xs)) T U (en.mono e1) (t0 ▸ a1) hD (fun i => ds.getD i .none) (fun H' e => .inl (.inl (e a _ fa ha))) (fun i x H' H2 hi hy => ⟨hy.1, ?_⟩) (by omega) kb A hA0 (fun z' i hi => Ht z' i _ (g i hi)) (fun z' i hi => He z' i _ (g i hi)) (fun i hi => hn i _ (g i hi)) (fun H' e a2 d2 => ?_)
    · obtain ⟨d, hd, hv⟩ := r.getV i x hy.2
      have := g i hi
      rw [hd] at this
      rw [← Option.some.inj this]
      exact hv
    · rw [hx] at a2 d2
      exact q _ H' (e1.trans e) a2 d2
/-- over the signs of a text -/
theorem lc_readS {te : TE} {tt : TT} {j : Nat} {t : Str} (hit : EV X z iter es s (.str t) s1) (hl : t.cps.size ≤ 100000) (kb : Nat → Bool) (A : Nat → List PyData) (T U : Nat → S) (hA0 : A 0 = []) (t0 : T 0 = s1)
    (Ht : ∀ (z' : Z) (i c : Nat), t.cps[i]? = some c → ∀ σ H, En z' H σ (es.set j (.val (.str ⟨#[c]⟩))) → At z' H (T i) → ∀ Q : Bool → Hp → Prop, (∀ H2, Ez z' H H2 → At z' H2 (U i) → Q (kb i) H2) → tt σ H Q)
    (He : ∀ (z' : Z) (i c : Nat), t.cps[i]? = some c → kb i = true → ∃ y, A (i + 1) = A i ++ [y] ∧ ∀ σ H, En z' H σ (es.set j (.val (.str ⟨#[c]⟩))) → At z' H (U i) → ∀ Q : VK, (∀ v H2, Ez z' H H2 → At z' H2 (T (i + 1)) → Da z' H2 v y → Q v H2) → te σ H Q)
    (hn : ∀ (i c : Nat), t.cps[i]? = some c → kb i = false → A (i + 1) = A i ∧ T (i + 1) = U i) :
    ∀ σ H, En z H σ es → At z H s → ∀ Q : VK, (∀ v H2, Ez z H H2 → At z H2 (T t.cps.size) → Da z H2 v (.list (A t.cps.size)) → Q v H2) → tLc (iStr (wE X iter)) (gName j) tt te [j] σ H Q := fun σ H en at_ Q q => by
  refine hit σ H en at_ _ fun v H1 e1 a1 v1 => ?_
  cases v1
  have g : ∀ i, i < t.cps.size → t.cps[i]? = some (t.cps.getD i 0) := fun i hi => by
    rw [Array.getD_eq_getD_getElem?, Array.getElem?_eq_getElem hi]
    rfl
  refine ⟨t, rfl, fun D hD => ?_⟩
  refine lc_gen (walk_str (z := t)) T U (en.mono e1) (t0 ▸ a1) hD (fun i => .str ⟨#[t.cps.getD i 0]⟩) (fun H' e => trivial) (fun i x H' H2 hi hy => ⟨hy.1, ?_⟩) hl kb A hA0 (fun z' i hi => Ht z' i _ (g i hi)) (fun z' i hi => He z' i _ (g i hi)) (fun i hi => hn i _ (g i hi)) (fun H' e a2 d2 => q _ H' (e1.trans e) a2 d2)
  obtain ⟨c, hc, rfl⟩ := hy.2
  have := g i hi
  rw [hc] at this
  rw [← Option.some.inj this]
  exact .str _
/-- in the block of a comprehension -/
abbrev Blk (X : Cx) (scope : Scope) (p : Cx → Prop) : Prop := ∀ (s0 : Shared) (H0 : Hp) (C : Addr) (cl : List (Str × Addr)) (fp : List Addr), p (X.blk s0 H0 scope (compEnvC scope cl C X.env) fp)
def tEl (X : Cx) (scope : Scope) (elt : Expr) : TE := fun σ H Q => ∀ (s0 : Shared) (H0 : Hp) (C : Addr) (cl : List (Str × Addr)) (fp : List Addr), wE (X.blk s0 H0 scope (compEnvC scope cl C X.env) fp) elt σ H Q
def tTs (X : Cx) (scope : Scope) (cond : Expr) : TT := fun σ H Q => ∀ (s0 : Shared) (H0 : Hp) (C : Addr) (cl : List (Str × Addr)) (fp : List Addr), wT (X.blk s0 H0 scope (compEnvC scope cl C X.env) fp) cond σ H Q
theorem tEl_ok {scope : Scope} (s0 : Shared) (H0 : Hp) (C : Addr) (cl : List (Str × Addr)) (fp : List Addr) : PE (X.blk s0 H0 scope (compEnvC scope cl C X.env) fp) elt (tEl X scope elt) := ⟨fun pins s σ H Q I h => wE_ok.run pins s σ H Q I (h s0 H0 C cl fp)⟩
theorem tTs_ok {scope : Scope} (s0 : Shared) (H0 : Hp) (C : Addr) (cl : List (Str × Addr)) (fp : List Addr) : PTs (X.blk s0 H0 scope (compEnvC scope cl C X.env) fp) [cond] (tTs X scope cond) := pts_one ⟨fun pins s σ H Q I h => wT_ok.run pins s σ H Q I (h s0 H0 C cl fp)⟩
theorem ev_lcIf {j : Nat} {x : Str} {scope : Scope} {p pos : Pos} (hc : X.calm = true) (hN : X.N.Nodup) (hit : EV X z iter es s (.list ds) s1) (hl : ds.length ≤ 100000) (kb : Nat → Bool) (A : Nat → List PyData) (T U : Nat → S) (hA0 : A 0 = []) (t0 : T 0 = s1)
    (hB : BlkOk X.N X.env.scope scope [(x, j)]) (hg : ∀ (s : Shared) (H : Hp) (C : Addr) (cl : List (Str × Addr)) (fp : List Addr), PG (X.blk s H scope (compEnvC scope cl C X.env) fp) (.Name x p) (gName j))
    (Ht : ∀ (z' : Z) (i : Nat) d, ds[i]? = some d → Blk X scope fun Y => ET Y z' cond (es.set j (.val d)) (T i) (kb i) (U i))
    (He : ∀ (i : Nat) d, ds[i]? = some d → kb i = true → ∃ y, A (i + 1) = A i ++ [y] ∧ ∀ z' : Z, Blk X scope fun Y => EV Y z' elt (es.set j (.val d)) (U i) y (T (i + 1)))
    (hn : ∀ (i : Nat) d, ds[i]? = some d → kb i = false → A (i + 1) = A i ∧ T (i + 1) = U i) (hs : ∀ x, foldedSetIterable iter X.env x = pure x := by intro _; rfl) :
    EV X z (.ListComp elt [{ target := .Name x p, iter := iter, ifs := [cond], is_async := 0 }] scope pos) es s (.list (A ds.length)) (T ds.length) :=
  .mk (pe_lc (own := [(x, j)]) hc hN (pi_list wE_ok) hB hg tTs_ok tEl_ok hs)
    (lc_read hit hl kb A T U hA0 t0 (fun z' i d hd σ H en at_ Q q s0 H0 C cl fp => Ht z' i d hd s0 H0 C cl fp σ H en at_ Q q)
      (fun z' i d hd hk => by
        obtain ⟨y, hy, go⟩ := He i d hd hk
        exact ⟨y, hy, fun σ H en at_ Q q s0 H0 C cl fp => go z' s0 H0 C cl fp σ H en at_ Q q⟩) hn)
/-- y = [.. if ..] -/
theorem sr_lcIf {j k : Nat} {x y : Str} {scope : Scope} {p py pos spos : Pos} {rest : List Stmt} {o : Out} (hc : X.calm = true) (hN : X.N.Nodup) (hit : EV X z iter es s (.list ds) s1) (hl : ds.length ≤ 100000) (kb : Nat → Bool) (A : Nat → List PyData) (T U : Nat → S) (hA0 : A 0 = []) (t0 : T 0 = s1)
    (hB : BlkOk X.N X.env.scope scope [(x, j)]) (hg : ∀ (s : Shared) (H : Hp) (C : Addr) (cl : List (Str × Addr)) (fp : List Addr), PG (X.blk s H scope (compEnvC scope cl C X.env) fp) (.Name x p) (gName j))
    (Ht : ∀ (z' : Z) (i : Nat) d, ds[i]? = some d → Blk X scope fun Y => ET Y z' cond (es.set j (.val d)) (T i) (kb i) (U i))
    (He : ∀ (i : Nat) d, ds[i]? = some d → kb i = true → ∃ y, A (i + 1) = A i ++ [y] ∧ ∀ z' : Z, Blk X scope fun Y => EV Y z' elt (es.set j (.val d)) (U i) y (T (i + 1)))
    (hn : ∀ (i : Nat) d, ds[i]? = some d → kb i = false → A (i + 1) = A i ∧ T (i + 1) = U i) (kk : SR X z rest (es.set k (.val (.list (A ds.length)))) (T ds.length) o)
    (hi : X.N[k]? = some y := by rfl) (hy : List.lookup y X.env.scope.names = some NameKind.local := by rfl)
    (hsw : swapsWith (.ListComp elt [{ target := .Name x p, iter := iter, ifs := [cond], is_async := 0 }] scope pos) (some (.Name y py)) spos.line X.env = pure true := by exact sw_true rfl rfl rfl (by decide +kernel)) (hs : ∀ x, foldedSetIterable iter X.env x = pure x := by intro _; rfl) :
    SR X z (.Assign [.Name y py] (.ListComp elt [{ target := .Name x p, iter := iter, ifs := [cond], is_async := 0 }] scope pos) spos :: rest) es s o := fun σ H en at_ D q =>
  ⟨_, pss_cons (ps_setLc (i := k) (own := [(x, j)]) hc hN hi hy hsw (pi_list wE_ok) hB hg tTs_ok tEl_ok hs) wB_ok, by
    show tLc (iList X.K (wE X iter)) (gName j) (tTs X scope cond) (tEl X scope elt) [j] σ H (fun v H1 => wB X rest D (σ.set k (some v)) H1)
    exact lc_read hit hl kb A T U hA0 t0 (fun z' i d hd σ H en at_ Q q s0 H0 C cl fp => Ht z' i d hd s0 H0 C cl fp σ H en at_ Q q)
      (fun z' i d hd hk => by
        obtain ⟨y, hy, go⟩ := He i d hd hk
        exact ⟨y, hy, fun σ H en at_ Q q s0 H0 C cl fp => go z' s0 H0 C cl fp σ H en at_ Q q⟩) hn σ H en at_ _ fun v H2 e2 a2 v2 => kk _ H2 ((en.mono e2).set k (.val v2)) a2 D (q.mono e2)⟩
theorem ev_lcStr {j : Nat} {t : Str} {x : Str} {scope : Scope} {p pos : Pos} (hc : X.calm = true) (hN : X.N.Nodup) (hit : EV X z iter es s (.str t) s) (hl : t.cps.size ≤ 100000) (f : Nat → PyData)
    (hB : BlkOk X.N X.env.scope scope [(x, j)]) (hg : ∀ (s : Shared) (H : Hp) (C : Addr) (cl : List (Str × Addr)) (fp : List Addr), PG (X.blk s H scope (compEnvC scope cl C X.env) fp) (.Name x p) (gName j))
    (He : ∀ (c : Nat), ∀ z' : Z, Blk X scope fun Y => EV Y z' elt (es.set j (.val (.str ⟨#[c]⟩))) s (f c) s) (hs : ∀ x, foldedSetIterable iter X.env x = pure x := by intro _; rfl) :
    EV X z (.ListComp elt [{ target := .Name x p, iter := iter, ifs := [], is_async := 0 }] scope pos) es s (.list (t.cps.toList.map f)) s :=
  .mk (pe_lc (own := [(x, j)]) hc hN (pi_str wE_ok) hB hg (fun _ _ _ _ _ => pts_nil) tEl_ok hs) (by
    have g := lc_readS (X := X) (te := tEl X scope elt) (tt := tYes) (j := j) hit hl (fun _ => true) (fun i => (t.cps.toList.take i).map f) (fun _ => s) (fun _ => s) rfl rfl (fun z' i c hc σ H en at_ Q q => q H (.refl H) at_)
      (fun z' i c hc _ => ⟨f c, by rw [List.take_add_one, List.map_append, Array.getElem?_toList, hc]; rfl, fun σ H en at_ Q q s0 H0 C cl fp => He c z' s0 H0 C cl fp σ H en at_ Q q⟩) (fun i c _ h => by cases h)
    rw [show (t.cps.toList.take t.cps.size) = t.cps.toList from List.take_of_length_le (by simp)] at g
    exact g)
theorem rb_all {bs : List Bool} {K : PySem.W.Frag} : RB z s (rAll K) [.list (bs.map .bool)] (.bool (bs.all id)) := fun vs H at_ h Q q => by
  cases h with
  | cons h r =>
    cases r
    cases h with
    | lst n e r =>
      have : ∀ {xs : List V} {bs : List Bool}, DaAll z H xs (bs.map .bool) → xs = bs.map V.bl := by
        intro xs bs
        induction bs generalizing xs with
        | nil => intro h; cases h; rfl
        | cons b bs ih =>
          intro h
          cases h with
          | cons h r =>
            cases h
            rw [ih r]
            rfl
      rw [this r] at e
      exact ⟨_, bs, rfl, .inl (.inl e), q _ H (.refl H) at_ (.bl _)⟩
end
end DL


set_option Elab.async false
set_option linter.all false
set_option maxRecDepth 100000
set_option exponentiation.threshold 3000
namespace K1
open PySem PySem.Spec PyProof.Rows L2 DL
def letterOk (c : Nat) : Bool := (!decide (([c] : List Nat) < [97])) && (!decide (([122] : List Nat) < [c]))
def nameD : PyData → Bool
  | .str x => decide (1 ≤ x.length) && decide (x.length ≤ 8) && (TL.tl x).all letterOk
  | _ => false
structure Top3 (mg : Str → Option Value) : Prop where
  name : ∃ t, mg "MAX_NAME" = some (.int 8 t)
  min : mg "min" = none
  max : mg "max" = none
section
variable {X : Cx} {z : Z} {es : List Sl} {s s1 s2 s3 : S} {a b c : Expr} {pos : Pos} {d : PyData}
theorem ev_chainS {x y w : Str} (ha : EV X z a es s (.str x) s1) (hb : EV X z b es s1 (.str y) s2) (hc : EV X z c es s2 (.str w) s2) (hm : lastMarks [.LtE, .LtE] [b, c] = false := by with_unfolding_all rfl) :
    EV X z (.Compare a [.LtE, .LtE] [b, c] pos) es s (.bool ((!decide (y.cps.toList < x.cps.toList)) && (!decide (w.cps.toList < y.cps.toList)))) s2 :=
  .mk (pe_chain op_le_str op_le_str wE_ok wE_ok wE_ok hm) fun σ H en at_ Q q => ha σ H en at_ _ fun x' H1 e1 a1 x1 => hb σ H1 (en.mono e1) a1 _ fun y' H2 e2 a2 y2 => by
    cases x1
    cases y2
    refine ⟨x, y, rfl, rfl, (!decide (y.cps.toList < x.cps.toList)), rfl, ?_⟩
    cases hk : (!decide (y.cps.toList < x.cps.toList)) with
    | true =>
      refine iteT (hc σ H2 (en.mono (e1.trans e2)) a2 _ fun w H3 e3 a3 w3 => ?_)
      cases w3
      exact ⟨y, _, rfl, rfl, by rw [hk] at q; exact q _ H3 ((e1.trans e2).trans e3) a3 (.bl _)⟩
    | false => exact iteF (by rw [hk] at q; exact q _ H2 (e1.trans e2) a2 (.bl _))
theorem et_chainI {i j l : Int} (ha : EV X z a es s (.int i) s1) (hb : EV X z b es s1 (.int j) s2) (hc : EV X z c es s2 (.int l) s2) (hm : lastMarks [.LtE, .LtE] [b, c] = false := by with_unfolding_all rfl) : ET X z (.Compare a [.LtE, .LtE] [b, c] pos) es s (decide (i ≤ j) && decide (j ≤ l)) s2 :=
  fun σ H en at_ Q q => ⟨_, pt_chain op_le op_le wE_ok wE_ok wE_ok hm, ha σ H en at_ _ fun x H1 e1 a1 x1 => hb σ H1 (en.mono e1) a1 _ fun y H2 e2 a2 y2 => by
    cases x1
    cases y2
    refine ⟨i, j, rfl, rfl, decide (i ≤ j), rfl, ?_⟩
    cases hk : decide (i ≤ j) with
    | true =>
      refine iteT (hc σ H2 (en.mono (e1.trans e2)) a2 _ fun w H3 e3 a3 w3 => ?_)
      cases w3
      exact ⟨j, l, rfl, rfl, _, rfl, by rw [hk] at q; exact q H3 ((e1.trans e2).trans e3) a3⟩
    | false => exact iteF ⟨false, rfl, by rw [hk] at q; exact q H2 (e1.trans e2) a2⟩⟩
end
section
variable {P : Program} {w : World} {K : PySem.W.Frag} {mg : Str → Option Value} {base : Heap} {f : Addr} {fd : FuncData}
abbrev sName : Stmt := top 15
theorem scName : FnScope ["value", "letter"] ["value"] (defScope sName) := ⟨rfl, rfl, rfl, by decide +kernel, rfl, by decide +kernel, by decide +kernel⟩
def rName : Rel := fun as s d s' => ∃ v, as = [.val v] ∧ (∀ x, v = .str x → x.length ≤ 1000) ∧ d = .bool (nameD v) ∧ s' = s
theorem ok_name (F : Fun K "is_name" "is_name" sName f fd) (T : Top mg) (T3 : Top3 mg) : FnOk P w K mg base CX0 1 f fd ["value"] (spD rName) := by
  refine okD F scName (by rintro _ _ _ _ ⟨v, rfl, _⟩; rfl) fun cdv A outer s0 H0 E C z as s₁ d s h => ?_
  obtain ⟨v, rfl, hv, rfl, rfl⟩ := h
  obtain ⟨tn, hn⟩ := T3.name
  have bad : (∀ x, v ≠ .str x) → nameD v = false → SR (cxOf CX0 P w K mg base ["value", "letter"] "is_name" (defScope sName) f cdv A outer s0 H0 E).nox z (defBody sName) [.val v, .un] s (.rt (.bool (nameD v)) s) := fun h1 h2 => by
    rw [h2]
    exact sr_ifT (et_w (ew_orT (et_notT (et_val (ev_isi T.isi T.str (ev_var 0) (by rw [k_str]; cases v <;> first | rfl | exact absurd rfl (h1 _))))))) (sr_ret ev_bl)
  match v, bad, hv with
  | .none, bad, _ => exact bad (fun x h => by cases h) rfl
  | .bool _, bad, _ => exact bad (fun x h => by cases h) rfl
  | .int _, bad, _ => exact bad (fun x h => by cases h) rfl
  | .list _, bad, _ => exact bad (fun x h => by cases h) rfl
  | .tuple _, bad, _ => exact bad (fun x h => by cases h) rfl
  | .dict _, bad, _ => exact bad (fun x h => by cases h) rfl
  | .str x, _, hv =>
    have hx := hv x rfl
    have hL : (100000 : Nat) ≤ sizeLine := by decide
    have ch : ET (cxOf CX0 P w K mg base ["value", "letter"] "is_name" (defScope sName) f cdv A outer s0 H0 E).nox z
        (match (defBody sName)[0]? with | some (Stmt.If (Expr.BoolOp _ (_ :: Expr.UnaryOp _ e _ :: _) _) _ _ _) => e | _ => .Constant .none 0 ⟨0, 0, 0, 0⟩) [.val (.str x), .un] s (decide ((1 : Int) ≤ (x.length : Int)) && decide ((x.length : Int) ≤ 8)) s :=
      et_chainI ev_int (ev_bltn call_len (rb_lenS (by omega)) T.len (ed_cons (ev_var 0) ed_nil)) (ev_glob rfl hn ⟨tn, rfl⟩)
    have e1 : (decide ((1 : Int) ≤ (x.length : Int)) && decide ((x.length : Int) ≤ 8)) = (decide (1 ≤ x.length) && decide (x.length ≤ 8)) := by
      rw [Bool.eq_iff_iff]
      simp only [Bool.and_eq_true, decide_eq_true_eq]
      omega
    rw [e1] at ch
    show SR _ _ _ _ _ (.rt (.bool (decide (1 ≤ x.length) && decide (x.length ≤ 8) && (TL.tl x).all letterOk)) _)
    cases hk : (decide (1 ≤ x.length) && decide (x.length ≤ 8)) with
    | false =>
      rw [hk] at ch
      exact sr_ifT (et_w (ew_orF (et_notF (et_val (ev_isi T.isi T.str (ev_var 0) (k_str (.str x))))) (ew_or1 (et_notT ch)))) (sr_ret ev_bl)
    | true =>
      rw [hk] at ch
      refine sr_ifF (et_w (ew_orF (et_notF (et_val (ev_isi T.isi T.str (ev_var 0) (k_str (.str x))))) (ew_or1 (et_notF ch)))) (sr_ret ?_)
      have hsz : x.cps.size ≤ 100000 := by
        have : x.length = x.cps.size := rfl
        omega
      have e2 : (TL.tl x).map (fun c => PyData.bool (letterOk c)) = ((TL.tl x).map letterOk).map PyData.bool := by rw [List.map_map]; rfl
      have e3 : ((TL.tl x).map letterOk).all id = (TL.tl x).all letterOk := by rw [List.all_map]; rfl
      refine EV.is (ev_bltn (cr_all C.calm) (rb_all (bs := (TL.tl x).map letterOk)) T.all (ed_cons (EV.is (ev_lcStr (j := 1) C.calm C.nd (ev_var 0) hsz (fun c => .bool (letterOk c)) (blkOk_by (N := ["value", "letter"]) (sc := defScope sName) (own := [("letter", 1)]) (by decide +kernel)) (fun _ _ _ _ _ => pg_name C.nd rfl (Or.inl rfl))
        (fun c z' s0 H0 C' cl fp => ?_)) ?_) ed_nil)) ?_
      · exact EV.is (ev_chainS ev_str (ev_var 1) ev_str) rfl
      · rw [← e2]
      · show PyData.bool (((TL.tl x).map letterOk).all id) = .bool (true && (TL.tl x).all letterOk)
        rw [e3]
        rfl
/-! ### texts -/
abbrev sTexts : Stmt := top 55
theorem scTexts : FnScope ["_law_dice_here", "_law_one", "_law_first", "_law_text_here", "_law_top", "_law_low"] ["_law_dice_here"] (defScope sTexts) := ⟨rfl, rfl, rfl, by decide +kernel, rfl, by decide +kernel, by decide +kernel⟩
def topL : List Int := [6, 30, 301]
def botL : List Int := [6, 30, 60]
def tS1 (s : S) : S := rollS (drawnS s) 3
def tS2 (s : S) : S := rollS (tS1 s) (pickI (drawnS s) topL)
def tS3 (s : S) : S := rollS (tS2 s) 3
def tS4 (s : S) : S := rollS (tS3 s) (pickI (tS2 s) botL)
def rTexts : Rel := fun as s d s' => as = [.dice] ∧ d = .bool true ∧ s' = tS4 s
theorem topL_bd (s : S) : 6 ≤ pickI s topL ∧ pickI s topL ≤ 301 := by
  have h := pickI_mem s (l := topL) (by decide)
  simp only [topL, List.mem_cons, List.not_mem_nil, or_false] at h
  rcases h with e | e | e <;> rw [show pickI s topL = _ from e] <;> decide
theorem botL_bd (s : S) : 6 ≤ pickI s botL ∧ pickI s botL ≤ 60 := by
  have h := pickI_mem s (l := botL) (by decide)
  simp only [botL, List.mem_cons, List.not_mem_nil, or_false] at h
  rcases h with e | e | e <;> rw [show pickI s botL = _ from e] <;> decide
theorem ok_texts (F : Fun K "_law_texts_right" "_law_texts_right" sTexts f fd) (Gd : Dn P w K mg base 3 "_law_nm_drawn" rDrawn) (Gp : Dn P w K mg base 1 "_law_nm_pair" rPair) (Lx : Dn P w K mg base 1 "_law_text" rLText)
    (Gx : Dn P w K mg base 5 "number_text" rNText) (Gy : Dn P w K mg base 7 "number_of_text" rNOf) (Gr : Dn P w K mg base 1 "_law_roll" rRoll) (Gk : Dn P w K mg base 2 "_law_pick" rPick)
    (Gf : Dn P w K mg base 3 "factorial" rFact) (Lf : Dn P w K mg base 1 "_law_factorial" rFact) (Gb : Dn P w K mg base 3 "binomial" rBinom) (Lb : Dn P w K mg base 1 "_law_binomial" rLBin) : FnOk P w K mg base CX0 8 f fd ["_law_dice_here"] (spD rTexts) := by
  refine okD F scTexts (by rintro _ _ _ _ ⟨rfl, _⟩; rfl) fun cdv A outer s0 H0 E C z as s d s' h => ?_
  obtain ⟨rfl, rfl, rfl⟩ := h
  obtain ⟨t, b, hv, ht, hb⟩ := drawn_nm s
  generalize ev : drawnV s = v at *
  have hb1 := hv.pos
  have hc := hv.cop
  have r1 : Room 1 (cxOf CX0 P w K mg base ["_law_dice_here", "_law_one", "_law_first", "_law_text_here", "_law_top", "_law_low"] "_law_texts_right" (defScope sTexts) f cdv A outer s0 H0 E).nox.A := C.hr.mono (by decide)
  have r2 := C.hr.mono (show 2 ≤ 7 by decide)
  have r3 := C.hr.mono (show 3 ≤ 7 by decide)
  have r5 := C.hr.mono (show 5 ≤ 7 by decide)
  have t15 := ht.mono (show 240 ≤ 1500 by decide)
  have b15 := hb.mono (show 240 ≤ 1500 by decide)
  refine sr_asg 1 C.nd (EV.is (ev_call Gd r3 (ea_dice 0 ea_nil) ⟨rfl, rfl, rfl⟩) ev) ?_
  refine sr_asg (d := prD t b) 2 C.nd (ev_call Gp r1 (ea_cons (ev_var 1) ea_nil) ⟨_, _, _, rfl, hv, rfl, rfl⟩) ?_
  refine sr_asg (d := .str (ntx t b)) 3 C.nd (ev_call Lx r1 (ea_cons (ev_var 2) ea_nil) ⟨_, _, rfl, t15, b15, rfl, rfl⟩) ?_
  have px : Pl (.str (ntx t b)) := pl_str (ntx_small t b)
  refine sr_ifF (et_w (ew_orF (et_neS C.hu px (ev_call Gx r5 (ea_cons (ev_var 1) ea_nil) ⟨_, _, _, rfl, hv, t15, b15, rfl, rfl⟩) (ev_var 3)) (ew_orF (et_neS C.hu px (ev_call Gx r5 (ea_cons (ev_var 2) ea_nil) ⟨_, _, _, rfl, hv.pair, t15, b15, rfl, rfl⟩) (ev_var 3))
    (ew_or1 (et_neS C.hu (d := prD t b) pl_fr (ev_call Gy C.hr (ea_cons (ev_var 3) ea_nil) ⟨_, _, rfl, hb1, hc, ht.mono (by decide), hb.mono (by decide), rfl, rfl⟩) (ev_var 2)))))) ?_
  have p1 := topL_bd (drawnS s)
  have p2 := botL_bd (tS2 s)
  have q1 := roll_bd (tS1 s) (n := pickI (drawnS s) topL) (by omega)
  have q2 := roll_bd (tS3 s) (n := pickI (tS2 s) botL) (by omega)
  refine sr_par (d1 := .int (rollV (tS1 s) (pickI (drawnS s) topL))) (d2 := .int (rollV (tS3 s) (pickI (tS2 s) botL))) (s1 := tS4 s) 4 5 C.calm C.nd
    (ed_cons (s1 := tS2 s) (ev_call Gr r1 (ea_dice 0 (ea_cons (EV.st (s1 := tS1 s) (ev_call Gk r2 (ea_dice 0 (ea_cons (ev_lst (ed_cons ev_int (ed_cons ev_int (ed_cons ev_int ed_nil)))) ea_nil)) ⟨topL.map .int, rfl, by decide, by decide, (pick_int (drawnS s) (by decide)).symm, rfl⟩) rfl) ea_nil)) ⟨pickI (drawnS s) topL, rfl, by omega, Bd.mono (n := 20) (by unfold Bd; omega) (by decide), rfl, rfl⟩)
    (ed_cons (s1 := tS4 s) (ev_call Gr r1 (ea_dice 0 (ea_cons (EV.st (s1 := tS3 s) (ev_call Gk r2 (ea_dice 0 (ea_cons (ev_lst (ed_cons ev_int (ed_cons ev_int (ed_cons ev_int ed_nil)))) ea_nil)) ⟨botL.map .int, rfl, by decide, by decide, (pick_int (tS2 s) (by decide)).symm, rfl⟩) rfl) ea_nil)) ⟨pickI (tS2 s) botL, rfl, by omega, Bd.mono (n := 20) (by unfold Bd; omega) (by decide), rfl, rfl⟩) ed_nil)) ?_
  obtain ⟨n, hn⟩ : ∃ n : Nat, rollV (tS1 s) (pickI (drawnS s) topL) = (n : Int) := ⟨_, (Int.toNat_of_nonneg q1.1).symm⟩
  obtain ⟨k, hk⟩ : ∃ k : Nat, rollV (tS3 s) (pickI (tS2 s) botL) = (k : Int) := ⟨_, (Int.toNat_of_nonneg q2.1).symm⟩
  rw [hn] at q1 ⊢
  rw [hk] at q2 ⊢
  refine sr_ret (ev_andT (ev_eqS C.hu (d := .int (fct n)) pl_int (ev_call Gf r3 (ea_cons (ev_var 4) ea_nil) ⟨n, rfl, by omega, rfl, rfl⟩) (ev_call Lf r1 (ea_cons (ev_var 4) ea_nil) ⟨n, rfl, by omega, rfl, rfl⟩)) (ev_b1 (ev_eqS C.hu (d := .int (combV n k)) pl_int (ev_call Gb r3 (ea_cons (ev_var 4) (ea_cons (ev_var 5) ea_nil)) ⟨n, k, rfl, by omega, by omega, by omega, by omega, comb_log (by omega), rfl, rfl⟩) ?_)))
  by_cases h0 : k ≤ n
  · exact ev_ifT (ET.is (et_le (ev_var 5) (ev_var 4)) (decide_eq_true (by omega))) (EV.is (ev_call Lb r1 (ea_cons (ev_var 4) (ea_cons (ev_var 5) ea_nil)) ⟨n, k, rfl, by omega, h0, rfl, rfl⟩) (by rw [comb_ch h0]))
  · exact ev_ifF (ET.is (et_le (ev_var 5) (ev_var 4)) (decide_eq_false (by omega))) (EV.is ev_int (by unfold combV; rw [if_pos (by omega)]))
end
end K1


set_option Elab.async false
set_option linter.all false
set_option maxRecDepth 100000
set_option exponentiation.threshold 3000
namespace K1
open PySem PySem.Spec PyProof.Rows L2 DL
section
variable {X : Cx} {z : Z} {es : List Sl} {s s1 s2 : S} {iter elt cond : Expr} {ds : List PyData}
/-- [x for x in xs if c] where c holds of none -/
theorem ev_lcNone {j : Nat} {x : Str} {scope : Scope} {p pos : Pos} (hc : X.calm = true) (hN : X.N.Nodup) (hit : EV X z iter es s (.list ds) s) (hl : ds.length ≤ 100000) (hB : BlkOk X.N X.env.scope scope [(x, j)])
    (hg : ∀ (s : Shared) (H : Hp) (C : Addr) (cl : List (Str × Addr)) (fp : List Addr), PG (X.blk s H scope (compEnvC scope cl C X.env) fp) (.Name x p) (gName j))
    (Ht : ∀ d ∈ ds, ∀ z' : Z, Blk X scope fun Y => ET Y z' cond (es.set j (.val d)) s false s) (hs : ∀ x, foldedSetIterable iter X.env x = pure x := by intro _; rfl) :
    EV X z (.ListComp elt [{ target := .Name x p, iter := iter, ifs := [cond], is_async := 0 }] scope pos) es s (.list []) s :=
  ev_lcIf hc hN hit hl (fun _ => false) (fun _ => []) (fun _ => s) (fun _ => s) rfl rfl hB hg (fun z' i d hd => Ht d (List.mem_of_getElem? hd) z') (fun i d hd h => by cases h) (fun i d hd _ => ⟨rfl, rfl⟩) hs
theorem sr_lcNone {j k : Nat} {x y : Str} {scope : Scope} {p py pos spos : Pos} {rest : List Stmt} {o : Out} (hc : X.calm = true) (hN : X.N.Nodup) (hit : EV X z iter es s (.list ds) s) (hl : ds.length ≤ 100000) (hB : BlkOk X.N X.env.scope scope [(x, j)])
    (hg : ∀ (s : Shared) (H : Hp) (C : Addr) (cl : List (Str × Addr)) (fp : List Addr), PG (X.blk s H scope (compEnvC scope cl C X.env) fp) (.Name x p) (gName j))
    (Ht : ∀ d ∈ ds, ∀ z' : Z, Blk X scope fun Y => ET Y z' cond (es.set j (.val d)) s false s) (kk : SR X z rest (es.set k (.val (.list []))) s o) (hi : X.N[k]? = some y := by rfl) (hy : List.lookup y X.env.scope.names = some NameKind.local := by rfl)
    (hsw : swapsWith (.ListComp elt [{ target := .Name x p, iter := iter, ifs := [cond], is_async := 0 }] scope pos) (some (.Name y py)) spos.line X.env = pure true := by exact sw_true rfl rfl rfl (by decide +kernel)) (hs : ∀ x, foldedSetIterable iter X.env x = pure x := by intro _; rfl) :
    SR X z (.Assign [.Name y py] (.ListComp elt [{ target := .Name x p, iter := iter, ifs := [cond], is_async := 0 }] scope pos) spos :: rest) es s o :=
  sr_lcIf (k := k) hc hN hit hl (fun _ => false) (fun _ => []) (fun _ => s) (fun _ => s) rfl rfl hB hg (fun z' i d hd => Ht d (List.mem_of_getElem? hd) z') (fun i d hd h => by cases h) (fun i d hd _ => ⟨rfl, rfl⟩) kk hi hy hsw hs
theorem ev_call0 {k : Nat} {x : Str} {R : Rel} {p pos : Pos} {d : PyData} (G : Dn X.prog X.w X.K X.mg X.base k x R) (hr : Room k X.A) (hR : R [] s d s1) (hg : Gl X x := by rfl) (hdb : (x == ("__debug__" : Str)) = false := by decide) : EV X z (.Call (.Name x p) [] [] pos) es s d s1 := by
  obtain ⟨f, fd, ps, F, hm, hk, hb⟩ := G
  refine .mk (pe_call0 F hr hg hm hk hb .nil pass0 hdb) fun σ H en at_ Q q => ?_
  exact ⟨z, [], s, d, s1, hR, .nil, at_, fun v H' e2 a2 v2 => q v H' e2 a2 v2⟩
end
theorem all_of {p : PyData → Bool} {ds : List PyData} (h : ds.all p = true) : ∀ d ∈ ds, p d = true := fun d hd => List.all_eq_true.mp h d hd
section
variable {P : Program} {w : World} {K : PySem.W.Frag} {mg : Str → Option Value} {base : Heap} {f : Addr} {fd : FuncData}
def N8 : List Str := ["_law_some", "_law_odd", "_law_good", "_law_bad", "_law_wrong", "_law_names", "_law_name", "_law_value"]
abbrev sJudged : Stmt := top 56
theorem scJudged : FnScope ["_law_some", "_law_odd", "_law_good", "_law_bad", "_law_wrong", "_law_names", "_law_name", "_law_value"] [] (defScope sJudged) := ⟨rfl, rfl, rfl, by decide +kernel, rfl, by decide +kernel, by decide +kernel⟩
def rTrue0 : Rel := fun as s d s' => as = [] ∧ d = .bool true ∧ s' = s
abbrev m60 : Int := 10 ^ (60 : Int).toNat
def someL : List PyData := [.int 0, .int (-5), .int (m60 - 1), .int (1 - m60)]
def oddL : List PyData := [.none, .bool true, .str "5", .tuple [.int 5], .int m60, .int (0 - m60), .list [.int 5], .dict []]
def goodL : List PyData := [.tuple [.int 0, .int 1], .tuple [.int 1, .int 2], .tuple [.int (-3), .int 2], .tuple [.int (m60 * 10 ^ (20 : Int).toNat), .int 3], .tuple [.int 7, .int (m60 * 10 ^ (15 : Int).toNat)], .tuple [.int m60, .int 1]]
def badL : List PyData := [.none, .tuple [.int 2, .int 4], .tuple [.int 0, .int 2], .tuple [.int 1, .int (-2)], .tuple [.int 1, .int 0], .tuple [.int 1], .tuple [.int 1, .int 2, .int 3], .list [.int 1, .int 2], .tuple [.bool true, .int 2], .tuple [.int 1, .bool true], .tuple [.str "1", .int 2], .tuple [.tuple [.int 1, .int 2], .int 3], .str "1/2"]
def wrongL : List PyData := [.str "", .str "abcdefghi", .str "A", .str "a1", .str "a b", .none, .int 5, .tuple [.str "a"], .list [.str "a"], .str "a_"]
theorem b60 : Bd 300 m60 := by
  unfold Bd
  decide
theorem ok_judged (F : Fun K "_law_judged_right" "_law_judged_right" sJudged f fd) (G1 : Dn P w K mg base 2 "is_integer" rInteger) (G2 : Dn P w K mg base 3 "is_number" rNumber) (G3 : Dn P w K mg base 2 "is_fraction" rFrac) (G4 : Dn P w K mg base 1 "is_name" rName) : FnOk P w K mg base CX0 4 f fd [] (spD rTrue0) := by
  refine okD F scJudged (by rintro _ _ _ _ ⟨rfl, _⟩; rfl) fun cdv A outer s0 H0 E C z as s₁ d s h => ?_
  obtain ⟨rfl, rfl, rfl⟩ := h
  have pw : ∀ {j : Int}, 0 ≤ j → j ≤ 100 → CPow 10 j := fun a b => cpow10 a b
  have pe : Pl (.list []) := ⟨rfl, rfl⟩
  have B20 : Bd 300 ((10 : Int) ^ (20 : Int).toNat) := by unfold Bd; decide
  have B15 : Bd 300 ((10 : Int) ^ (15 : Int).toNat) := by unfold Bd; decide
  refine sr_asg (d := .list someL) 0 C.nd (ev_lst (ed_cons ev_int (ed_cons (ev_neg ev_int) (ed_cons (ev_sub (ev_pow (pw (by decide) (by decide)) ev_int ev_int) ev_int) (ed_cons (ev_sub ev_int (ev_pow (pw (by decide) (by decide)) ev_int ev_int)) ed_nil))))) ?_
  refine sr_asg (d := .list oddL) 1 C.nd (ev_lst (ed_cons ev_non (ed_cons ev_bl (ed_cons ev_str (ed_cons (ev_tup (ed_cons ev_int ed_nil)) (ed_cons (ev_pow (pw (by decide) (by decide)) ev_int ev_int) (ed_cons (ev_sub ev_int (ev_pow (pw (by decide) (by decide)) ev_int ev_int)) (ed_cons (ev_lst (ed_cons ev_int ed_nil)) (ed_cons ev_emptyDict ed_nil))))))))) ?_
  have h1 := all_of (show someL.all (fun d => intg d && num d) = true by decide +kernel)
  have h2 := all_of (show oddL.all (fun d => !(intg d) && !(num d)) = true by decide +kernel)
  have h3 := all_of (show goodL.all (fun d => frac d && num d) = true by decide +kernel)
  have h4 := all_of (show badL.all (fun d => !(frac d) && !(num d)) = true by decide +kernel)
  refine sr_ifF (et_neS C.hu pe (ev_lcNone (j := 7) C.calm C.nd (ev_var 0) (by decide) (blkOk_by (N := N8) (sc := defScope sJudged) (own := [("_law_value", 7)]) (by decide +kernel)) (fun _ _ _ _ _ => pg_name C.nd rfl (Or.inl rfl)) (fun d hd z' s0 H0 C' cl fp => ?_)) (ev_lst ed_nil)) ?_
  · have hh := h1 d hd
    rw [Bool.and_eq_true] at hh
    exact et_w (ew_orF (et_notF (et_val (ev_call G1 (C.hr.mono (by decide)) (ea_cons (ev_var 7) ea_nil) ⟨_, rfl, by rw [hh.1], rfl⟩))) (ew_or1 (et_notF (et_val (ev_call G2 (C.hr.mono (by decide)) (ea_cons (ev_var 7) ea_nil) ⟨_, rfl, by rw [hh.2], rfl⟩)))))
  refine sr_ifF (et_neS C.hu pe (ev_lcNone (j := 7) C.calm C.nd (ev_var 1) (by decide) (blkOk_by (N := N8) (sc := defScope sJudged) (own := [("_law_value", 7)]) (by decide +kernel)) (fun _ _ _ _ _ => pg_name C.nd rfl (Or.inl rfl)) (fun d hd z' s0 H0 C' cl fp => ?_)) (ev_lst ed_nil)) ?_
  · have hh := h2 d hd
    rw [Bool.and_eq_true, Bool.not_eq_true', Bool.not_eq_true'] at hh
    exact et_w (ew_orF (et_val (ev_call G1 (C.hr.mono (by decide)) (ea_cons (ev_var 7) ea_nil) ⟨_, rfl, by rw [hh.1], rfl⟩)) (ew_or1 (et_val (ev_call G2 (C.hr.mono (by decide)) (ea_cons (ev_var 7) ea_nil) ⟨_, rfl, by rw [hh.2], rfl⟩))))
  refine sr_asg (d := .list goodL) 2 C.nd (ev_lst (ed_cons (ev_tup (ed_cons ev_int (ed_cons ev_int ed_nil))) (ed_cons (ev_tup (ed_cons ev_int (ed_cons ev_int ed_nil))) (ed_cons (ev_tup (ed_cons (ev_neg ev_int) (ed_cons ev_int ed_nil))) (ed_cons (ev_tup (ed_cons (ev_mul (b60.cmul B20) (ev_pow (pw (by decide) (by decide)) ev_int ev_int) (ev_pow (pw (by decide) (by decide)) ev_int ev_int)) (ed_cons ev_int ed_nil)))
    (ed_cons (ev_tup (ed_cons ev_int (ed_cons (ev_mul (b60.cmul B15) (ev_pow (pw (by decide) (by decide)) ev_int ev_int) (ev_pow (pw (by decide) (by decide)) ev_int ev_int)) ed_nil))) (ed_cons (ev_tup (ed_cons (ev_pow (pw (by decide) (by decide)) ev_int ev_int) (ed_cons ev_int ed_nil))) ed_nil))))))) ?_
  refine sr_asg (d := .list badL) 3 C.nd (ev_lst (ed_cons ev_non (ed_cons (ev_tup (ed_cons ev_int (ed_cons ev_int ed_nil))) (ed_cons (ev_tup (ed_cons ev_int (ed_cons ev_int ed_nil))) (ed_cons (ev_tup (ed_cons ev_int (ed_cons (ev_neg ev_int) ed_nil))) (ed_cons (ev_tup (ed_cons ev_int (ed_cons ev_int ed_nil))) (ed_cons (ev_tup (ed_cons ev_int ed_nil))
    (ed_cons (ev_tup (ed_cons ev_int (ed_cons ev_int (ed_cons ev_int ed_nil)))) (ed_cons (ev_lst (ed_cons ev_int (ed_cons ev_int ed_nil))) (ed_cons (ev_tup (ed_cons ev_bl (ed_cons ev_int ed_nil))) (ed_cons (ev_tup (ed_cons ev_int (ed_cons ev_bl ed_nil))) (ed_cons (ev_tup (ed_cons ev_str (ed_cons ev_int ed_nil)))
    (ed_cons (ev_tup (ed_cons (ev_tup (ed_cons ev_int (ed_cons ev_int ed_nil))) (ed_cons ev_int ed_nil))) (ed_cons ev_str ed_nil)))))))))))))) ?_
  refine sr_ifF (et_w (ew_orF (et_neS C.hu pe (ev_lcNone (j := 7) C.calm C.nd (ev_var 2) (by decide) (blkOk_by (N := N8) (sc := defScope sJudged) (own := [("_law_value", 7)]) (by decide +kernel)) (fun _ _ _ _ _ => pg_name C.nd rfl (Or.inl rfl)) (fun d hd z' s0 H0 C' cl fp => ?_)) (ev_lst ed_nil)) (ew_or1 (et_val (ev_call G3 (C.hr.mono (by decide)) (ea_cons ev_int ea_nil) ⟨_, rfl, rfl, rfl⟩))))) ?_
  · have hh := h3 d hd
    rw [Bool.and_eq_true] at hh
    exact et_w (ew_orF (et_notF (et_val (ev_call G3 (C.hr.mono (by decide)) (ea_cons (ev_var 7) ea_nil) ⟨_, rfl, by rw [hh.1], rfl⟩))) (ew_or1 (et_notF (et_val (ev_call G2 (C.hr.mono (by decide)) (ea_cons (ev_var 7) ea_nil) ⟨_, rfl, by rw [hh.2], rfl⟩)))))
  refine sr_ifF (et_neS C.hu pe (ev_lcNone (j := 7) C.calm C.nd (ev_var 3) (by decide) (blkOk_by (N := N8) (sc := defScope sJudged) (own := [("_law_value", 7)]) (by decide +kernel)) (fun _ _ _ _ _ => pg_name C.nd rfl (Or.inl rfl)) (fun d hd z' s0 H0 C' cl fp => ?_)) (ev_lst ed_nil)) ?_
  · have hh := h4 d hd
    rw [Bool.and_eq_true, Bool.not_eq_true', Bool.not_eq_true'] at hh
    exact et_w (ew_orF (et_val (ev_call G3 (C.hr.mono (by decide)) (ea_cons (ev_var 7) ea_nil) ⟨_, rfl, by rw [hh.1], rfl⟩)) (ew_or1 (et_val (ev_call G2 (C.hr.mono (by decide)) (ea_cons (ev_var 7) ea_nil) ⟨_, rfl, by rw [hh.2], rfl⟩))))
  refine sr_asg (d := .list wrongL) 4 C.nd (ev_lst (ed_cons ev_str (ed_cons ev_str (ed_cons ev_str (ed_cons ev_str (ed_cons ev_str (ed_cons ev_non (ed_cons ev_int (ed_cons (ev_tup (ed_cons ev_str ed_nil)) (ed_cons (ev_lst (ed_cons ev_str ed_nil)) (ed_cons ev_str ed_nil))))))))))) ?_
  have h5 := all_of (show [PyData.str "a", .str "zz", .str "abcdefgh"].all nameD = true by decide +kernel)
  have h6 := all_of (show wrongL.all (fun d => !(nameD d)) = true by decide +kernel)
  have sz : ∀ {ds : List PyData}, ds.all (fun d => match d with | .str x => decide (x.length ≤ 1000) | _ => true) = true → ∀ d ∈ ds, ∀ x, d = .str x → x.length ≤ 1000 := fun h d hd x e => by
    have := all_of h d hd
    subst e
    exact of_decide_eq_true this
  have z5 := sz (show [PyData.str "a", .str "zz", .str "abcdefgh"].all _ = true by decide +kernel)
  have z6 := sz (show wrongL.all _ = true by decide +kernel)
  refine sr_lcNone (ds := [.str "a", .str "zz", .str "abcdefgh"]) (j := 6) (k := 5) C.calm C.nd (ev_lst (ed_cons ev_str (ed_cons ev_str (ed_cons ev_str ed_nil)))) (by decide) (blkOk_by (N := N8) (sc := defScope sJudged) (own := [("_law_name", 6)]) (by decide +kernel)) (fun _ _ _ _ _ => pg_name C.nd rfl (Or.inl rfl)) (fun d hd z' s0 H0 C' cl fp => ?_) ?_
  · exact et_notF (et_val (ev_call G4 (C.hr.mono (by decide)) (ea_cons (ev_var 6) ea_nil) ⟨_, rfl, z5 d hd, by rw [h5 d hd], rfl⟩))
  refine sr_ret (ev_andT (ev_eqS C.hu pe (ev_var 5) (ev_lst ed_nil)) (ev_b1 (ev_eqS C.hu pe (ev_lcNone (j := 6) C.calm C.nd (ev_var 4) (by decide) (blkOk_by (N := N8) (sc := defScope sJudged) (own := [("_law_name", 6)]) (by decide +kernel)) (fun _ _ _ _ _ => pg_name C.nd rfl (Or.inl rfl)) (fun d hd z' s0 H0 C' cl fp => ?_)) (ev_lst ed_nil))))
  have hh := h6 d hd
  rw [Bool.not_eq_true'] at hh
  exact et_val (ev_call G4 (C.hr.mono (by decide)) (ea_cons (ev_var 6) ea_nil) ⟨_, rfl, z6 d hd, by rw [hh], rfl⟩)
end
end K1


set_option Elab.async false
set_option linter.all false
set_option maxRecDepth 100000
set_option exponentiation.threshold 3000
namespace K1
open PySem PySem.Spec PyProof.Rows L2 DL
section
variable {X : Cx} {z : Z} {es : List Sl} {s s1 s2 : S}
theorem rb_max (hc : X.calm = true) {i j : Int} : RB z s (fun xs H Q => ∃ i j, xs = [.int i, .int j] ∧ Q (.int (if j > i then j else i)) H) [.int i, .int j] (.int (max i j)) := fun vs H at_ h Q q => by
  cases h with
  | cons h r =>
    cases h
    cases r with
    | cons h r =>
      cases h
      cases r
      refine ⟨i, j, rfl, ?_⟩
      have e : (if j > i then j else i) = max i j := by
        by_cases h : j > i
        · rw [if_pos h]; omega
        · rw [if_neg h]; omega
      rw [e]
      exact q _ H (.refl H) at_ (.int _)
theorem rb_min (hc : X.calm = true) {i j : Int} : RB z s (fun xs H Q => ∃ i j, xs = [.int i, .int j] ∧ Q (.int (if j < i then j else i)) H) [.int i, .int j] (.int (min i j)) := fun vs H at_ h Q q => by
  cases h with
  | cons h r =>
    cases h
    cases r with
    | cons h r =>
      cases h
      cases r
      refine ⟨i, j, rfl, ?_⟩
      have e : (if j < i then j else i) = min i j := by
        by_cases h : j < i
        · rw [if_pos h]; omega
        · rw [if_neg h]; omega
      rw [e]
      exact q _ H (.refl H) at_ (.int _)
end
def z0 : Z := ⟨none, []⟩
theorem fz0 (a : Addr) : Fz z0 a := ⟨fun h => (by cases h), fun o h => (by cases h)⟩
theorem at0 {H : Hp} {s : S} : At z0 H s := ⟨fun a h => (by cases h), fun p h => (by cases h), fun p h => (by cases h)⟩
theorem sq_ez {K : PySem.W.Frag} {z : Z} {H H' : Hp} {a : Addr} {xs : List V} (h : SqL K H a xs) (f : Fz z a) (e : Ez z H H') : SqL K H' a xs := by
  rcases h with (h | ⟨o, h⟩) | h
  · exact .inl (.inl (e a _ f h))
  · exact .inl (.inr ⟨o, e a _ f h⟩)
  · exact .inr h
section
variable {P : Program} {w : World} {K : PySem.W.Frag} {mg : Str → Option Value} {base : Heap} {f : Addr} {fd : FuncData}
abbrev sDice : Stmt := top 37
theorem scDice : FnScope ["_law_script", "_law_spot", "_law_cell", "_law_left"] ["_law_script", "_law_spot"] (defScope sDice) := ⟨rfl, rfl, rfl, by decide +kernel, rfl, by decide +kernel, by decide +kernel⟩
/-- a new list of three ints -/
def spDice (K : PySem.W.Frag) : Sp := fun vs H Q _ => ∃ (a : Addr) (i : Nat) (ns : List Int), vs = [.ref a, .int (i : Int)] ∧ SqL K H a (ns.map V.int) ∧ ns.length ≤ 63 ∧ ∀ (s : S) (H1 : Hp) (p : Addr), Ez z0 H H1 → H1 p = none → Q (.ref p) (upd H1 p (dv s))
theorem ok_dice (F : Fun K "_law_dice" "_law_dice" sDice f fd) (T : Top mg) (T3 : Top3 mg) : FnOk P w K mg base CX0 1 f fd ["_law_script", "_law_spot"] (spDice K) := by
  refine F.ok scDice (fun vs H Q E h => ?_) (fun cdv A outer s0 H0 vs Q E hr h => ?_)
  · obtain ⟨a, i, ns, rfl, _⟩ := h
    rfl
  · obtain ⟨a, i, ns, rfl, hS, hl, q⟩ := h
    have C : Ctx (cxOf CX0 P w K mg base ["_law_script", "_law_spot", "_law_cell", "_law_left"] "_law_dice" (defScope sDice) f cdv A outer s0 H0 E).nox 0 ["_law_script", "_law_spot", "_law_cell", "_law_left"] := ⟨scDice.nd, rfl, PassesOwn.never, hr, hr.units⟩
    refine ⟨_, pss_cons (ps_set (i := 2) scDice.nd rfl (.inl rfl) (pe_ifExp (pt_cmpR op_lt (pv 1) (pe_callB call_len (by rfl) T.len (by decide +kernel) (pa_cons (pv 0) pa_nil)) (nomark _)) (pe_callTy call_int1 (by rfl) T.int (by decide +kernel) (pa_cons (pe_ix ix_list (pv 0) (pv 1) (fun _ _ => rfl)) pa_nil)) wE_ok))
      (pss_cons wS_ok (pss_one (ps_ret (pe_lst wA_ok)))), ?_⟩
    have e0 : ∀ (c : Int) (H0 : Hp), En z0 H0 [some (.ref a), some (.int (i : Int)), some (.int c), none] [.un, .val (.int (i : Int)), .val (.int c), .un] := fun c _ => .cons .un (.cons (.val (.int _)) (.cons (.val (.int _)) (.cons .un .nil)))
    -- the rest, from the cell on
    have rest : ∀ (c : Int) (H3 : Hp), Ez z0 H0 H3 → (tSeq (wS (cxOf CX0 P w K mg base ["_law_script", "_law_spot", "_law_cell", "_law_left"] "_law_dice" (defScope sDice) f cdv A outer s0 H0 E).nox ((defBody sDice).getD 1 (.Pass ⟨0, 0, 0, 0⟩))) (tRet (tLst (wA (cxOf CX0 P w K mg base ["_law_script", "_law_spot", "_law_cell", "_law_left"] "_law_dice" (defScope sDice) f cdv A outer s0 H0 E).nox
        (match (defBody sDice)[2]? with | some (Stmt.Return (some (Expr.List es _)) _) => es | _ => []))))) { nx := fun _ H' => Q .non H', rt := Q } [some (.ref a), some (.int (i : Int)), some (.int c), none] H3 := fun c H3 e3 => by
      have m1 : -(2 ^ 64) < (c.natAbs : Int).fmod 1152921504606846869 ∧ (c.natAbs : Int).fmod 1152921504606846869 < 2 ^ 64 := by
        have := fmod_bd (i := (c.natAbs : Int)) (n := 1152921504606846869) (by decide)
        omega
      have B1 : Bd 300 ((10 : Int) ^ (56 : Int).toNat) := by unfold Bd; decide
      have B2 : Bd 300 ((10 : Int) ^ (60 : Int).toNat) := by unfold Bd; decide
      have L1 : EV (cxOf CX0 P w K mg base ["_law_script", "_law_spot", "_law_cell", "_law_left"] "_law_dice" (defScope sDice) f cdv A outer s0 H0 E).nox z0 (match (defBody sDice)[1]? with | some (Stmt.Assign _ e _) => e | _ => .Constant .none 0 ⟨0, 0, 0, 0⟩) [.un, .val (.int (i : Int)), .val (.int c), .un] (0, 0, 0) (.int ((max 0 ((c.natAbs : Int) - 10 ^ (16 : Int).toNat)).fmod (10 ^ (56 : Int).toNat * 10 ^ (60 : Int).toNat))) (0, 0, 0) :=
        ev_mod (by decide) (ev_bltn (call_max2 C.calm) (rb_max C.calm) T3.max (ed_cons ev_int (ed_cons (ev_sub (ev_bltn call_abs rb_abs T.abs (ed_cons (ev_var 2) ed_nil)) (ev_pow (cpow10 (by decide) (by decide)) ev_int ev_int)) ed_nil))) (ev_mul (B1.cmul B2) (ev_pow (cpow10 (by decide) (by decide)) ev_int ev_int) (ev_pow (cpow10 (by decide) (by decide)) ev_int ev_int))
      refine ⟨_, ps_set (i := 3) scDice.nd rfl (.inl rfl) wE_ok, ?_⟩
      refine L1 _ H3 (e0 c H3) at0 _ fun v H1 e1 a1 v1 => ?_
      have en1 : En z0 H1 [some (.ref a), some (.int (i : Int)), some (.int c), some v] [.un, .val (.int (i : Int)), .val (.int c), .val (.int ((max 0 ((c.natAbs : Int) - 10 ^ (16 : Int).toNat)).fmod (10 ^ (56 : Int).toNat * 10 ^ (60 : Int).toNat)))] := .cons .un (.cons (.val (.int _)) (.cons (.val (.int _)) (.cons (.val v1) .nil)))
      have D : ED (cxOf CX0 P w K mg base ["_law_script", "_law_spot", "_law_cell", "_law_left"] "_law_dice" (defScope sDice) f cdv A outer s0 H0 E).nox z0 (match (defBody sDice)[2]? with | some (Stmt.Return (some (Expr.List es _)) _) => es | _ => []) [.un, .val (.int (i : Int)), .val (.int c), .val (.int ((max 0 ((c.natAbs : Int) - 10 ^ (16 : Int).toNat)).fmod (10 ^ (56 : Int).toNat * 10 ^ (60 : Int).toNat)))] (0, 0, 0)
          [.int ((max 0 ((c.natAbs : Int) - 10 ^ (16 : Int).toNat)).fmod (10 ^ (56 : Int).toNat * 10 ^ (60 : Int).toNat)), .int ((c.natAbs : Int).fmod 1152921504606846869 * 61 + 1009 * (i : Int) + 43 * (if decide (c < 0) = true then 1 else 0) + 17), .int 0] (0, 0, 0) :=
        ed_cons (ev_var 3) (ed_cons (ev_add (ev_add (ev_add (ev_mulL m1 (ev_mod (by decide) (ev_bltn call_abs rb_abs T.abs (ed_cons (ev_var 2) ed_nil)) ev_int) ev_int) (ev_mulL (by decide) ev_int (ev_var 1))) (ev_mulL (by decide) ev_int (ev_bty call_int1 rb_intB T.int (ed_cons (ev_lt (ev_var 2) ev_int) ed_nil)))) ev_int) (ed_cons ev_int ed_nil))
      refine D _ H1 en1 at0 _ fun vs H2 e2 a2 v2 => ?_
      cases v2 with
      | cons h r =>
        cases h
        cases r with
        | cons h r =>
          cases h
          cases r with
          | cons h r =>
            cases h
            cases r
            exact ⟨(by show 3 ≤ sizeLine; decide), fun p hp => q (_, _, _) H2 p (e3.trans (e1.trans e2)) hp⟩
    -- the cell
    refine ⟨_, rfl, .ref a, rfl, .ref a, _, rfl, .inl ⟨_, hS, rfl⟩, _, _, rfl, rfl, _, rfl, ?_⟩
    rw [List.length_map]
    by_cases hi : i < ns.length
    · rw [decide_eq_true (show (i : Int) < (ns.length : Int) by omega)]
      refine iteT ⟨.ref a, rfl, _, rfl, a, _, (i : Int), .int ns[i], rfl, rfl, hS, atI_nat (j := i) (by rw [List.getElem?_map, List.getElem?_eq_getElem hi]; rfl), .inl ⟨_, rfl, ?_⟩⟩
      exact rest ns[i] H0 (.refl H0)
    · rw [decide_eq_false (show ¬ (i : Int) < (ns.length : Int) by omega)]
      refine iteF ?_
      have L0 : EV (cxOf CX0 P w K mg base ["_law_script", "_law_spot", "_law_cell", "_law_left"] "_law_dice" (defScope sDice) f cdv A outer s0 H0 E).nox z0 (match (defBody sDice)[0]? with | some (Stmt.Assign _ (Expr.IfExp _ _ e _) _) => e | _ => .Constant .none 0 ⟨0, 0, 0, 0⟩) [.un, .val (.int (i : Int)), .un, .un] (0, 0, 0) (.int (89 * (i : Int) + 53)) (0, 0, 0) :=
        ev_add (ev_mulL (by decide) ev_int (ev_var 1)) ev_int
      refine L0 _ H0 (.cons .un (.cons (.val (.int _)) (.cons .un (.cons .un .nil)))) at0 _ fun v H1 e1 a1 v1 => ?_
      cases v1
      exact rest _ H1 e1
end
end K1


set_option Elab.async false
set_option linter.all false
set_option maxRecDepth 100000
set_option exponentiation.threshold 3000
namespace K1
open PySem PySem.Spec PyProof.Rows L2 DL
theorem bds {i : Int} {n : Nat} (h : i.natAbs < 1024) (k : 10 ≤ n) : Bd n i := Bd.mono (n := 10) h k
theorem mkTwo {v x : PyData} {t b o u : Int} (hv : Nm v t b) (hw : Nm x o u) (h : t.natAbs < 1024 ∧ b.natAbs < 1024 ∧ o.natAbs < 1024 ∧ u.natAbs < 1024) : Two v x t b o u :=
  ⟨hv, hw, bds h.1 (by decide), bds h.2.1 (by decide), bds h.2.2.1 (by decide), bds h.2.2.2 (by decide)⟩
def turnS : Nat → S → S
  | 0, s => s
  | i + 1, s => tS4 (powS (drawnS (drawnS (turnS i s))))
section
variable {P : Program} {w : World} {K : PySem.W.Frag} {mg : Str → Option Value} {base : Heap} {f : Addr} {fd : FuncData}
abbrev sLaw : Stmt := top 57
theorem scLaw : FnScope ["_law_script", "_law_spot", "_law_told", "_law_dice_here", "_law_turn"] ["_law_script"] (defScope sLaw) := ⟨rfl, rfl, rfl, by decide +kernel, rfl, by decide +kernel, by decide +kernel⟩
def spLaw (K : PySem.W.Frag) : Sp := fun vs H Q _ => ∃ (a : Addr) (ns : List Int), vs = [.ref a] ∧ SqL K H a (ns.map V.int) ∧ ns.length ≤ 63 ∧ ∀ H', Q (.bl true) H'
/-- all the defs -/
structure Defs (P : Program) (w : World) (K : PySem.W.Frag) (mg : Str → Option Value) (base : Heap) : Prop where
  quot : Dn P w K mg base 2 "fraction" rQuot
  added : Dn P w K mg base 6 "added" rAdded
  less : Dn P w K mg base 6 "less" rLess
  mult : Dn P w K mg base 6 "multiplied" rMult
  divd : Dn P w K mg base 6 "divided" rDivd
  comp : Dn P w K mg base 7 "compared" rComp
  power : Dn P w K mg base 5 "power_of" rPower
  root : Dn P w K mg base 5 "root_of" rRoot
  floor : Dn P w K mg base 5 "floor_of" rFloor
  fact : Dn P w K mg base 3 "factorial" rFact
  binom : Dn P w K mg base 3 "binomial" rBinom
  ntext : Dn P w K mg base 5 "number_text" rNText
  nof : Dn P w K mg base 7 "number_of_text" rNOf
  sums : Dn P w K mg base 8 "_law_sums_right" rTwo
  pows : Dn P w K mg base 6 "_law_powers_right" rPows
  texts : Dn P w K mg base 8 "_law_texts_right" rTexts
  judged : Dn P w K mg base 4 "_law_judged_right" rTrue0
theorem law_rest (G : Defs P w K mg base) {cdv : Value} {A : Around} {outer : List Env} {s0 : Shared} {H0 : Hp} {E : XK}
    (C : Ctx (cxOf CX0 P w K mg base ["_law_script", "_law_spot", "_law_told", "_law_dice_here", "_law_turn"] "law" (defScope sLaw) f cdv A outer s0 H0 E).nox 8 ["_law_script", "_law_spot", "_law_told", "_law_dice_here", "_law_turn"]) (s : S) :
    SR (cxOf CX0 P w K mg base ["_law_script", "_law_spot", "_law_told", "_law_dice_here", "_law_turn"] "law" (defScope sLaw) f cdv A outer s0 H0 E).nox z0 ((defBody sLaw).drop 1) [.un, .un, .un, .un, .un] s (.rt (.bool true) s) := by
  have r : ∀ {k}, k ≤ 8 → Room k (cxOf CX0 P w K mg base ["_law_script", "_law_spot", "_law_told", "_law_dice_here", "_law_turn"] "law" (defScope sLaw) f cdv A outer s0 H0 E).nox.A := fun h => C.hr.mono h
  refine sr_asg (d := .list [frD 6 (-4), frD (1 * 3 + 1 * 2) (2 * 3), frD (1 * 4 - 1 * 1) (1 * 4), frD (6 * 1) (1 * 4), frD (1 * 1) (2 * -3)]) (s1 := s) 2 C.nd (ev_lst
    (ed_cons (ev_call G.quot (r (by decide)) (ea_cons ev_int (ea_cons (ev_neg ev_int) ea_nil)) ⟨6, -4, rfl, by decide, bds (by decide) (by decide), rfl, rfl⟩)
    (ed_cons (ev_call G.added (r (by decide)) (ea_cons (ev_tup (ed_cons ev_int (ed_cons ev_int ed_nil))) (ea_cons (ev_tup (ed_cons ev_int (ed_cons ev_int ed_nil))) ea_nil)) ⟨_, _, 1, 2, 1, 3, rfl, mkTwo (.fr (by decide) (by decide)) (.fr (by decide) (by decide)) (by decide), rfl, rfl⟩)
    (ed_cons (ev_call G.less (r (by decide)) (ea_cons ev_int (ea_cons (ev_tup (ed_cons ev_int (ed_cons ev_int ed_nil))) ea_nil)) ⟨_, _, 1, 1, 1, 4, rfl, mkTwo (.int (by decide) (by decide)) (.fr (by decide) (by decide)) (by decide), rfl, rfl⟩)
    (ed_cons (ev_call G.mult (r (by decide)) (ea_cons ev_int (ea_cons (ev_tup (ed_cons ev_int (ed_cons ev_int ed_nil))) ea_nil)) ⟨_, _, 6, 1, 1, 4, rfl, mkTwo (.int (by decide) (by decide)) (.fr (by decide) (by decide)) (by decide), rfl, rfl⟩)
    (ed_cons (ev_call G.divd (r (by decide)) (ea_cons (ev_tup (ed_cons ev_int (ed_cons ev_int ed_nil))) (ea_cons (ev_neg ev_int) ea_nil)) ⟨_, _, 1, 2, -3, 1, rfl, mkTwo (.fr (by decide) (by decide)) (.int (by decide) (by decide)) (by decide), by decide, rfl, rfl⟩) ed_nil)))))) ?_
  refine sr_ifF (et_w (ew_orF (ET.is (et_ne C.hu (d2 := .list [prD (-3) 2, prD 5 6, prD 3 4, prD 3 2, prD (-1) 6]) ⟨rfl, rfl⟩ ⟨rfl, rfl⟩ (ev_var 2) (ev_lst (ed_cons (ev_tup (ed_cons (ev_neg ev_int) (ed_cons ev_int ed_nil))) (ed_cons (ev_tup (ed_cons ev_int (ed_cons ev_int ed_nil))) (ed_cons (ev_tup (ed_cons ev_int (ed_cons ev_int ed_nil))) (ed_cons (ev_tup (ed_cons ev_int (ed_cons ev_int ed_nil))) (ed_cons (ev_tup (ed_cons (ev_neg ev_int) (ed_cons ev_int ed_nil))) ed_nil))))))) (by decide +kernel))
    (ew_or1 (ET.is (et_ne C.hu (d1 := .list [pwD (-2) 3 (-3), pwD 0 1 0]) (d2 := .list [prD (-27) 8, prD 1 1]) ⟨by decide +kernel, by decide +kernel⟩ ⟨rfl, rfl⟩ (ev_lst
      (ed_cons (ev_call G.power (r (by decide)) (ea_cons (ev_tup (ed_cons (ev_neg ev_int) (ed_cons ev_int ed_nil))) (ea_cons (ev_neg ev_int) ea_nil)) ⟨_, -2, 3, -3, rfl, .fr (by decide) (by decide), bds (by decide) (by decide), bds (by decide) (by decide), by decide, by decide, by decide, rfl, rfl⟩)
      (ed_cons (ev_call G.power (r (by decide)) (ea_cons ev_int (ea_cons ev_int ea_nil)) ⟨_, 0, 1, 0, rfl, .int (by decide) (by decide), bds (by decide) (by decide), bds (by decide) (by decide), by decide, by decide, by decide, rfl, rfl⟩) ed_nil)))
      (ev_lst (ed_cons (ev_tup (ed_cons (ev_neg ev_int) (ed_cons ev_int ed_nil))) (ed_cons (ev_tup (ed_cons ev_int (ed_cons ev_int ed_nil))) ed_nil)))) (by decide +kernel))))) ?_
  refine sr_ifF (ET.is (et_ne C.hu (d1 := .list [rtD 9 4, rtD 8 1, rtD (-1) 1, rtD 0 1, rtD 1 4]) (d2 := .list [prD 3 2, .none, .none, prD 0 1, prD 1 2]) ⟨by decide +kernel, by decide +kernel⟩ ⟨rfl, rfl⟩ (ev_lst
      (ed_cons (ev_call G.root (r (by decide)) (ea_cons (ev_tup (ed_cons ev_int (ed_cons ev_int ed_nil))) ea_nil) ⟨_, 9, 4, rfl, .fr (by decide) (by decide), bds (by decide) (by decide), bds (by decide) (by decide), rfl, rfl⟩)
      (ed_cons (ev_call G.root (r (by decide)) (ea_cons ev_int ea_nil) ⟨_, 8, 1, rfl, .int (by decide) (by decide), bds (by decide) (by decide), bds (by decide) (by decide), rfl, rfl⟩)
      (ed_cons (ev_call G.root (r (by decide)) (ea_cons (ev_neg ev_int) ea_nil) ⟨_, -1, 1, rfl, .int (by decide) (by decide), bds (by decide) (by decide), bds (by decide) (by decide), rfl, rfl⟩)
      (ed_cons (ev_call G.root (r (by decide)) (ea_cons ev_int ea_nil) ⟨_, 0, 1, rfl, .int (by decide) (by decide), bds (by decide) (by decide), bds (by decide) (by decide), rfl, rfl⟩)
      (ed_cons (ev_call G.root (r (by decide)) (ea_cons (ev_tup (ed_cons ev_int (ed_cons ev_int ed_nil))) ea_nil) ⟨_, 1, 4, rfl, .fr (by decide) (by decide), bds (by decide) (by decide), bds (by decide) (by decide), rfl, rfl⟩) ed_nil))))))
      (ev_lst (ed_cons (ev_tup (ed_cons ev_int (ed_cons ev_int ed_nil))) (ed_cons ev_non (ed_cons ev_non (ed_cons (ev_tup (ed_cons ev_int (ed_cons ev_int ed_nil))) (ed_cons (ev_tup (ed_cons ev_int (ed_cons ev_int ed_nil))) ed_nil))))))) (by decide +kernel)) ?_
  refine sr_asg (d := .list [.int (-3 / 2), .int (7 / 2), .int (-4 / 1), .int (sgn (frT (1 * 7 - 2 * 3) (3 * 7))), .int (fct 5), .int (combV 6 2)]) (s1 := s) 2 C.nd (ev_lst
      (ed_cons (ev_call G.floor (r (by decide)) (ea_cons (ev_tup (ed_cons (ev_neg ev_int) (ed_cons ev_int ed_nil))) ea_nil) ⟨_, -3, 2, rfl, .fr (by decide) (by decide), bds (by decide) (by decide), rfl, rfl⟩)
      (ed_cons (ev_call G.floor (r (by decide)) (ea_cons (ev_tup (ed_cons ev_int (ed_cons ev_int ed_nil))) ea_nil) ⟨_, 7, 2, rfl, .fr (by decide) (by decide), bds (by decide) (by decide), rfl, rfl⟩)
      (ed_cons (ev_call G.floor (r (by decide)) (ea_cons (ev_neg ev_int) ea_nil) ⟨_, -4, 1, rfl, .int (by decide) (by decide), bds (by decide) (by decide), rfl, rfl⟩)
      (ed_cons (ev_call G.comp (r (by decide)) (ea_cons (ev_tup (ed_cons ev_int (ed_cons ev_int ed_nil))) (ea_cons (ev_tup (ed_cons ev_int (ed_cons ev_int ed_nil))) ea_nil)) ⟨_, _, 1, 3, 2, 7, rfl, mkTwo (.fr (by decide) (by decide)) (.fr (by decide) (by decide)) (by decide), rfl, rfl⟩)
      (ed_cons (ev_call G.fact (r (by decide)) (ea_cons ev_int ea_nil) ⟨5, rfl, by decide, rfl, rfl⟩)
      (ed_cons (ev_call G.binom (r (by decide)) (ea_cons ev_int (ea_cons ev_int ea_nil)) ⟨6, 2, rfl, by decide, by decide, by decide, by decide, comb_log (n := 6) (k := 2) (by decide), rfl, rfl⟩) ed_nil))))))) ?_
  refine sr_ifF (et_w (ew_orF (ET.is (et_ne C.hu (d2 := .list [.int (-2), .int 3, .int (-4), .int 1, .int 120, .int 15]) ⟨rfl, rfl⟩ ⟨rfl, rfl⟩ (ev_var 2) (ev_lst (ed_cons (ev_neg ev_int) (ed_cons ev_int (ed_cons (ev_neg ev_int) (ed_cons ev_int (ed_cons ev_int (ed_cons ev_int ed_nil)))))))) (by decide +kernel))
    (ew_orF (ET.is (et_neI C.hu (ev_call G.binom (r (by decide)) (ea_cons ev_int (ea_cons ev_int ea_nil)) ⟨2, 3, rfl, by decide, by decide, by decide, by decide, comb_log (n := 2) (k := 3) (by decide), rfl, rfl⟩) ev_int) (by decide +kernel))
      (ew_or1 (ET.is (et_ne C.hu (d1 := .str (ntx 4 1)) (d2 := .str "4") ⟨by decide +kernel, by decide +kernel⟩ ⟨by decide +kernel, by decide +kernel⟩ (ev_call G.ntext (r (by decide)) (ea_cons (ev_tup (ed_cons ev_int (ed_cons ev_int ed_nil))) ea_nil) ⟨_, 4, 1, rfl, .fr (by decide) (by decide), bds (by decide) (by decide), bds (by decide) (by decide), rfl, rfl⟩) ev_str) (by decide +kernel)))))) ?_
  refine sr_ret (ev_andT (EV.is (ev_eq C.hu (d1 := .list [prD (-3) 2, prD 0 1, prD (-7) 1]) (d2 := .list [prD (-3) 2, prD 0 1, prD (-7) 1]) ⟨rfl, rfl⟩ ⟨rfl, rfl⟩ (ev_lst
      (ed_cons (ev_call G.nof (r (by decide)) (ea_cons (EV.is ev_str (congrArg PyData.str (show ("-3/2" : Str) = ntx (-3) 2 by decide +kernel))) ea_nil) ⟨-3, 2, rfl, by decide, by decide, bds (by decide) (by decide), bds (by decide) (by decide), rfl, rfl⟩)
      (ed_cons (ev_call G.nof (r (by decide)) (ea_cons (EV.is ev_str (congrArg PyData.str (show ("0" : Str) = ntx 0 1 by decide +kernel))) ea_nil) ⟨0, 1, rfl, by decide, by decide, bds (by decide) (by decide), bds (by decide) (by decide), rfl, rfl⟩)
      (ed_cons (ev_call G.nof (r (by decide)) (ea_cons (EV.is ev_str (congrArg PyData.str (show ("-7" : Str) = ntx (-7) 1 by decide +kernel))) ea_nil) ⟨-7, 1, rfl, by decide, by decide, bds (by decide) (by decide), bds (by decide) (by decide), rfl, rfl⟩) ed_nil))))
      (ev_lst (ed_cons (ev_tup (ed_cons (ev_neg ev_int) (ed_cons ev_int ed_nil))) (ed_cons (ev_tup (ed_cons ev_int (ed_cons ev_int ed_nil))) (ed_cons (ev_tup (ed_cons (ev_neg ev_int) (ed_cons ev_int ed_nil))) ed_nil))))) (by rfl)) (ev_b1 (ev_call0 G.judged (r (by decide)) ⟨rfl, rfl, rfl⟩)))
theorem ok_law (F : Fun K "law" "law" sLaw f fd) (T : Top mg) (T3 : Top3 mg) (G : Defs P w K mg base) {fD : Addr} {fdD : FuncData} (GD : FnOk P w K mg base CX0 1 fD fdD ["_law_script", "_law_spot"] (spDice K)) (mD : mg "_law_dice" = some (.ref fD)) (kD : PySem.W.keepIn K (.ref fD) = true) (bD : Binds K fdD ["_law_script", "_law_spot"] []) : FnOk P w K mg base CX0 9 f fd ["_law_script"] (spLaw K) := by
  refine F.ok scLaw (fun vs H Q E h => ?_) (fun cdv A outer s0 H0 vs Q E hr h => ?_)
  · obtain ⟨a, ns, rfl, _⟩ := h
    rfl
  · obtain ⟨a, ns, rfl, hS, hl, q⟩ := h
    have C : Ctx (cxOf CX0 P w K mg base ["_law_script", "_law_spot", "_law_told", "_law_dice_here", "_law_turn"] "law" (defScope sLaw) f cdv A outer s0 H0 E).nox 8 ["_law_script", "_law_spot", "_law_told", "_law_dice_here", "_law_turn"] := ⟨scLaw.nd, rfl, PassesOwn.never, hr, hr.units⟩
    refine ⟨_, pss_cons (ps_for PassesOwn.never rfl (pi_range1 rfl T.range (pa_cons (pe_callB (call_max2 rfl) (by rfl) T3.max (by decide +kernel) (pa_cons pe_int (pa_cons (pe_callB (call_min2 rfl) (by rfl) T3.min (by decide +kernel) (pa_cons pe_int (pa_cons (pe_callB call_len (by rfl) T.len (by decide +kernel) (pa_cons (pv 0) pa_nil)) pa_nil))) pa_nil))) pa_nil))
      (pg_name (i := 1) scLaw.nd rfl (Or.inl rfl)) (pss_cons (ps_set (i := 3) scLaw.nd rfl (.inl rfl) (pe_call GD (hr.mono (by decide)) (by rfl) mD kD bD .nil pass0 (pa_cons (pv 0) (pa_cons (pv 1) pa_nil)))) wB_ok)) wB_ok, ?_⟩
    refine ⟨.ref a, rfl, .ref a, _, rfl, .inl ⟨_, hS, rfl⟩, _, _, rfl, _, _, rfl, _, rfl, ?_, ?_, ?_⟩
    · rw [List.length_map]
      split <;> split <;> omega
    · rw [List.length_map]
      split <;> split <;> omega
    refine for_range (lo := 0) (fun i σ H => ∃ x1 x2 x3 x4, σ = [some (.ref a), x1, x2, x3, x4] ∧ SqL K H a (ns.map V.int)) ⟨_, _, _, _, rfl, hS⟩ (fun i σ H hi w => ?_) (fun σ H w => ?_)
    · obtain ⟨x1, x2, x3, x4, rfl, hA⟩ := w
      refine ⟨.ref a, rfl, .int (0 + (i : Int)), rfl, a, i, ns, by rw [Int.zero_add]; rfl, hA, hl, fun s H1 p e1 hp => ?_⟩
      have inner : SR (cxOf CX0 P w K mg base ["_law_script", "_law_spot", "_law_told", "_law_dice_here", "_law_turn"] "law" (defScope sLaw) f cdv A outer s0 H0 E).nox ⟨some p, []⟩ ((loopB (defBody sLaw)[0]?).drop 1) [.raw (.ref a), .un, .un, .dice, .un] s (.nx [.raw (.ref a), .un, .un, .dice, .un] (turnS 3 s)) := by
        refine sr_for1 4 C.hp C.calm C.nd T.range (ed_cons ev_int ed_nil) (by decide) (by decide) (fun _ => [.raw (.ref a), .un, .un, .dice, .un]) (fun i => turnS i s) (Le.refl _) rfl (fun i hi => ?_) sr_nil
        refine sr_ifF (et_w (ew_orF (et_notF (et_val (ev_call G.sums C.hr (ea_dice 3 ea_nil) ⟨rfl, rfl, rfl⟩))) (ew_orF (et_notF (et_val (ev_call G.pows (C.hr.mono (by decide)) (ea_dice 3 ea_nil) ⟨rfl, rfl, rfl⟩))) (ew_or1 (et_notF (et_val (ev_call G.texts C.hr (ea_dice 3 ea_nil) ⟨rfl, rfl, rfl⟩))))))) ?_
        exact sr_le sr_nil (.same (.same (.same (.same (.un .nil)))))
      refine inner _ _ (.cons .raw (.cons .un (.cons .un (.cons (.dice rfl) (.cons .un .nil))))) ⟨fun b hb => ?_, fun p h => (by cases h), fun p h => (by cases h)⟩ _ fun σ' H' e2 a2 n2 => ?_
      · cases hb
        exact upd_same
      · have fz : ∀ o, H a = some o → Fz ⟨some p, []⟩ a ∧ upd H1 p (dv s) a = some o := fun o ho => by
          have h1 := e1 a o (fz0 a) ho
          have na := ne_of_none h1 hp
          exact ⟨⟨fun h => na (Option.some.inj h).symm, fun o h => (by cases h)⟩, by rw [upd_ne na]; exact h1⟩
        have hA3 : SqL K H' a (ns.map V.int) := by
          rcases hA with (h | ⟨o, h⟩) | h
          · exact .inl (.inl (e2 a _ (fz _ h).1 (fz _ h).2))
          · exact .inl (.inr ⟨o, e2 a _ (fz _ h).1 (fz _ h).2⟩)
          · exact .inr h
        cases n2 with
        | cons h1 n2 =>
          cases h1
          cases n2 with
          | cons h1 n2 =>
            cases n2 with
            | cons h1 n2 =>
              cases n2 with
              | cons h1 n2 =>
                cases n2 with
                | cons h1 n2 =>
                  cases n2
                  exact ⟨_, _, _, _, rfl, hA3⟩
    · obtain ⟨x1, x2, x3, x4, rfl, hA⟩ := w
      refine law_rest G C (0, 0, 0) _ H (.cons .un (.cons .un (.cons .un (.cons .un (.cons .un .nil))))) at0 _ fun v H' e a2 v2 => ?_
      cases v2
      exact q H'
end
end K1


set_option Elab.async false
set_option linter.all false
set_option maxRecDepth 100000
namespace K1
open PySem PySem.Spec PyProof.Rows L2 DL
/-- a def of the top: what stands under its name -/
def DefAt (K : PySem.W.Frag) (x : Str) (st : Stmt) : Prop := ∃ (f : Addr) (oc : Value) (od an : Option Addr) (sl : Array (Option Value)) (kV dc pm cd ct : Value), PySem.W.nsIn K mainGlobals x = some (some (.ref f)) ∧
  K.lookup f = some ⟨oc, od, .func (PySem.W.fnOf x x (defArgs st) (defBody st) (defScope st) .none kV dc pm an cd ct), sl⟩ ∧ PySem.W.codeIn K cd x = true ∧ PySem.W.keepIn K (.ref f) = true
theorem DefAt.mk' {K : PySem.W.Frag} {x : Str} {st : Stmt} {f : Addr} {oc : Value} {od an : Option Addr} {sl : Array (Option Value)} {kV dc pm cd ct : Value} (a : PySem.W.nsIn K mainGlobals x = some (some (.ref f)))
    (l : K.lookup f = some ⟨oc, od, .func (PySem.W.fnOf x x (defArgs st) (defBody st) (defScope st) .none kV dc pm an cd ct), sl⟩) (c : PySem.W.codeIn K cd x = true) (k : PySem.W.keepIn K (.ref f) = true) : DefAt K x st := ⟨f, oc, od, an, sl, kV, dc, pm, cd, ct, a, l, c, k⟩
theorem int_at {K : PySem.W.Frag} {x : Str} {i : Int} {t : Tok} (a : PySem.W.nsIn K mainGlobals x = some (some (.int i t))) : ∃ t, PySem.W.nsIn K mainGlobals x = some (some (.int i t)) := ⟨t, a⟩
theorem DefAt.fn {K : PySem.W.Frag} {h : Heap} {mg : Str → Option Value} {x : Str} {st : Stmt} (X : K.In h) (G : h.Ns mainGlobals mg) (D : DefAt K x st) : ∃ f fd, Fun K x x st f fd ∧ mg x = some (.ref f) := by
  obtain ⟨f, oc, od, an, sl, kV, dc, pm, cd, ct, a, l, c, k⟩ := D
  exact ⟨f, _, fun_mk l c k, PySem.W.mg_of X G a⟩

structure TopK (K : PySem.W.Frag) : Prop where
  d12 : DefAt K "is_whole" (top 12)
  d13 : DefAt K "is_between" (top 13)
  d14 : DefAt K "is_integer" (top 14)
  d15 : DefAt K "is_name" (top 15)
  d16 : DefAt K "is_fraction" (top 16)
  d17 : DefAt K "is_number" (top 17)
  d18 : DefAt K "need_number" (top 18)
  d19 : DefAt K "as_pair" (top 19)
  d20 : DefAt K "fraction" (top 20)
  d21 : DefAt K "_parts" (top 21)
  d22 : DefAt K "added" (top 22)
  d23 : DefAt K "less" (top 23)
  d24 : DefAt K "multiplied" (top 24)
  d25 : DefAt K "divided" (top 25)
  d26 : DefAt K "compared" (top 26)
  d27 : DefAt K "raised" (top 27)
  d28 : DefAt K "power_of" (top 28)
  d29 : DefAt K "root_of" (top 29)
  d30 : DefAt K "floor_of" (top 30)
  d31 : DefAt K "factorial" (top 31)
  d32 : DefAt K "binomial" (top 32)
  d33 : DefAt K "number_text" (top 33)
  d34 : DefAt K "_digits_only" (top 34)
  d35 : DefAt K "number_of_text" (top 35)
  d37 : DefAt K "_law_dice" (top 37)
  d38 : DefAt K "_law_roll" (top 38)
  d39 : DefAt K "_law_pick" (top 39)
  d40 : DefAt K "_law_gcd" (top 40)
  d41 : DefAt K "_law_fraction" (top 41)
  d42 : DefAt K "_law_plus" (top 42)
  d43 : DefAt K "_law_times" (top 43)
  d44 : DefAt K "_law_less" (top 44)
  d45 : DefAt K "_law_over" (top 45)
  d46 : DefAt K "_law_power" (top 46)
  d47 : DefAt K "_law_factorial" (top 47)
  d48 : DefAt K "_law_binomial" (top 48)
  d49 : DefAt K "_law_nm_drawn" (top 49)
  d50 : DefAt K "_law_nm_pair" (top 50)
  d51 : DefAt K "_law_nm_power" (top 51)
  d52 : DefAt K "_law_text" (top 52)
  d53 : DefAt K "_law_sums_right" (top 53)
  d54 : DefAt K "_law_powers_right" (top 54)
  d55 : DefAt K "_law_texts_right" (top 55)
  d56 : DefAt K "_law_judged_right" (top 56)
  d57 : DefAt K "law" (top 57)
  n_isinstance : PySem.W.nsIn K mainGlobals "isinstance" = some none
  n_int : PySem.W.nsIn K mainGlobals "int" = some none
  n_bool : PySem.W.nsIn K mainGlobals "bool" = some none
  n_str : PySem.W.nsIn K mainGlobals "str" = some none
  n_tuple : PySem.W.nsIn K mainGlobals "tuple" = some none
  n_len : PySem.W.nsIn K mainGlobals "len" = some none
  n_abs : PySem.W.nsIn K mainGlobals "abs" = some none
  n_range : PySem.W.nsIn K mainGlobals "range" = some none
  n_all : PySem.W.nsIn K mainGlobals "all" = some none
  n_min : PySem.W.nsIn K mainGlobals "min" = some none
  n_max : PySem.W.nsIn K mainGlobals "max" = some none
  c_long : ∃ t, PySem.W.nsIn K mainGlobals "_TOO_LONG" = some (some (.int 1000000000000000000000000000000000000000000000000000000000000 t))
  c_raised : ∃ t, PySem.W.nsIn K mainGlobals "MAX_RAISED" = some (some (.int 1000 t))
  c_chosen : ∃ t, PySem.W.nsIn K mainGlobals "MAX_CHOSEN" = some (some (.int 1000 t))
  c_text : ∃ t, PySem.W.nsIn K mainGlobals "MAX_TEXT" = some (some (.int 400 t))
  c_name : ∃ t, PySem.W.nsIn K mainGlobals "MAX_NAME" = some (some (.int 8 t))
  b_gcd : PySem.W.nsIn K mainGlobals "gcd" = some (some (.builtin "math.gcd"))
  b_isqrt : PySem.W.nsIn K mainGlobals "isqrt" = some (some (.builtin "math.isqrt"))
  b_comb : PySem.W.nsIn K mainGlobals "comb" = some (some (.builtin "math.comb"))
set_option maxHeartbeats 0 in
theorem all_mk {l : PySem.W.OpenLaw} {w : World} {K : PySem.W.Frag} {h : Heap} {mg : Str → Option Value} {fa : Addr} (X : K.In h) (G : h.Ns mainGlobals mg) (hfa : mg "law" = some (.ref fa)) (Z : TopK K) :
    ∃ fd : FuncData, (∀ (s : Shared) (v : Value), BindsTo s fd ⟨[v], []⟩ [("_law_script", v)]) ∧ ∀ base : Heap, K.In base → base.Ns mainGlobals mg → FnOk l.prog w K mg base CX0 9 fa fd ["_law_script"] (spLaw K) := by
  have T : Top mg := ⟨PySem.W.mg_none_of X G Z.n_isinstance, PySem.W.mg_none_of X G Z.n_int, PySem.W.mg_none_of X G Z.n_bool, PySem.W.mg_none_of X G Z.n_str, PySem.W.mg_none_of X G Z.n_tuple, PySem.W.mg_none_of X G Z.n_len, PySem.W.mg_none_of X G Z.n_abs, PySem.W.mg_none_of X G Z.n_range, PySem.W.mg_none_of X G Z.n_all,
    (let ⟨t, h⟩ := Z.c_long; ⟨t, PySem.W.mg_of X G h⟩), PySem.W.mg_of X G Z.b_gcd⟩
  have T2 : Top2 mg := ⟨(let ⟨t, h⟩ := Z.c_raised; ⟨t, PySem.W.mg_of X G h⟩), (let ⟨t, h⟩ := Z.c_chosen; ⟨t, PySem.W.mg_of X G h⟩), (let ⟨t, h⟩ := Z.c_text; ⟨t, PySem.W.mg_of X G h⟩), PySem.W.mg_of X G Z.b_isqrt, PySem.W.mg_of X G Z.b_comb⟩
  have T3 : Top3 mg := ⟨(let ⟨t, h⟩ := Z.c_name; ⟨t, PySem.W.mg_of X G h⟩), PySem.W.mg_none_of X G Z.n_min, PySem.W.mg_none_of X G Z.n_max⟩
  obtain ⟨f12, fd12, F12, m12⟩ := Z.d12.fn X G
  have b12 := F12.binds (ps := ["value"]) fun _ _ _ _ _ _ us hl => match us, hl with | [_], _ => rfl
  obtain ⟨f13, fd13, F13, m13⟩ := Z.d13.fn X G
  have b13 := F13.binds (ps := ["value", "low", "high"]) fun _ _ _ _ _ _ us hl => match us, hl with | [_, _, _], _ => rfl
  obtain ⟨f14, fd14, F14, m14⟩ := Z.d14.fn X G
  have b14 := F14.binds (ps := ["value"]) fun _ _ _ _ _ _ us hl => match us, hl with | [_], _ => rfl
  obtain ⟨f15, fd15, F15, m15⟩ := Z.d15.fn X G
  have b15 := F15.binds (ps := ["value"]) fun _ _ _ _ _ _ us hl => match us, hl with | [_], _ => rfl
  obtain ⟨f16, fd16, F16, m16⟩ := Z.d16.fn X G
  have b16 := F16.binds (ps := ["value"]) fun _ _ _ _ _ _ us hl => match us, hl with | [_], _ => rfl
  obtain ⟨f17, fd17, F17, m17⟩ := Z.d17.fn X G
  have b17 := F17.binds (ps := ["value"]) fun _ _ _ _ _ _ us hl => match us, hl with | [_], _ => rfl
  obtain ⟨f18, fd18, F18, m18⟩ := Z.d18.fn X G
  have b18 := F18.binds (ps := ["value"]) fun _ _ _ _ _ _ us hl => match us, hl with | [_], _ => rfl
  obtain ⟨f19, fd19, F19, m19⟩ := Z.d19.fn X G
  have b19 := F19.binds (ps := ["number"]) fun _ _ _ _ _ _ us hl => match us, hl with | [_], _ => rfl
  obtain ⟨f20, fd20, F20, m20⟩ := Z.d20.fn X G
  have b20 := F20.binds (ps := ["top", "bottom"]) fun _ _ _ _ _ _ us hl => match us, hl with | [_, _], _ => rfl
  obtain ⟨f21, fd21, F21, m21⟩ := Z.d21.fn X G
  have b21 := F21.binds (ps := ["one", "other"]) fun _ _ _ _ _ _ us hl => match us, hl with | [_, _], _ => rfl
  obtain ⟨f22, fd22, F22, m22⟩ := Z.d22.fn X G
  have b22 := F22.binds (ps := ["one", "other"]) fun _ _ _ _ _ _ us hl => match us, hl with | [_, _], _ => rfl
  obtain ⟨f23, fd23, F23, m23⟩ := Z.d23.fn X G
  have b23 := F23.binds (ps := ["one", "other"]) fun _ _ _ _ _ _ us hl => match us, hl with | [_, _], _ => rfl
  obtain ⟨f24, fd24, F24, m24⟩ := Z.d24.fn X G
  have b24 := F24.binds (ps := ["one", "other"]) fun _ _ _ _ _ _ us hl => match us, hl with | [_, _], _ => rfl
  obtain ⟨f25, fd25, F25, m25⟩ := Z.d25.fn X G
  have b25 := F25.binds (ps := ["one", "other"]) fun _ _ _ _ _ _ us hl => match us, hl with | [_, _], _ => rfl
  obtain ⟨f26, fd26, F26, m26⟩ := Z.d26.fn X G
  have b26 := F26.binds (ps := ["one", "other"]) fun _ _ _ _ _ _ us hl => match us, hl with | [_, _], _ => rfl
  obtain ⟨f27, fd27, F27, m27⟩ := Z.d27.fn X G
  have b27 := F27.binds (ps := ["whole", "many"]) fun _ _ _ _ _ _ us hl => match us, hl with | [_, _], _ => rfl
  obtain ⟨f28, fd28, F28, m28⟩ := Z.d28.fn X G
  have b28 := F28.binds (ps := ["number", "many"]) fun _ _ _ _ _ _ us hl => match us, hl with | [_, _], _ => rfl
  obtain ⟨f29, fd29, F29, m29⟩ := Z.d29.fn X G
  have b29 := F29.binds (ps := ["number"]) fun _ _ _ _ _ _ us hl => match us, hl with | [_], _ => rfl
  obtain ⟨f30, fd30, F30, m30⟩ := Z.d30.fn X G
  have b30 := F30.binds (ps := ["number"]) fun _ _ _ _ _ _ us hl => match us, hl with | [_], _ => rfl
  obtain ⟨f31, fd31, F31, m31⟩ := Z.d31.fn X G
  have b31 := F31.binds (ps := ["number"]) fun _ _ _ _ _ _ us hl => match us, hl with | [_], _ => rfl
  obtain ⟨f32, fd32, F32, m32⟩ := Z.d32.fn X G
  have b32 := F32.binds (ps := ["top", "low"]) fun _ _ _ _ _ _ us hl => match us, hl with | [_, _], _ => rfl
  obtain ⟨f33, fd33, F33, m33⟩ := Z.d33.fn X G
  have b33 := F33.binds (ps := ["number"]) fun _ _ _ _ _ _ us hl => match us, hl with | [_], _ => rfl
  obtain ⟨f34, fd34, F34, m34⟩ := Z.d34.fn X G
  have b34 := F34.binds (ps := ["text"]) fun _ _ _ _ _ _ us hl => match us, hl with | [_], _ => rfl
  obtain ⟨f35, fd35, F35, m35⟩ := Z.d35.fn X G
  have b35 := F35.binds (ps := ["text"]) fun _ _ _ _ _ _ us hl => match us, hl with | [_], _ => rfl
  obtain ⟨f37, fd37, F37, m37⟩ := Z.d37.fn X G
  have b37 := F37.binds (ps := ["_law_script", "_law_spot"]) fun _ _ _ _ _ _ us hl => match us, hl with | [_, _], _ => rfl
  obtain ⟨f38, fd38, F38, m38⟩ := Z.d38.fn X G
  have b38 := F38.binds (ps := ["_law_dice_here", "_law_total"]) fun _ _ _ _ _ _ us hl => match us, hl with | [_, _], _ => rfl
  obtain ⟨f39, fd39, F39, m39⟩ := Z.d39.fn X G
  have b39 := F39.binds (ps := ["_law_dice_here", "_law_items"]) fun _ _ _ _ _ _ us hl => match us, hl with | [_, _], _ => rfl
  obtain ⟨f40, fd40, F40, m40⟩ := Z.d40.fn X G
  have b40 := F40.binds (ps := ["_law_one", "_law_other"]) fun _ _ _ _ _ _ us hl => match us, hl with | [_, _], _ => rfl
  obtain ⟨f41, fd41, F41, m41⟩ := Z.d41.fn X G
  have b41 := F41.binds (ps := ["_law_top", "_law_bottom"]) fun _ _ _ _ _ _ us hl => match us, hl with | [_, _], _ => rfl
  obtain ⟨f42, fd42, F42, m42⟩ := Z.d42.fn X G
  have b42 := F42.binds (ps := ["_law_one", "_law_other"]) fun _ _ _ _ _ _ us hl => match us, hl with | [_, _], _ => rfl
  obtain ⟨f43, fd43, F43, m43⟩ := Z.d43.fn X G
  have b43 := F43.binds (ps := ["_law_one", "_law_other"]) fun _ _ _ _ _ _ us hl => match us, hl with | [_, _], _ => rfl
  obtain ⟨f44, fd44, F44, m44⟩ := Z.d44.fn X G
  have b44 := F44.binds (ps := ["_law_one", "_law_other"]) fun _ _ _ _ _ _ us hl => match us, hl with | [_, _], _ => rfl
  obtain ⟨f45, fd45, F45, m45⟩ := Z.d45.fn X G
  have b45 := F45.binds (ps := ["_law_one", "_law_other"]) fun _ _ _ _ _ _ us hl => match us, hl with | [_, _], _ => rfl
  obtain ⟨f46, fd46, F46, m46⟩ := Z.d46.fn X G
  have b46 := F46.binds (ps := ["_law_number", "_law_exponent"]) fun _ _ _ _ _ _ us hl => match us, hl with | [_, _], _ => rfl
  obtain ⟨f47, fd47, F47, m47⟩ := Z.d47.fn X G
  have b47 := F47.binds (ps := ["_law_number"]) fun _ _ _ _ _ _ us hl => match us, hl with | [_], _ => rfl
  obtain ⟨f48, fd48, F48, m48⟩ := Z.d48.fn X G
  have b48 := F48.binds (ps := ["_law_top", "_law_low"]) fun _ _ _ _ _ _ us hl => match us, hl with | [_, _], _ => rfl
  obtain ⟨f49, fd49, F49, m49⟩ := Z.d49.fn X G
  have b49 := F49.binds (ps := ["_law_dice_here"]) fun _ _ _ _ _ _ us hl => match us, hl with | [_], _ => rfl
  obtain ⟨f50, fd50, F50, m50⟩ := Z.d50.fn X G
  have b50 := F50.binds (ps := ["_law_number"]) fun _ _ _ _ _ _ us hl => match us, hl with | [_], _ => rfl
  obtain ⟨f51, fd51, F51, m51⟩ := Z.d51.fn X G
  have b51 := F51.binds (ps := ["_law_pair", "_law_exponent"]) fun _ _ _ _ _ _ us hl => match us, hl with | [_, _], _ => rfl
  obtain ⟨f52, fd52, F52, m52⟩ := Z.d52.fn X G
  have b52 := F52.binds (ps := ["_law_pair"]) fun _ _ _ _ _ _ us hl => match us, hl with | [_], _ => rfl
  obtain ⟨f53, fd53, F53, m53⟩ := Z.d53.fn X G
  have b53 := F53.binds (ps := ["_law_dice_here"]) fun _ _ _ _ _ _ us hl => match us, hl with | [_], _ => rfl
  obtain ⟨f54, fd54, F54, m54⟩ := Z.d54.fn X G
  have b54 := F54.binds (ps := ["_law_dice_here"]) fun _ _ _ _ _ _ us hl => match us, hl with | [_], _ => rfl
  obtain ⟨f55, fd55, F55, m55⟩ := Z.d55.fn X G
  have b55 := F55.binds (ps := ["_law_dice_here"]) fun _ _ _ _ _ _ us hl => match us, hl with | [_], _ => rfl
  obtain ⟨f56, fd56, F56, m56⟩ := Z.d56.fn X G
  have b56 := F56.binds (ps := []) fun _ _ _ _ _ _ us hl => match us, hl with | [], _ => rfl
  obtain ⟨fl, oc, od, an, sl, kV, dc, pm, cd, ct, a, lk, c, k⟩ := Z.d57
  have e := hfa.symm.trans (PySem.W.mg_of X G a)
  cases e
  have FL := fun_mk (st := top 57) lk c k
  refine ⟨PySem.W.fnOf "law" "law" (defArgs (top 57)) (defBody (top 57)) (defScope (top 57)) .none kV dc pm an cd ct, fun s v => .of_eq rfl, fun base _ _ => ?_⟩
  have G12 : Dn l.prog w K mg base 1 "is_whole" rWhole := dn_of F12 (ok_whole F12 T) m12 b12
  have G13 : Dn l.prog w K mg base 2 "is_between" rBetween := dn_of F13 (ok_between F13 G12) m13 b13
  have G14 : Dn l.prog w K mg base 2 "is_integer" rInteger := dn_of F14 (ok_integer F14 T G12) m14 b14
  have G15 : Dn l.prog w K mg base 1 "is_name" rName := dn_of F15 (ok_name F15 T T3) m15 b15
  have G16 : Dn l.prog w K mg base 2 "is_fraction" rFrac := dn_of F16 (ok_frac F16 T G12) m16 b16
  have G17 : Dn l.prog w K mg base 3 "is_number" rNumber := dn_of F17 (ok_number F17 G14 G16) m17 b17
  have G18 : Dn l.prog w K mg base 4 "need_number" rNeed := dn_of F18 (ok_need F18 G17) m18 b18
  have G19 : Dn l.prog w K mg base 1 "as_pair" rPair := dn_of F19 (ok_pair F19 T) m19 b19
  have G20 : Dn l.prog w K mg base 2 "fraction" rQuot := dn_of F20 (ok_quot F20 T G12) m20 b20
  have G21 : Dn l.prog w K mg base 5 "_parts" rParts := dn_of F21 (ok_parts F21 G18 G19) m21 b21
  have G22 : Dn l.prog w K mg base 6 "added" rAdded := dn_of F22 (ok_added F22 G21 G20) m22 b22
  have G23 : Dn l.prog w K mg base 6 "less" rLess := dn_of F23 (ok_less F23 G21 G20) m23 b23
  have G24 : Dn l.prog w K mg base 6 "multiplied" rMult := dn_of F24 (ok_mult F24 G21 G20) m24 b24
  have G25 : Dn l.prog w K mg base 6 "divided" rDivd := dn_of F25 (ok_divd F25 G21 G20) m25 b25
  have G26 : Dn l.prog w K mg base 7 "compared" rComp := dn_of F26 (ok_comp F26 G23) m26 b26
  have G27 : Dn l.prog w K mg base 1 "raised" rRaised := dn_of F27 (ok_raised F27) m27 b27
  have G28 : Dn l.prog w K mg base 5 "power_of" rPower := dn_of F28 (ok_power F28 T2 G18 G13 G19 G27) m28 b28
  have G29 : Dn l.prog w K mg base 5 "root_of" rRoot := dn_of F29 (ok_root F29 T2 G18 G19) m29 b29
  have G30 : Dn l.prog w K mg base 5 "floor_of" rFloor := dn_of F30 (ok_floor F30 G18 G19) m30 b30
  have G31 : Dn l.prog w K mg base 3 "factorial" rFact := dn_of F31 (ok_fact F31 T T2 G13) m31 b31
  have G32 : Dn l.prog w K mg base 3 "binomial" rBinom := dn_of F32 (ok_binom F32 T2 G13) m32 b32
  have G33 : Dn l.prog w K mg base 5 "number_text" rNText := dn_of F33 (ok_ntext F33 G18 G19) m33 b33
  have G34 : Dn l.prog w K mg base 1 "_digits_only" rDigs := dn_of F34 (ok_digs F34) m34 b34
  have G35 : Dn l.prog w K mg base 7 "number_of_text" rNOf := dn_of F35 (ok_nof F35 T T2 G34 G20 G24 G33) m35 b35
  have G37 : FnOk l.prog w K mg base CX0 1 f37 fd37 ["_law_script", "_law_spot"] (spDice K) := ok_dice F37 T T3
  have G38 : Dn l.prog w K mg base 1 "_law_roll" rRoll := dn_of F38 (ok_roll F38 T) m38 b38
  have G39 : Dn l.prog w K mg base 2 "_law_pick" rPick := dn_of F39 (ok_pick F39 T G38) m39 b39
  have G40 : Dn l.prog w K mg base 1 "_law_gcd" rGcd' := dn_of F40 (ok_gcd F40 T) m40 b40
  have G41 : Dn l.prog w K mg base 2 "_law_fraction" rQuot := dn_of F41 (ok_lfr F41 G40) m41 b41
  have G42 : Dn l.prog w K mg base 3 "_law_plus" rPlus := dn_of F42 (ok_plus F42 G41) m42 b42
  have G43 : Dn l.prog w K mg base 3 "_law_times" rTimes := dn_of F43 (ok_times F43 G41) m43 b43
  have G44 : Dn l.prog w K mg base 4 "_law_less" rLessL := dn_of F44 (ok_lessL F44 G42) m44 b44
  have G45 : Dn l.prog w K mg base 3 "_law_over" rOver := dn_of F45 (ok_over F45 G41) m45 b45
  have G46 : Dn l.prog w K mg base 1 "_law_power" rRaised := dn_of F46 (ok_pow F46 T) m46 b46
  have G47 : Dn l.prog w K mg base 1 "_law_factorial" rFact := dn_of F47 (ok_lfact F47 T) m47 b47
  have G48 : Dn l.prog w K mg base 1 "_law_binomial" rLBin := dn_of F48 (ok_lbin F48 T) m48 b48
  have G49 : Dn l.prog w K mg base 3 "_law_nm_drawn" rDrawn := dn_of F49 (ok_drawn F49 G39 G38 G41) m49 b49
  have G50 : Dn l.prog w K mg base 1 "_law_nm_pair" rPair := dn_of F50 (ok_lpair F50 T) m50 b50
  have G51 : Dn l.prog w K mg base 2 "_law_nm_power" rLPow := dn_of F51 (ok_lpow F51 G46) m51 b51
  have G52 : Dn l.prog w K mg base 1 "_law_text" rLText := dn_of F52 (ok_ltext F52 T) m52 b52
  have G53 : Dn l.prog w K mg base 8 "_law_sums_right" rTwo := dn_of F53 (ok_sums F53 T G49 G50 G22 G23 G24 G25 G26 G42 G44 G43 G45 G17 G16) m53 b53
  have G54 : Dn l.prog w K mg base 6 "_law_powers_right" rPows := dn_of F54 (ok_pows F54 T G49 G50 G38 G51 G28 G41 G43 G42 G29 G30 G20) m54 b54
  have G55 : Dn l.prog w K mg base 8 "_law_texts_right" rTexts := dn_of F55 (ok_texts F55 G49 G50 G52 G33 G35 G38 G39 G31 G47 G32 G48) m55 b55
  have G56 : Dn l.prog w K mg base 4 "_law_judged_right" rTrue0 := dn_of F56 (ok_judged F56 G14 G17 G16 G15) m56 b56
  exact ok_law FL T T3 ⟨G20, G22, G23, G24, G25, G26, G28, G29, G30, G31, G32, G33, G35, G53, G54, G55, G56⟩ G37 m37 F37.kp b37
theorem walk {l : PySem.W.OpenLaw} {q : Program} {loose : List Str} {XP : (Str → Option Value) → Heap → Prop} {YP : World → Heap → Prop} {d : DefRec} {K : Params → PySem.W.Frag} (hn : l.most = some 63) (hdf : d.params.defaults = []) (hd : d.name = "law")
    (hY : ∀ (w : World) (h : Heap), YP w h → (K w.params).In h) (Z : ∀ p, TopK (K p)) : PySem.W.WalkO q loose XP YP l.row.toRowW d [] (fun f vs => PySem.call f vs) :=
  L2.walk_ofK (n := 63) (k := 9) (x := "_law_script") (CX := CX0) (sp := spLaw) hn (by decide) hdf ⟨rfl, by decide, by decide⟩ hY
    (fun w mg fa h X G m => all_mk X G (by rw [← hd]; exact m) (Z w.params)) (fun _ _ a ns hl _ hS => ⟨a, ns, rfl, hS, hl, fun _ => rfl⟩) fun _ _ _ _ z => z
end K1
open PySem PySem.W PyProof.Rows
local macro_rules | `(tactic| walk_at "defat") => `(tactic| (refine' K1.DefAt.mk' ?a ?l ?c ?k; (case a => k_is); (case l => k_is); (case c => k_is); (case k => k_is)))
local macro_rules | `(tactic| walk_at "intat") => `(tactic| (refine' K1.int_at ?a; (case a => k_is)))
set_option maxRecDepth 100000 in
set_option maxHeartbeats 0 in
theorem PySem.Challenge.cw_thirdcounts_k01_whole_numbers_reckoned_holds : PySem.Challenge.rw_thirdcounts_k01_whole_numbers_reckoned.Holds := by
  w_on; o_law; k_head; (case hw => w_witness2)
  k_fill
  refine K1.walk (l := PySem.Challenge.rw_thirdcounts_k01_whole_numbers_reckoned) rfl rfl rfl (fun w h Y => PySem.W.kIn_of Y) ?Z
  case Z =>
    intro p
    constructor
    case d12 => walk_at "defat"
    case d13 => walk_at "defat"
    case d14 => walk_at "defat"
    case d15 => walk_at "defat"
    case d16 => walk_at "defat"
    case d17 => walk_at "defat"
    case d18 => walk_at "defat"
    case d19 => walk_at "defat"
    case d20 => walk_at "defat"
    case d21 => walk_at "defat"
    case d22 => walk_at "defat"
    case d23 => walk_at "defat"
    case d24 => walk_at "defat"
    case d25 => walk_at "defat"
    case d26 => walk_at "defat"
    case d27 => walk_at "defat"
    case d28 => walk_at "defat"
    case d29 => walk_at "defat"
    case d30 => walk_at "defat"
    case d31 => walk_at "defat"
    case d32 => walk_at "defat"
    case d33 => walk_at "defat"
    case d34 => walk_at "defat"
    case d35 => walk_at "defat"
    case d37 => walk_at "defat"
    case d38 => walk_at "defat"
    case d39 => walk_at "defat"
    case d40 => walk_at "defat"
    case d41 => walk_at "defat"
    case d42 => walk_at "defat"
    case d43 => walk_at "defat"
    case d44 => walk_at "defat"
    case d45 => walk_at "defat"
    case d46 => walk_at "defat"
    case d47 => walk_at "defat"
    case d48 => walk_at "defat"
    case d49 => walk_at "defat"
    case d50 => walk_at "defat"
    case d51 => walk_at "defat"
    case d52 => walk_at "defat"
    case d53 => walk_at "defat"
    case d54 => walk_at "defat"
    case d55 => walk_at "defat"
    case d56 => walk_at "defat"
    case d57 => walk_at "defat"
    case n_isinstance => k_is
    case n_int => k_is
    case n_bool => k_is
    case n_str => k_is
    case n_tuple => k_is
    case n_len => k_is
    case n_abs => k_is
    case n_range => k_is
    case n_all => k_is
    case n_min => k_is
    case n_max => k_is
    case c_long => walk_at "intat"
    case c_raised => walk_at "intat"
    case c_chosen => walk_at "intat"
    case c_text => walk_at "intat"
    case c_name => walk_at "intat"
    case b_gcd => k_is
    case b_isqrt => k_is
    case b_comb => k_is

