import PyProof.Rows.All
import Wide.All
import OpenK.AllK
import Wide.FinOn
import HandS.ForMost
import HandS.ForExc
import HandS.Evl
import HandS.Zip
import HandS.Rev
import HandS.IsInst
import PySem.Challenge.RW_tillbasket_k01_baskets_numbered
set_option Elab.async false
set_option linter.all false
set_option maxRecDepth 100000
set_option maxHeartbeats 4000000
/-! Dx: a def of the text read as a function of plain data. -/
namespace Dx
open PySem PySem.Spec PyProof.Rows L2
open Evl (Ex)

/-- plain data -/
inductive D where
  | non | bl (b : Bool) | int (i : Int) | str (x : Str)
  | lst (xs : List D) | tup (xs : List D) | fz (xs : List D)
  | obj (C : Addr) (fs : List (Str × D)) | raw (v : V)
  deriving Inhabited

mutual
/-- how data lies in the heap -/
inductive Den (K : PySem.W.Frag) (H : Hp) : V → D → Prop
  | non : Den K H .non .non
  | bl (b : Bool) : Den K H (.bl b) (.bl b)
  | int (i : Int) : Den K H (.int i) (.int i)
  | str (x : Str) : Den K H (.str x) (.str x)
  | lst {a : Addr} {xs : List V} {ds : List D} (h : H a = some (.lst xs)) (r : DenL K H xs ds) : Den K H (.ref a) (.lst ds)
  | tup {a : Addr} {xs : List V} {ds : List D} (h : SqT K H a xs) (r : DenL K H xs ds) : Den K H (.ref a) (.tup ds)
  | fz {a : Addr} {xs : List V} {ds : List D} (h : SqL K H a xs) (r : DenL K H xs ds) : Den K H (.ref a) (.fz ds)
  | obj {a C dx : Addr} {fs : List (Str × V)} {gs : List (Str × D)} (h : H a = some (.ins C dx fs)) (r : DenF K H fs gs) : Den K H (.ref a) (.obj C gs)
  | raw (v : V) : Den K H v (.raw v)
inductive DenL (K : PySem.W.Frag) (H : Hp) : List V → List D → Prop
  | nil : DenL K H [] []
  | cons {v : V} {vs : List V} {d : D} {ds : List D} (h : Den K H v d) (r : DenL K H vs ds) : DenL K H (v :: vs) (d :: ds)
inductive DenF (K : PySem.W.Frag) (H : Hp) : List (Str × V) → List (Str × D) → Prop
  | nil : DenF K H [] []
  | cons {f : Str} {v : V} {fs : List (Str × V)} {d : D} {gs : List (Str × D)} (h : Den K H v d) (r : DenF K H fs gs) : DenF K H ((f, v) :: fs) ((f, d) :: gs)
end

section
variable {K : PySem.W.Frag} {H H' : Hp}
mutual
theorem Den.mono (e : Ex H H') : ∀ {v : V} {d : D}, Den K H v d → Den K H' v d
  | _, _, .non => .non
  | _, _, .bl b => .bl b
  | _, _, .int i => .int i
  | _, _, .str x => .str x
  | _, _, .lst h r => .lst (e _ _ h) (DenL.mono e r)
  | _, _, .tup h r => .tup (Evl.ex_t e h) (DenL.mono e r)
  | _, _, .fz h r => .fz (Evl.ex_l e h) (DenL.mono e r)
  | _, _, .obj h r => .obj (e _ _ h) (DenF.mono e r)
  | _, _, .raw v => .raw v
theorem DenL.mono (e : Ex H H') : ∀ {vs : List V} {ds : List D}, DenL K H vs ds → DenL K H' vs ds
  | _, _, .nil => .nil
  | _, _, .cons h r => .cons (Den.mono e h) (DenL.mono e r)
theorem DenF.mono (e : Ex H H') : ∀ {vs : List (Str × V)} {ds : List (Str × D)}, DenF K H vs ds → DenF K H' vs ds
  | _, _, .nil => .nil
  | _, _, .cons h r => .cons (Den.mono e h) (DenF.mono e r)
end
theorem DenL.len : ∀ {vs : List V} {ds : List D}, DenL K H vs ds → vs.length = ds.length
  | _, _, .nil => rfl
  | _, _, .cons _ r => congrArg Nat.succ (DenL.len r)
theorem DenL.get : ∀ {vs : List V} {ds : List D} {i : Nat} {d : D}, DenL K H vs ds → ds[i]? = some d → ∃ v, vs[i]? = some v ∧ Den K H v d
  | _, _, _, _, .nil, e => by simp at e
  | _, _, 0, _, .cons h _, e => by simp at e; subst e; exact ⟨_, rfl, h⟩
  | _, _, i + 1, _, .cons _ r, e => by
    obtain ⟨v, h1, h2⟩ := DenL.get (i := i) r (by simpa using e)
    exact ⟨v, by simpa using h1, h2⟩
theorem DenL.getV : ∀ {vs : List V} {ds : List D} {i : Nat} {v : V}, DenL K H vs ds → vs[i]? = some v → ∃ d, ds[i]? = some d ∧ Den K H v d
  | _, _, _, _, .nil, e => by simp at e
  | _, _, 0, _, .cons h _, e => by simp at e; subst e; exact ⟨_, rfl, h⟩
  | _, _, i + 1, _, .cons _ r, e => by
    obtain ⟨v, h1, h2⟩ := DenL.getV (i := i) r (by simpa using e)
    exact ⟨v, by simpa using h1, h2⟩
theorem DenL.append : ∀ {vs ws : List V} {ds es : List D}, DenL K H vs ds → DenL K H ws es → DenL K H (vs ++ ws) (ds ++ es)
  | _, _, _, _, .nil, s => s
  | _, _, _, _, .cons h r, s => .cons h (DenL.append r s)
theorem DenL.one {v : V} {d : D} (h : Den K H v d) : DenL K H [v] [d] := .cons h .nil
theorem DenL.take : ∀ {vs : List V} {ds : List D} (n : Nat), DenL K H vs ds → DenL K H (vs.take n) (ds.take n)
  | _, _, 0, _ => .nil
  | _, _, _ + 1, .nil => .nil
  | _, _, n + 1, .cons h r => .cons h (DenL.take n r)
theorem DenL.drop : ∀ {vs : List V} {ds : List D} (n : Nat), DenL K H vs ds → DenL K H (vs.drop n) (ds.drop n)
  | _, _, 0, r => r
  | _, _, _ + 1, .nil => .nil
  | _, _, n + 1, .cons _ r => DenL.drop n r
theorem DenL.set {v : V} {d : D} (h : Den K H v d) : ∀ {vs : List V} {ds : List D} (n : Nat), DenL K H vs ds → DenL K H (vs.set n v) (ds.set n d)
  | _, _, _, .nil => .nil
  | _, _, 0, .cons _ r => .cons h r
  | _, _, n + 1, .cons q r => .cons q (DenL.set h n r)
theorem DenL.reverse : ∀ {vs : List V} {ds : List D}, DenL K H vs ds → DenL K H vs.reverse ds.reverse
  | _, _, .nil => .nil
  | _, _, .cons h r => by
    rw [List.reverse_cons, List.reverse_cons]
    exact DenL.append (DenL.reverse r) (.one h)
theorem DenF.look : ∀ {fs : List (Str × V)} {gs : List (Str × D)} {f : Str} {d : D}, DenF K H fs gs → gs.lookup f = some d → ∃ v, fs.lookup f = some v ∧ Den K H v d
  | _, _, f, _, .nil, e => by simp at e
  | _, _, f, d, .cons (f := g) h r, e => by
    rw [List.lookup_cons] at e ⊢
    cases q : f == g with
    | true => rw [q] at e; cases e; exact ⟨_, rfl, h⟩
    | false => rw [q] at e; exact DenF.look r e
end

/-! ### a heap without some objects -/
def hid (S : List Addr) (H : Hp) : Hp := fun a => if a ∈ S then none else H a
def Sub (S : List Addr) (H : Hp) : Prop := ∀ a ∈ S, H a ≠ none
section
variable {S T : List Addr} {H H1 H2 : Hp}
theorem hid_ex (e : Ex H H1) : Ex (hid S H) (hid S H1) := fun a o h => by
  unfold hid at h ⊢
  by_cases m : a ∈ S
  · rw [if_pos m] at h; cases h
  · rw [if_neg m] at h ⊢; exact e a o h
theorem hid_le : Ex (hid S H) H := fun a o h => by
  unfold hid at h
  by_cases m : a ∈ S
  · rw [if_pos m] at h; cases h
  · rw [if_neg m] at h; exact h
theorem hid_sub (s : ∀ a ∈ T, a ∈ S) : Ex (hid S H) (hid T H) := fun a o h => by
  unfold hid at h ⊢
  by_cases m : a ∈ S
  · rw [if_pos m] at h; cases h
  · rw [if_neg m] at h; rw [if_neg fun z => m (s a z)]; exact h
theorem hid_at {a : Addr} {o : HO} (n : a ∉ S) (h : H a = some o) : hid S H a = some o := by
  unfold hid; rw [if_neg n]; exact h
theorem hid_out {a : Addr} {o : HO} (h : hid S H a = some o) : a ∉ S ∧ H a = some o := by
  unfold hid at h
  by_cases m : a ∈ S
  · rw [if_pos m] at h; cases h
  · rw [if_neg m] at h; exact ⟨m, h⟩
theorem Sub.mono (s : Sub S H) (e : Ex H H1) : Sub S H1 := fun a m z => by
  cases q : H a with
  | none => exact s a m q
  | some o => rw [e a o q] at z; cases z
theorem Sub.new (s : Sub S H) {p : Addr} (n : H p = none) : p ∉ S := fun m => s p m n
theorem ex_none (e : Ex H H1) {p : Addr} (h : H1 p = none) : H p = none := Evl.fresh_back e h
end

/-! ### what an evaluation yields -/
inductive Res (α : Type) where
  | ok (a : α) | err (c : Str) | stuck
def Res.bind {α β : Type} : Res α → (α → Res β) → Res β
  | .ok a, f => f a
  | .err c, _ => .err c
  | .stuck, _ => .stuck
def Res.map {α β : Type} (f : α → β) : Res α → Res β
  | .ok a => .ok (f a)
  | .err c => .err c
  | .stuck => .stuck
instance : Monad Res where
  pure := .ok
  bind := Res.bind
@[simp] theorem bind_ok {α β : Type} (a : α) (f : α → Res β) : Res.bind (.ok a) f = f a := rfl
@[simp] theorem bind_err {α β : Type} (c : Str) (f : α → Res β) : Res.bind (.err c) f = .err c := rfl
@[simp] theorem bind_stuck {α β : Type} (f : α → Res β) : Res.bind (.stuck) f = .stuck := rfl
@[simp] theorem map_ok {α β : Type} (a : α) (f : α → β) : Res.map f (.ok a) = .ok (f a) := rfl
@[simp] theorem map_err {α β : Type} (c : Str) (f : α → β) : Res.map f (.err c) = .err c := rfl
@[simp] theorem map_stuck {α β : Type} (f : α → β) : Res.map f (.stuck) = .stuck := rfl

/-- the names' values, by slot -/
abbrev Sl := List (Option D)
/-- the wish about exceptions, by the class's name -/
abbrev Wi := Str → L2.St → Hp → Prop
abbrev EE := Sl → Res D
abbrev EB := Sl → Res Bool
abbrev EL := Sl → Res (List D)

structure EnvOk (K : PySem.W.Frag) (R : List Nat) (env : Sl) (σ : L2.St) (H : Hp) : Prop where
  len : env.length = σ.length
  get : ∀ i ∈ R, ∀ d, env[i]? = some (some d) → ∃ v, σ[i]? = some (some v) ∧ Den K H v d
section
variable {K : PySem.W.Frag} {R Ra Rb : List Nat} {env : Sl} {σ : L2.St} {H H1 : Hp}
theorem EnvOk.mono (o : EnvOk K R env σ H) (e : Ex H H1) : EnvOk K R env σ H1 := ⟨o.len, fun i m d h => by
  obtain ⟨v, a, b⟩ := o.get i m d h
  exact ⟨v, a, b.mono e⟩⟩
theorem EnvOk.left (o : EnvOk K (Ra ++ Rb) env σ H) : EnvOk K Ra env σ H := ⟨o.len, fun i m => o.get i (List.mem_append_left _ m)⟩
theorem EnvOk.right (o : EnvOk K (Ra ++ Rb) env σ H) : EnvOk K Rb env σ H := ⟨o.len, fun i m => o.get i (List.mem_append_right _ m)⟩
end

def Post {α β : Type} (Rel : Hp → β → α → Prop) (w : Wi) (S : List Addr) (σ : L2.St) (H : Hp) (Q : β → Hp → Prop) : Res α → Prop
  | .ok a => ∀ b H1, Ex H H1 → Rel (hid S H1) b a → Q b H1
  | .err c => ∀ H1, Ex H H1 → w c σ H1
  | .stuck => False
section
variable {α β γ δ : Type} {Rel : Hp → β → α → Prop} {Rel2 : Hp → δ → γ → Prop} {w : Wi} {S : List Addr} {σ : L2.St} {H H1 : Hp} {Q : β → Hp → Prop} {Q2 : δ → Hp → Prop}
theorem Post.mono {r : Res α} (h : Post Rel w S σ H Q r) (e : Ex H H1) : Post Rel w S σ H1 Q r := by
  cases r with
  | ok a => exact fun b H2 e2 r => h b H2 (e.trans e2) r
  | err c => exact fun H2 e2 => h H2 (e.trans e2)
  | stuck => exact h
theorem Post.bind {r : Res α} {k : α → Res γ} (h : Post Rel2 w S σ H Q2 (r.bind k)) (hk : ∀ a, r = .ok a → ∀ b H1, Ex H H1 → Rel (hid S H1) b a → Post Rel2 w S σ H1 Q2 (k a) → Q b H1) : Post Rel w S σ H Q r := by
  cases r with
  | ok a => exact fun b H1 e r => hk a rfl b H1 e r (Post.mono (r := k a) h e)
  | err c => exact h
  | stuck => exact h
theorem Post.map {r : Res α} {k : α → γ} (h : Post Rel2 w S σ H Q2 (r.map k)) (hk : ∀ a, r = .ok a → ∀ b H1, Ex H H1 → Rel (hid S H1) b a → (∀ d H2, Ex H1 H2 → Rel2 (hid S H2) d (k a) → Q2 d H2) → Q b H1) : Post Rel w S σ H Q r := by
  cases r with
  | ok a => exact fun b H1 e r => hk a rfl b H1 e r fun d H2 e2 r2 => h d H2 (e.trans e2) r2
  | err c => exact h
  | stuck => exact h
theorem Post.okay {a : α} {b : β} (h : Post Rel w S σ H Q (.ok a)) (r : Rel (hid S H) b a) : Q b H := h b H (Evl.Ex.refl H) r
end

/-- the reading that data give -/
def tS {α β : Type} (Rel : Hp → β → α → Prop) (K : PySem.W.Frag) (w : Wi) (R : List Nat) (f : Sl → Res α) : L2.St → Hp → (β → Hp → Prop) → Prop :=
  fun σ H Q => ∃ (S : List Addr) (env : Sl), Sub S H ∧ EnvOk K R env σ (hid S H) ∧ Post Rel w S σ H Q (f env)
abbrev isB : Hp → Bool → Bool → Prop := fun _ b a => b = a
abbrev isO : Hp → Option Int → Option Int → Prop := fun _ b a => b = a

abbrev DE (X : Cx) (w : Wi) (R : List Nat) (e : Expr) (f : EE) : Prop := PE X e (tS (Den X.K) X.K w R f)
abbrev DT (X : Cx) (w : Wi) (R : List Nat) (e : Expr) (f : EB) : Prop := PT X e (tS isB X.K w R f)
abbrev DW (X : Cx) (w : Wi) (R : List Nat) (e : Expr) (f : EB) : Prop := PW X e (tS isB X.K w R f)
structure DA (X : Cx) (w : Wi) (R : List Nat) (es : List Expr) (f : EL) : Prop where
  pa : PA X es (tS (DenL X.K) X.K w R f)
  len : ∀ env ds, f env = .ok ds → ds.length = es.length
abbrev DP (X : Cx) (w : Wi) (R : List Nat) (e : Option Expr) (f : Sl → Res (Option Int)) : Prop := PO X e (tS isO X.K w R f)
/-- a new list -/
def PostF (K : PySem.W.Frag) (w : Wi) (S : List Addr) (σ : L2.St) (H : Hp) (Q : VK) : Res (List D) → Prop
  | .ok ds => ∀ p vs H1, H p = none → Ex H H1 → H1 p = some (.lst vs) → DenL K (hid (p :: S) H1) vs ds → Q (.ref p) H1
  | .err c => ∀ H1, Ex H H1 → w c σ H1
  | .stuck => False
def tF (K : PySem.W.Frag) (w : Wi) (R : List Nat) (f : EL) : TE := fun σ H Q => ∃ (S : List Addr) (env : Sl), Sub S H ∧ EnvOk K R env σ (hid S H) ∧ PostF K w S σ H Q (f env)
abbrev DL (X : Cx) (w : Wi) (R : List Nat) (e : Expr) (f : EL) : Prop := PE X e (tF X.K w R f)

theorem PE.weak {X : Cx} {e : Expr} {t t' : TE} (h : PE X e t) (i : ∀ σ H Q, t' σ H Q → t σ H Q) : PE X e t' := ⟨fun pins s σ H Q I q => h.run pins s σ H Q I (i σ H Q q)⟩
theorem PT.weak {X : Cx} {e : Expr} {t t' : TT} (h : PT X e t) (i : ∀ σ H Q, t' σ H Q → t σ H Q) : PT X e t' := ⟨fun pins s σ H Q I q => h.run pins s σ H Q I (i σ H Q q)⟩
theorem PW.weak {X : Cx} {e : Expr} {t t' : TT} (h : PW X e t) (i : ∀ σ H Q, t' σ H Q → t σ H Q) : PW X e t' := ⟨fun wh pins s σ H Q I q => h.run wh pins s σ H Q I (i σ H Q q)⟩
theorem PA.weak {X : Cx} {e : List Expr} {t t' : TA} (h : PA X e t) (i : ∀ σ H Q, t' σ H Q → t σ H Q) : PA X e t' := ⟨fun po pins s σ H Q I q => h.run po pins s σ H Q I (i σ H Q q)⟩
theorem PO.weak {X : Cx} {e : Option Expr} {t t' : TO} (h : PO X e t) (i : ∀ σ H Q, t' σ H Q → t σ H Q) : PO X e t' := ⟨fun pins s σ H Q I q => h.run pins s σ H Q I (i σ H Q q)⟩
theorem PS.weak {X : Cx} {e : Stmt} {t t' : TS} (h : PS X e t) (i : ∀ D σ H, t' D σ H → t D σ H) : PS X e t' := ⟨fun pins s σ H D I q => h.run pins s σ H D I (i D σ H q)⟩
theorem PSs.weak {X : Cx} {e : List Stmt} {t t' : TS} (h : PSs X e t) (i : ∀ D σ H, t' D σ H → t D σ H) : PSs X e t' := ⟨fun pins s σ H D I q => h.run pins s σ H D I (i D σ H q)⟩
end Dx
set_option Elab.async false
set_option linter.all false
set_option maxRecDepth 100000
set_option maxHeartbeats 4000000
namespace Dx
open PySem PySem.Spec PyProof.Rows L2
open Evl (Ex)

/-! ### names, constants -/
def eVar (i : Nat) : EE := fun env => match env[i]? with
  | some (some d) => .ok d
  | _ => .stuck
def eC (d : D) : EE := fun _ => .ok d
section
variable {X : Cx} {w : Wi} {R Ra Rb Rc : List Nat} {a b c e : Expr} {f f1 f2 f3 : EE} {pos : Pos}
theorem de_var (i : Nat) {x : Str} (hN : X.N[i]? = some x := by rfl) (hv : Vis X.env.scope x := by first | exact Or.inl rfl | exact Or.inr (Or.inl rfl) | exact Or.inr (Or.inr rfl)) (hd : (x == ("__debug__" : Str)) = false := by decide)
    (hcd : (x == ("__classdict__" : Str)) = false := by decide) : DE X w [i] (.Name x pos) (eVar i) :=
  PE.weak (pe_var hN hv hd hcd) fun σ H Q ⟨S, env, sub, ok, po⟩ => by
    unfold eVar at po
    split at po
    · rename_i d h
      obtain ⟨v, hv, dv⟩ := ok.get i (List.mem_singleton.mpr rfl) d h
      exact ⟨v, hv, po.okay dv⟩
    · exact po.elim
theorem const_of {v : V} {d : D} (h : PE X e (tC v)) (hd : ∀ H, Den X.K H v d) : DE X w [] e (eC d) := PE.weak h fun σ H Q ⟨S, env, sub, ok, po⟩ => Post.okay (Rel := Den X.K) po (hd _)
theorem de_int {i : Int} {j : Nat} : DE X w [] (.Constant (.int i) j pos) (eC (.int i)) := const_of pe_int fun _ => .int i
theorem de_bl {i : Bool} {j : Nat} : DE X w [] (.Constant (.bool i) j pos) (eC (.bl i)) := const_of pe_bl fun _ => .bl i
theorem de_non {j : Nat} : DE X w [] (.Constant .none j pos) (eC .non) := const_of pe_non fun _ => .non
theorem de_str {x : Str} {j : Nat} : DE X w [] (.Constant (.str x) j pos) (eC (.str x)) := const_of pe_str fun _ => .str x
theorem de_glob {x : Str} {v : V} {u : Value} {d : D} (hm : X.mg x = some u) (r : RelV v u) (hd : ∀ H, Den X.K H v d) (hg : Gl X x := by rfl) (hdb : (x == ("__debug__" : Str)) = false := by decide) : DE X w [] (.Name x pos) (eC d) := const_of (pe_glob hg hm r hdb) hd

/-! ### operators -/
def eBin (g : D → D → Res D) (f1 f2 : EE) : EE := fun env => (f1 env).bind fun x => (f2 env).bind fun y => g x y
def eUn (g : D → Res D) (f : EE) : EE := fun env => (f env).bind g
abbrev PostV (K : PySem.W.Frag) (w : Wi) (S : List Addr) (σ : L2.St) (H : Hp) (Q : VK) (r : Res D) : Prop := Post (Den K) w S σ H Q r
/-- an operator's rule by values gives its data -/
def Op2 (K : PySem.W.Frag) (w : Wi) (r : R2) (g : D → D → Res D) : Prop :=
  ∀ (S : List Addr) (σ : L2.St) (H : Hp) (x y : V) (a b : D) (Q : VK), Sub S H → Den K (hid S H) x a → Den K (hid S H) y b → PostV K w S σ H Q (g a b) → r x y H Q
def Op1 (K : PySem.W.Frag) (w : Wi) (r : V → Hp → VK → Prop) (g : D → Res D) : Prop :=
  ∀ (S : List Addr) (σ : L2.St) (H : Hp) (x : V) (a : D) (Q : VK), Sub S H → Den K (hid S H) x a → PostV K w S σ H Q (g a) → r x H Q
theorem bin_of {r : R2} {g : D → D → Res D} (hr : Op2 X.K w r g) {σ : L2.St} {H : Hp} {Q : VK} (h : tS (Den X.K) X.K w (Ra ++ Rb) (eBin g f1 f2) σ H Q) : tOp r (tS (Den X.K) X.K w Ra f1) (tS (Den X.K) X.K w Rb f2) σ H Q := by
  obtain ⟨S, env, sub, ok, po⟩ := h
  refine ⟨S, env, sub, ok.left, Post.bind (Rel2 := Den X.K) (k := fun x => (f2 env).bind fun y => g x y) po fun x _ v H1 e1 d1 po1 => ?_⟩
  refine ⟨S, env, sub.mono e1, ok.right.mono (hid_ex e1), Post.bind (Rel2 := Den X.K) (k := fun y => g x y) po1 fun y _ u H2 e2 d2 po2 => ?_⟩
  exact hr S σ H2 v u x y Q ((sub.mono e1).mono e2) (d1.mono (hid_ex e2)) d2 po2
theorem de_bin {op : Operator} {r : R2} {g : D → D → Res D} (ho : OpR X (binaryOp op) r) (hr : Op2 X.K w r g) (ha : DE X w Ra a f1) (hb : DE X w Rb b f2) : DE X w (Ra ++ Rb) (.BinOp a op b pos) (eBin g f1 f2) :=
  PE.weak (pe_op ho ha hb) fun _ _ _ h => bin_of hr h
theorem de_cmp {op : CmpOp} {r : R2} {g : D → D → Res D} (ho : OpR X (compareOp op) r) (hr : Op2 X.K w r g) (ha : DE X w Ra a f1) (hb : DE X w Rb b f2) (hm : behindInMarks op b = false) : DE X w (Ra ++ Rb) (.Compare a [op] [b] pos) (eBin g f1 f2) :=
  PE.weak (pe_cmpR ho ha hb hm) fun _ _ _ h => bin_of hr h
theorem de_un {op : UnaryOp} {r : V → Hp → VK → Prop} {g : D → Res D} (ho : UnR X (unaryOp op) r) (hr : Op1 X.K w r g) (ha : DE X w R a f) : DE X w R (.UnaryOp op a pos) (eUn g f) :=
  PE.weak (pe_un ho ha) fun σ H Q ⟨S, env, sub, ok, po⟩ => ⟨S, env, sub, ok, Post.bind (Rel2 := Den X.K) po fun x _ v H1 e1 d1 po1 => hr S σ H1 v x Q (sub.mono e1) d1 po1⟩

/-- how a value lies: what the data say -/
theorem den_int {K : PySem.W.Frag} {H : Hp} {v : V} {i : Int} (h : Den K H v (.int i)) : v = .int i := by cases h; rfl
theorem den_str {K : PySem.W.Frag} {H : Hp} {v : V} {i : Str} (h : Den K H v (.str i)) : v = .str i := by cases h; rfl
theorem den_bl {K : PySem.W.Frag} {H : Hp} {v : V} {i : Bool} (h : Den K H v (.bl i)) : v = .bl i := by cases h; rfl
theorem den_non {K : PySem.W.Frag} {H : Hp} {v : V} (h : Den K H v .non) : v = .non := by cases h; rfl
theorem den_lst {K : PySem.W.Frag} {H : Hp} {v : V} {ds : List D} (h : Den K H v (.lst ds)) : ∃ a xs, v = .ref a ∧ H a = some (.lst xs) ∧ DenL K H xs ds := by cases h with | lst h r => exact ⟨_, _, rfl, h, r⟩
theorem den_tup {K : PySem.W.Frag} {H : Hp} {v : V} {ds : List D} (h : Den K H v (.tup ds)) : ∃ a xs, v = .ref a ∧ SqT K H a xs ∧ DenL K H xs ds := by cases h with | tup h r => exact ⟨_, _, rfl, h, r⟩
theorem den_fz {K : PySem.W.Frag} {H : Hp} {v : V} {ds : List D} (h : Den K H v (.fz ds)) : ∃ a xs, v = .ref a ∧ SqL K H a xs ∧ DenL K H xs ds := by cases h with | fz h r => exact ⟨_, _, rfl, h, r⟩
theorem den_obj {K : PySem.W.Frag} {H : Hp} {v : V} {C : Addr} {gs : List (Str × D)} (h : Den K H v (.obj C gs)) : ∃ a dx fs, v = .ref a ∧ H a = some (.ins C dx fs) ∧ DenF K H fs gs := by cases h with | obj h r => exact ⟨_, _, _, rfl, h, r⟩

end

/-- a list or tuple, small enough to be joined, copied -/
def lim {α : Type} (n : Nat) (r : Res α) : Res α := if n ≤ 100000 then r else .stuck
theorem lim_ok {α : Type} {n : Nat} {r : Res α} (h : n ≤ 100000) : lim n r = r := if_pos h
theorem Post.lim {α β : Type} {Rel : Hp → β → α → Prop} {w : Wi} {S : List Addr} {σ : L2.St} {H : Hp} {Q : β → Hp → Prop} {n : Nat} {r : Res α} (h : Post Rel w S σ H Q (lim n r)) : n ≤ sizeLine ∧ Post Rel w S σ H Q r := by
  unfold Dx.lim at h
  split at h
  · exact ⟨Evl.sz_of (by assumption), h⟩
  · exact h.elim
namespace D
def add : D → D → Res D
  | .int i, .int j => .ok (.int (i + j))
  | .str x, .str y => lim (x.length + y.length) (.ok (.str (x ++ y)))
  | .lst x, .lst y => lim (x.length + y.length) (.ok (.lst (x ++ y)))
  | .tup x, .tup y => lim (x.length + y.length) (if x = [] then .stuck else .ok (.tup (x ++ y)))
  | _, _ => .stuck
def sub : D → D → Res D
  | .int i, .int j => .ok (.int (i - j))
  | _, _ => .stuck
/-- one factor below 2 ^ 64 -/
def fits (i : Int) : Bool := decide (-(2 ^ 64) < i) && decide (i < 2 ^ 64)
def mul : D → D → Res D
  | .int i, .int j => if fits i || fits j then .ok (.int (i * j)) else .stuck
  | _, _ => .stuck
def fdiv : D → D → Res D
  | .int i, .int j => if 0 < j ∧ j < 1073741824 then .ok (.int (i / j)) else .stuck
  | _, _ => .stuck
def mod : D → D → Res D
  | .int i, .int j => if 0 < j then .ok (.int (i % j)) else .stuck
  | _, _ => .stuck
def neg : D → Res D
  | .int i => .ok (.int (-i))
  | _ => .stuck
def lt : D → D → Res D
  | .int i, .int j => .ok (.bl (decide (i < j)))
  | .str i, .str j => .ok (.bl (decide (i.cps.toList < j.cps.toList)))
  | _, _ => .stuck
def le : D → D → Res D
  | .int i, .int j => .ok (.bl (decide (i ≤ j)))
  | .str i, .str j => .ok (.bl (!decide (j.cps.toList < i.cps.toList)))
  | _, _ => .stuck
def gt : D → D → Res D
  | .int i, .int j => .ok (.bl (decide (j < i)))
  | _, _ => .stuck
def ge : D → D → Res D
  | .int i, .int j => .ok (.bl (decide (j ≤ i)))
  | _, _ => .stuck
def isN : D → D → Res D
  | .raw _, _ => .stuck
  | .non, .non => .ok (.bl true)
  | _, .non => .ok (.bl false)
  | _, _ => .stuck
def notN : D → D → Res D
  | .raw _, _ => .stuck
  | .non, .non => .ok (.bl false)
  | _, .non => .ok (.bl true)
  | _, _ => .stuck
def flat : D → Bool
  | .non => true
  | .bl _ => true
  | .int _ => true
  | .str _ => true
  | _ => false
/-- == of flat data -/
def eqF : D → D → Bool
  | .non, .non => true
  | .bl a, .bl b => a == b
  | .bl a, .int b => (if a then 1 else 0) == b
  | .int a, .bl b => a == (if b then 1 else 0)
  | .int a, .int b => a == b
  | .str a, .str b => a == b
  | _, _ => false
def isIn (x : D) (ds : List D) : Res Bool := if flat x && ds.all flat then .ok (ds.any fun y => eqF y x) else .stuck
def mem : D → D → Res Bool
  | x, .lst ds => isIn x ds
  | x, .tup ds => isIn x ds
  | x, .fz ds => isIn x ds
  | .str x, .str z => .ok (!(Builtin.Str.occurrences z x 0 z.length 1).isEmpty)
  | _, _ => .stuck
def inn (a b : D) : Res D := (mem a b).map .bl
def nin (a b : D) : Res D := (mem a b).map fun k => .bl (!k)
mutual
/-- without objects, n levels deep at most -/
def okd : Nat → D → Bool
  | _, .non => true
  | _, .bl _ => true
  | _, .int _ => true
  | _, .str x => x.cps.all (· < 0x110000)
  | n + 1, .lst xs => okdA n xs
  | n + 1, .tup xs => okdA n xs
  | n + 1, .fz xs => okdA n xs
  | _, _ => false
def okdA : Nat → List D → Bool
  | _, [] => true
  | n, x :: xs => okd n x && okdA n xs
end
mutual
def py : D → PyData
  | .non => .none
  | .bl b => .bool b
  | .int i => .int i
  | .str x => .str x
  | .lst xs => .list (pyA xs)
  | .tup xs => .tuple (pyA xs)
  | .fz xs => .list (pyA xs)
  | _ => .none
def pyA : List D → List PyData
  | [] => []
  | x :: xs => py x :: pyA xs
end
/-- == of data -/
def eqv (a b : D) : Bool := PyData.eqv a.py b.py
/-- texts alone, or data of any form -/
def okq (a b : D) : Bool := (match a, b with | .str _, .str _ => true | _, _ => false) || (okd 8 a && okd 8 b)
def eq (a b : D) : Res D := if okq a b then .ok (.bl (eqv a b)) else .stuck
def ne (a b : D) : Res D := if okq a b then .ok (.bl (!eqv a b)) else .stuck
end D
open D (okd okdA py pyA)

mutual
theorem okd_lay : ∀ (n : Nat) (d : D), okd n d = true → (py d).canLay0 = true ∧ (py d).depth ≤ n
  | _, .non, _ => ⟨rfl, Nat.zero_le _⟩
  | _, .bl _, _ => ⟨rfl, Nat.zero_le _⟩
  | _, .int _, _ => ⟨rfl, Nat.zero_le _⟩
  | _, .str x, h => ⟨by simpa [okd, py, PyData.canLay0, PyData.strOk] using h, Nat.zero_le _⟩
  | n + 1, .lst xs, h => by
    obtain ⟨a, b⟩ := okdA_lay n xs (by simpa [okd] using h)
    exact ⟨by simpa [py, PyData.canLay0] using a, by simpa [py, PyData.depth] using Nat.succ_le_succ b⟩
  | n + 1, .tup xs, h => by
    obtain ⟨a, b⟩ := okdA_lay n xs (by simpa [okd] using h)
    exact ⟨by simpa [py, PyData.canLay0] using a, by simpa [py, PyData.depth] using Nat.succ_le_succ b⟩
  | n + 1, .fz xs, h => by
    obtain ⟨a, b⟩ := okdA_lay n xs (by simpa [okd] using h)
    exact ⟨by simpa [py, PyData.canLay0] using a, by simpa [py, PyData.depth] using Nat.succ_le_succ b⟩
  | 0, .lst _, h => by simp [okd] at h
  | 0, .tup _, h => by simp [okd] at h
  | 0, .fz _, h => by simp [okd] at h
  | 0, .obj _ _, h => by simp [okd] at h
  | 0, .raw _, h => by simp [okd] at h
  | _ + 1, .obj _ _, h => by simp [okd] at h
  | _ + 1, .raw _, h => by simp [okd] at h
theorem okdA_lay : ∀ (n : Nat) (ds : List D), okdA n ds = true → PyData.canLayAll0 (pyA ds) = true ∧ PyData.depthAll (pyA ds) ≤ n
  | _, [], _ => ⟨rfl, Nat.zero_le _⟩
  | n, d :: ds, h => by
    rw [okdA, Bool.and_eq_true] at h
    obtain ⟨a1, b1⟩ := okd_lay n d h.1
    obtain ⟨a2, b2⟩ := okdA_lay n ds h.2
    exact ⟨by simp [pyA, PyData.canLayAll0, a1, a2], by simpa [pyA, PyData.depthAll] using Nat.max_le.mpr ⟨b1, b2⟩⟩
end
theorem okd_shaped {d : D} (h : okd 8 d = true) : SeqAt.shaped (py d) = true := by
  obtain ⟨a, b⟩ := okd_lay 8 d h
  unfold SeqAt.shaped
  rw [a, Bool.true_and]
  exact decide_eq_true (by omega)
section
variable {K : PySem.W.Frag} {H : Hp}
mutual
theorem Den.dp : ∀ {n : Nat} {v : V} {d : D}, Den K H v d → okd n d = true → Dp K H v (py d)
  | _, _, _, .non, _ => .non
  | _, _, _, .bl b, _ => .bl b
  | _, _, _, .int i, _ => .int i
  | _, _, _, .str x, _ => .str x
  | n + 1, _, _, .lst h r, o => .lst (.of h) (DenL.dp (n := n) r (by simpa [okd] using o))
  | n + 1, _, _, .tup h r, o => .tup h (DenL.dp (n := n) r (by simpa [okd] using o))
  | n + 1, _, _, .fz h r, o => .lst h (DenL.dp (n := n) r (by simpa [okd] using o))
  | 0, _, _, .lst h r, o => by simp [okd] at o
  | 0, _, _, .tup h r, o => by simp [okd] at o
  | 0, _, _, .fz h r, o => by simp [okd] at o
  | n, _, _, .obj h r, o => by cases n <;> simp [okd] at o
  | n, _, _, .raw v, o => by cases n <;> simp [okd] at o
theorem DenL.dp : ∀ {n : Nat} {vs : List V} {ds : List D}, DenL K H vs ds → okdA n ds = true → DpAll K H vs (pyA ds)
  | _, _, _, .nil, _ => .nil
  | n, _, _, .cons h r, o => by
    rw [okdA, Bool.and_eq_true] at o
    exact .cons (Den.dp h o.1) (DenL.dp r o.2)
end
end
end Dx
set_option Elab.async false
set_option linter.all false
set_option maxRecDepth 100000
set_option maxHeartbeats 4000000
namespace Dx
open PySem PySem.Spec PyProof.Rows L2
open Evl (Ex)
open D (okd okdA py pyA)
section
variable {X : Cx} {w : Wi} {K : PySem.W.Frag}

/-! ### arithmetic and joining -/
def rAdd4 (K : PySem.W.Frag) : R2 := fun x y H Q => rI0 (fun i j => .int (i + j)) x y H Q ∨ (∃ i j, x = .str i ∧ y = .str j ∧ i.length + j.length ≤ sizeLine ∧ Q (.str (i ++ j)) H) ∨ rCat x y H Q ∨ rCatT K x y H Q
theorem opr_add : OpR X (binaryOp .Add) (rAdd4 X.K) := op_add.or (op_add_str.or (op_cat.or op_catT))
theorem op2_add : Op2 K w (rAdd4 K) D.add := fun S σ H x y a b Q sub da db po => by
  cases a <;> cases b <;> first | exact po.elim | skip
  · exact .inl ⟨_, _, den_int da, den_int db, Post.okay (Rel := Den K) po (.int _)⟩
  · obtain ⟨h, po⟩ := Post.lim po
    exact .inr (.inl ⟨_, _, den_str da, den_str db, h, Post.okay (Rel := Den K) po (.str _)⟩)
  · obtain ⟨h, po⟩ := Post.lim po
    obtain ⟨p, xs, rfl, hp, rp⟩ := den_lst da
    obtain ⟨q, ys, rfl, hq, rq⟩ := den_lst db
    refine .inr (.inr (.inl ⟨p, q, xs, ys, rfl, rfl, (hid_out hp).2, (hid_out hq).2, by rw [rp.len, rq.len]; exact h, fun l hl => ?_⟩))
    have e : Ex H (upd H l (.lst (xs ++ ys))) := Evl.Ex.new hl
    exact po _ _ e (.lst (hid_at (sub.new hl) upd_same) ((rp.append rq).mono (hid_ex e)))
  · obtain ⟨h, po⟩ := Post.lim po
    obtain ⟨p, xs, rfl, hp, rp⟩ := den_tup da
    obtain ⟨q, ys, rfl, hq, rq⟩ := den_tup db
    split at po
    · exact po.elim
    · rename_i ne
      refine .inr (.inr (.inr ⟨p, q, xs, ys, rfl, rfl, Evl.ex_t hid_le hp, Evl.ex_t hid_le hq, fun z => ?_, by rw [rp.len, rq.len]; exact h, fun z => ?_, fun _ l hl => ?_⟩))
      · subst z
        cases rp
        exact ne rfl
      · subst z
        cases rq
        rw [List.append_nil] at po
        exact Post.okay (Rel := Den K) po (.tup hp rp)
      · have e : Ex H (upd H l (.tup (xs ++ ys))) := Evl.Ex.new hl
        exact po _ _ e (.tup (.of (hid_at (sub.new hl) upd_same)) ((rp.append rq).mono (hid_ex e)))
theorem op2_sub : Op2 K w (rI0 fun i j => .int (i - j)) D.sub := fun S σ H x y a b Q sub da db po => by
  cases a <;> cases b <;> first | exact po.elim | exact ⟨_, _, den_int da, den_int db, Post.okay (Rel := Den K) po (.int _)⟩
theorem fits_ok {i : Int} (h : D.fits i = true) : -(2 ^ 64) < i ∧ i < 2 ^ 64 := by
  unfold D.fits at h
  rw [Bool.and_eq_true] at h
  exact ⟨of_decide_eq_true h.1, of_decide_eq_true h.2⟩
theorem op2_mul : Op2 K w (rI CMul fun i j => .int (i * j)) D.mul := fun S σ H x y a b Q sub da db po => by
  cases a <;> cases b <;> first | exact po.elim | skip
  rename_i i j
  unfold D.mul at po
  by_cases c : (D.fits i || D.fits j) = true
  · simp only [c, if_true] at po
    refine ⟨_, _, den_int da, den_int db, ?_, Post.okay (Rel := Den K) po (.int _)⟩
    rw [Bool.or_eq_true] at c
    exact c.imp fits_ok fits_ok
  · simp only [c] at po
    exact po.elim
theorem op2_fdiv : Op2 K w (rI CDiv fun i j => .int (i / j)) D.fdiv := fun S σ H x y a b Q sub da db po => by
  cases a <;> cases b <;> first | exact po.elim | skip
  unfold D.fdiv at po
  dsimp only at po
  split at po
  · rename_i c
    exact ⟨_, _, den_int da, den_int db, c, Post.okay (Rel := Den K) po (.int _)⟩
  · exact po.elim
theorem op2_mod : Op2 K w (rI (fun _ j => 0 < j) fun i j => .int (i % j)) D.mod := fun S σ H x y a b Q sub da db po => by
  cases a <;> cases b <;> first | exact po.elim | skip
  unfold D.mod at po
  dsimp only at po
  split at po
  · rename_i c
    exact ⟨_, _, den_int da, den_int db, c, Post.okay (Rel := Den K) po (.int _)⟩
  · exact po.elim
theorem op1_neg : Op1 K w (rU fun i => .int (-i)) D.neg := fun S σ H x a Q sub da po => by
  cases a <;> first | exact po.elim | exact ⟨_, den_int da, Post.okay (Rel := Den K) po (.int _)⟩

/-! ### comparisons -/
def rLt2 : R2 := fun x y H Q => rI0 (fun i j => .bl (decide (i < j))) x y H Q ∨ ∃ i j, x = .str i ∧ y = .str j ∧ Q (.bl (decide (i.cps.toList < j.cps.toList))) H
theorem opr_lt : OpR X (compareOp .Lt) rLt2 := op_lt.or op_lt_str
theorem op2_lt : Op2 K w rLt2 D.lt := fun S σ H x y a b Q sub da db po => by
  cases a <;> cases b <;> first | exact po.elim | exact .inl ⟨_, _, den_int da, den_int db, Post.okay (Rel := Den K) po (.bl _)⟩ | exact .inr ⟨_, _, den_str da, den_str db, Post.okay (Rel := Den K) po (.bl _)⟩
def rLe2 : R2 := fun x y H Q => rI0 (fun i j => .bl (decide (i ≤ j))) x y H Q ∨ ∃ i j, x = .str i ∧ y = .str j ∧ Q (.bl (!decide (j.cps.toList < i.cps.toList))) H
theorem opr_le : OpR X (compareOp .LtE) rLe2 := op_le.or op_le_str
theorem op2_le : Op2 K w rLe2 D.le := fun S σ H x y a b Q sub da db po => by
  cases a <;> cases b <;> first | exact po.elim | exact .inl ⟨_, _, den_int da, den_int db, Post.okay (Rel := Den K) po (.bl _)⟩ | exact .inr ⟨_, _, den_str da, den_str db, Post.okay (Rel := Den K) po (.bl _)⟩
theorem op2_gt : Op2 K w (rI0 fun i j => .bl (decide (j < i))) D.gt := fun S σ H x y a b Q sub da db po => by
  cases a <;> cases b <;> first | exact po.elim | exact ⟨_, _, den_int da, den_int db, Post.okay (Rel := Den K) po (.bl _)⟩
theorem op2_ge : Op2 K w (rI0 fun i j => .bl (decide (j ≤ i))) D.ge := fun S σ H x y a b Q sub da db po => by
  cases a <;> cases b <;> first | exact po.elim | exact ⟨_, _, den_int da, den_int db, Post.okay (Rel := Den K) po (.bl _)⟩
theorem op2_isN : Op2 K w (fun x y H Q => y = .non ∧ Q (.bl (decide (x = .non))) H) D.isN := fun S σ H x y a b Q sub da db po => by
  cases b <;> first | (cases a <;> exact po.elim) | skip
  cases a <;> first | exact po.elim | skip
  all_goals (refine ⟨den_non db, ?_⟩)
  all_goals (have z := Post.okay (Rel := Den K) po (.bl _))
  all_goals (cases da; exact z)
theorem op2_notN : Op2 K w (fun x y H Q => y = .non ∧ Q (.bl (!decide (x = .non))) H) D.notN := fun S σ H x y a b Q sub da db po => by
  cases b <;> first | (cases a <;> exact po.elim) | skip
  cases a <;> first | exact po.elim | skip
  all_goals (refine ⟨den_non db, ?_⟩)
  all_goals (have z := Post.okay (Rel := Den K) po (.bl _))
  all_goals (cases da; exact z)
theorem flat_den {H : Hp} {v : V} {d : D} (h : Den K H v d) (f : D.flat d = true) : flatV v = true := by
  cases h <;> first | rfl | exact absurd f Bool.false_ne_true
theorem eqF_den {H : Hp} {v u : V} {d c : D} (h : Den K H v d) (f : D.flat d = true) (h' : Den K H u c) (f' : D.flat c = true) : eqV v u = D.eqF d c := by
  cases h <;> first | exact absurd f Bool.false_ne_true | (cases h' <;> first | exact absurd f' Bool.false_ne_true | rfl)
theorem flats_den {H : Hp} : ∀ {vs : List V} {ds : List D}, DenL K H vs ds → ds.all D.flat = true → vs.all flatV = true
  | _, _, .nil, _ => rfl
  | _, _, .cons h r, f => by
    rw [List.all_cons, Bool.and_eq_true] at f ⊢
    exact ⟨flat_den h f.1, flats_den r f.2⟩
theorem inV_den {H : Hp} {x : V} {a : D} (h : Den K H x a) (f : D.flat a = true) : ∀ {vs : List V} {ds : List D}, DenL K H vs ds → ds.all D.flat = true → inV x vs = ds.any fun y => D.eqF y a
  | _, _, .nil, _ => rfl
  | _, _, .cons h' r, g => by
    rw [List.all_cons, Bool.and_eq_true] at g
    show (eqV _ x || inV x _) = _
    rw [List.any_cons, eqF_den h' g.1 h f, inV_den h f r g.2]
def rIn2 (K : PySem.W.Frag) : R2 := fun x y H Q => rIn K false x y H Q ∨ ∃ i j, x = .str i ∧ y = .str j ∧ Q (.bl (!(Builtin.Str.occurrences j i 0 j.length 1).isEmpty)) H
def rNin2 (K : PySem.W.Frag) : R2 := fun x y H Q => rIn K true x y H Q ∨ ∃ i j, x = .str i ∧ y = .str j ∧ Q (.bl (!(!(Builtin.Str.occurrences j i 0 j.length 1).isEmpty))) H
theorem opr_in : OpR X (compareOp .In) (rIn2 X.K) := op_in_seq.or op_in_str
theorem opr_nin : OpR X (compareOp .NotIn) (rNin2 X.K) := op_notIn_seq.or op_notin_str
theorem seq_of {S : List Addr} {H : Hp} {y : V} {b : D} {ds : List D} (h : b = .lst ds ∨ b = .tup ds ∨ b = .fz ds) (db : Den K (hid S H) y b) : ∃ p xs, y = .ref p ∧ (SqL K H p xs ∨ SqT K H p xs) ∧ DenL K (hid S H) xs ds := by
  rcases h with rfl | rfl | rfl
  · obtain ⟨p, xs, rfl, hp, rp⟩ := den_lst db
    exact ⟨p, xs, rfl, .inl (.of (hid_out hp).2), rp⟩
  · obtain ⟨p, xs, rfl, hp, rp⟩ := den_tup db
    exact ⟨p, xs, rfl, .inr (Evl.ex_t hid_le hp), rp⟩
  · obtain ⟨p, xs, rfl, hp, rp⟩ := den_fz db
    exact ⟨p, xs, rfl, .inl (Evl.ex_l hid_le hp), rp⟩
theorem isIn_den {S : List Addr} {σ : L2.St} {H : Hp} {x y : V} {a b : D} {ds : List D} {Q : VK} {k : Bool → D} (h : b = .lst ds ∨ b = .tup ds ∨ b = .fz ds) (da : Den K (hid S H) x a) (db : Den K (hid S H) y b) (po : PostV K w S σ H Q ((D.isIn a ds).map k)) :
    ∃ p xs, y = .ref p ∧ (SqL K H p xs ∨ SqT K H p xs) ∧ flatV x = true ∧ xs.all flatV = true ∧ PostV K w S σ H Q (.ok (k (inV x xs))) := by
  obtain ⟨p, xs, rfl, hp, rp⟩ := seq_of h db
  unfold D.isIn at po
  by_cases c : (D.flat a && ds.all D.flat) = true
  · rw [if_pos c] at po
    rw [Bool.and_eq_true] at c
    exact ⟨p, xs, rfl, hp, flat_den da c.1, flats_den rp c.2, by rw [inV_den da c.1 rp c.2]; exact po⟩
  · rw [if_neg c] at po
    exact po.elim
theorem op2_in : Op2 K w (rIn2 K) D.inn := fun S σ H x y a b Q sub da db po => by
  have seq : ∀ ds, (b = .lst ds ∨ b = .tup ds ∨ b = .fz ds) → PostV K w S σ H Q ((D.isIn a ds).map .bl) → rIn2 K x y H Q := fun ds h po => by
    obtain ⟨p, xs, e, hp, f1, f2, po⟩ := isIn_den h da db po
    exact .inl ⟨p, xs, e, hp, f1, f2, Post.okay (Rel := Den K) po (.bl _)⟩
  cases b with
  | lst ds => exact seq ds (.inl rfl) (by cases a <;> exact po)
  | tup ds => exact seq ds (.inr (.inl rfl)) (by cases a <;> exact po)
  | fz ds => exact seq ds (.inr (.inr rfl)) (by cases a <;> exact po)
  | str z =>
    cases a <;> first | exact po.elim | skip
    exact .inr ⟨_, _, den_str da, den_str db, Post.okay (Rel := Den K) po (.bl _)⟩
  | _ => cases a <;> exact po.elim
theorem op2_nin : Op2 K w (rNin2 K) D.nin := fun S σ H x y a b Q sub da db po => by
  have seq : ∀ ds, (b = .lst ds ∨ b = .tup ds ∨ b = .fz ds) → PostV K w S σ H Q ((D.isIn a ds).map fun k => .bl (!k)) → rNin2 K x y H Q := fun ds h po => by
    obtain ⟨p, xs, e, hp, f1, f2, po⟩ := isIn_den h da db po
    exact .inl ⟨p, xs, e, hp, f1, f2, Post.okay (Rel := Den K) po (.bl _)⟩
  cases b with
  | lst ds => exact seq ds (.inl rfl) (by cases a <;> exact po)
  | tup ds => exact seq ds (.inr (.inl rfl)) (by cases a <;> exact po)
  | fz ds => exact seq ds (.inr (.inr rfl)) (by cases a <;> exact po)
  | str z =>
    cases a <;> first | exact po.elim | skip
    exact .inr ⟨_, _, den_str da, den_str db, Post.okay (Rel := Den K) po (.bl _)⟩
  | _ => cases a <;> exact po.elim
def rEq2 (K : PySem.W.Frag) : R2 := fun x y H Q => rEq x y H Q ∨ rEqD K x y H Q
def rNe2 (K : PySem.W.Frag) : R2 := fun x y H Q => rNe x y H Q ∨ rNeD K x y H Q
theorem opr_eq (hu : X.A.units + 64 < cLine) : OpR X (compareOp .Eq) (rEq2 X.K) := op_eq.or (op_eqD hu)
theorem opr_ne (hu : X.A.units + 64 < cLine) : OpR X (compareOp .NotEq) (rNe2 X.K) := op_ne.or (op_neD hu)
theorem okq_cases {a b : D} (h : D.okq a b = true) : (∃ x y, a = .str x ∧ b = .str y) ∨ (okd 8 a = true ∧ okd 8 b = true) := by
  unfold D.okq at h
  rw [Bool.or_eq_true, Bool.and_eq_true] at h
  rcases h with h | h
  · split at h
    · exact .inl ⟨_, _, rfl, rfl⟩
    · cases h
  · exact .inr h
theorem eqv_str (x y : Str) : D.eqv (.str x) (.str y) = (x == y) := by simp [D.eqv, D.py, PyData.eqv]
theorem op2_eq : Op2 K w (rEq2 K) D.eq := fun S σ H x y a b Q sub da db po => by
  unfold D.eq at po
  by_cases c : D.okq a b = true
  · rw [if_pos c] at po
    have q := Post.okay (Rel := Den K) po (.bl _)
    rcases okq_cases c with ⟨i, j, rfl, rfl⟩ | ⟨h1, h2⟩
    · refine .inl ?_
      rw [den_str da, den_str db]
      refine ⟨rfl, ?_⟩
      rw [dec_str, ← eqv_str]
      exact q
    · exact .inr ⟨_, _, Den.dp (da.mono hid_le) h1, Den.dp (db.mono hid_le) h2, okd_shaped h1, okd_shaped h2, q⟩
  · rw [if_neg c] at po
    exact po.elim
theorem op2_ne : Op2 K w (rNe2 K) D.ne := fun S σ H x y a b Q sub da db po => by
  unfold D.ne at po
  by_cases c : D.okq a b = true
  · rw [if_pos c] at po
    have q := Post.okay (Rel := Den K) po (.bl _)
    rcases okq_cases c with ⟨i, j, rfl, rfl⟩ | ⟨h1, h2⟩
    · refine .inl ?_
      rw [den_str da, den_str db]
      refine ⟨rfl, ?_⟩
      rw [dec_str, ← eqv_str]
      exact q
    · exact .inr ⟨_, _, Den.dp (da.mono hid_le) h1, Den.dp (db.mono hid_le) h2, okd_shaped h1, okd_shaped h2, q⟩
  · rw [if_neg c] at po
    exact po.elim
end

/-! ### operators and comparisons, in short -/
section
variable {X : Cx} {w : Wi} {Ra Rb : List Nat} {a b : Expr} {f f1 f2 : EE} {pos : Pos} {k : Nat}
theorem de_add (ha : DE X w Ra a f1) (hb : DE X w Rb b f2) : DE X w (Ra ++ Rb) (.BinOp a .Add b pos) (eBin D.add f1 f2) := de_bin opr_add op2_add ha hb
theorem de_sub (ha : DE X w Ra a f1) (hb : DE X w Rb b f2) : DE X w (Ra ++ Rb) (.BinOp a .Sub b pos) (eBin D.sub f1 f2) := de_bin op_sub op2_sub ha hb
theorem de_mul (ha : DE X w Ra a f1) (hb : DE X w Rb b f2) : DE X w (Ra ++ Rb) (.BinOp a .Mult b pos) (eBin D.mul f1 f2) := de_bin op_mul op2_mul ha hb
theorem de_fdiv (ha : DE X w Ra a f1) (hb : DE X w Rb b f2) : DE X w (Ra ++ Rb) (.BinOp a .FloorDiv b pos) (eBin D.fdiv f1 f2) := de_bin op_fdiv op2_fdiv ha hb
theorem de_mod (ha : DE X w Ra a f1) (hb : DE X w Rb b f2) : DE X w (Ra ++ Rb) (.BinOp a .Mod b pos) (eBin D.mod f1 f2) := de_bin op_mod op2_mod ha hb
theorem de_neg (ha : DE X w Ra a f) : DE X w Ra (.UnaryOp .USub a pos) (eUn D.neg f) := de_un un_neg op1_neg ha
theorem de_lt (ha : DE X w Ra a f1) (hb : DE X w Rb b f2) : DE X w (Ra ++ Rb) (.Compare a [.Lt] [b] pos) (eBin D.lt f1 f2) := de_cmp opr_lt op2_lt ha hb (nomark _)
theorem de_le (ha : DE X w Ra a f1) (hb : DE X w Rb b f2) : DE X w (Ra ++ Rb) (.Compare a [.LtE] [b] pos) (eBin D.le f1 f2) := de_cmp opr_le op2_le ha hb (nomark _)
theorem de_gt (ha : DE X w Ra a f1) (hb : DE X w Rb b f2) : DE X w (Ra ++ Rb) (.Compare a [.Gt] [b] pos) (eBin D.gt f1 f2) := de_cmp op_gt op2_gt ha hb (nomark _)
theorem de_ge (ha : DE X w Ra a f1) (hb : DE X w Rb b f2) : DE X w (Ra ++ Rb) (.Compare a [.GtE] [b] pos) (eBin D.ge f1 f2) := de_cmp op_ge op2_ge ha hb (nomark _)
theorem de_isN (ha : DE X w Ra a f1) (hb : DE X w Rb b f2) : DE X w (Ra ++ Rb) (.Compare a [.Is] [b] pos) (eBin D.isN f1 f2) := de_cmp op_isN op2_isN ha hb (nomark _)
theorem de_notN (ha : DE X w Ra a f1) (hb : DE X w Rb b f2) : DE X w (Ra ++ Rb) (.Compare a [.IsNot] [b] pos) (eBin D.notN f1 f2) := de_cmp op_notN op2_notN ha hb (nomark _)
theorem de_in (ha : DE X w Ra a f1) (hb : DE X w Rb b f2) (hm : behindInMarks .In b = false := by rfl) : DE X w (Ra ++ Rb) (.Compare a [.In] [b] pos) (eBin D.inn f1 f2) := de_cmp opr_in op2_in ha hb hm
theorem de_nin (ha : DE X w Ra a f1) (hb : DE X w Rb b f2) (hm : behindInMarks .NotIn b = false := by rfl) : DE X w (Ra ++ Rb) (.Compare a [.NotIn] [b] pos) (eBin D.nin f1 f2) := de_cmp opr_nin op2_nin ha hb hm
theorem de_eq (hr : Room k X.A) (ha : DE X w Ra a f1) (hb : DE X w Rb b f2) : DE X w (Ra ++ Rb) (.Compare a [.Eq] [b] pos) (eBin D.eq f1 f2) := de_cmp (opr_eq hr.units) op2_eq ha hb (nomark _)
theorem de_ne (hr : Room k X.A) (ha : DE X w Ra a f1) (hb : DE X w Rb b f2) : DE X w (Ra ++ Rb) (.Compare a [.NotEq] [b] pos) (eBin D.ne f1 f2) := de_cmp (opr_ne hr.units) op2_ne ha hb (nomark _)
end
end Dx
set_option Elab.async false
set_option linter.all false
set_option maxRecDepth 100000
set_option maxHeartbeats 4000000
namespace Dx
open PySem PySem.Spec PyProof.Rows L2
open Evl (Ex)
open D (okd okdA py pyA)
/-! ### tests -/
namespace D
def isBl : D → Res Bool
  | .bl b => .ok b
  | _ => .stuck
def truth : D → Res Bool
  | .non => .ok false
  | .bl b => .ok b
  | .int i => .ok (i != 0)
  | .str y => lim y.length (.ok ((y.length : Int) != 0))
  | .lst xs => .ok (!xs.isEmpty)
  | .tup xs => .ok (!xs.isEmpty)
  | .fz xs => .ok (!xs.isEmpty)
  | _ => .stuck
def nt : D → Res D
  | .bl b => .ok (.bl (!b))
  | _ => .stuck
end D
def eTest (f : EE) : EB := fun env => (f env).bind D.isBl
def eTruth (f : EE) : EB := fun env => (f env).bind D.truth
def eNotB (f : EB) : EB := fun env => (f env).map (!·)
def eAndB (f g : EB) : EB := fun env => (f env).bind fun b => if b = true then g env else .ok false
def eOrB (f g : EB) : EB := fun env => (f env).bind fun b => if b = true then .ok true else g env
def eAndV (f g : EE) : EE := fun env => (f env).bind fun d => (D.isBl d).bind fun b => if b = true then g env else .ok (.bl false)
def eOrV (f g : EE) : EE := fun env => (f env).bind fun d => (D.isBl d).bind fun b => if b = true then .ok (.bl true) else g env
def eIf (t : EB) (f g : EE) : EE := fun env => (t env).bind fun b => if b = true then f env else g env
def eChain (g g' : D → D → Res D) (f1 f2 f3 : EE) : EE := fun env => (f1 env).bind fun x => (f2 env).bind fun y => (g x y).bind fun z => (D.isBl z).bind fun b => if b = true then (f3 env).bind fun u => g' y u else .ok (.bl false)
section
variable {X : Cx} {w : Wi} {R Ra Rb Rc : List Nat} {a b c e : Expr} {rest : List Expr} {f f1 f2 f3 : EE} {t t1 t2 : EB} {pos : Pos} {k : Nat}
theorem isBl_den {K : PySem.W.Frag} {H : Hp} {v : V} {d : D} {b : Bool} (h : Den K H v d) (e : D.isBl d = .ok b) : v = .bl b := by
  cases h <;> first | (cases e; rfl) | (exact nomatch e)
theorem isBl_ok {d : D} {γ δ : Type} {Rel : Hp → δ → γ → Prop} {w : Wi} {S : List Addr} {σ : L2.St} {H : Hp} {Q : δ → Hp → Prop} {k : Bool → Res γ} (po : Post Rel w S σ H Q ((D.isBl d).bind k)) : ∃ b, d = .bl b ∧ Post Rel w S σ H Q (k b) := by
  cases d <;> first | exact po.elim | exact ⟨_, rfl, po⟩
theorem dt_cmp {op : CmpOp} {r : R2} {g : D → D → Res D} (ho : OpR X (compareOp op) r) (hr : Op2 X.K w r g) (ha : DE X w Ra a f1) (hb : DE X w Rb b f2) (hm : behindInMarks op b = false) : DT X w (Ra ++ Rb) (.Compare a [op] [b] pos) (eTest (eBin g f1 f2)) :=
  PT.weak (pt_cmpR ho ha hb hm) fun σ H Q ⟨S, env, sub, ok, po⟩ => by
    refine bin_of hr ⟨S, env, sub, ok, Post.bind (Rel2 := isB) (k := D.isBl) po fun d _ v H1 e1 dv po1 => ?_⟩
    cases d <;> first | exact po1.elim | exact ⟨_, den_bl dv, Post.okay (Rel := isB) po1 rfl⟩
theorem dt_lt (ha : DE X w Ra a f1) (hb : DE X w Rb b f2) : DT X w (Ra ++ Rb) (.Compare a [.Lt] [b] pos) (eTest (eBin D.lt f1 f2)) := dt_cmp opr_lt op2_lt ha hb (nomark _)
theorem dt_le (ha : DE X w Ra a f1) (hb : DE X w Rb b f2) : DT X w (Ra ++ Rb) (.Compare a [.LtE] [b] pos) (eTest (eBin D.le f1 f2)) := dt_cmp opr_le op2_le ha hb (nomark _)
theorem dt_gt (ha : DE X w Ra a f1) (hb : DE X w Rb b f2) : DT X w (Ra ++ Rb) (.Compare a [.Gt] [b] pos) (eTest (eBin D.gt f1 f2)) := dt_cmp op_gt op2_gt ha hb (nomark _)
theorem dt_ge (ha : DE X w Ra a f1) (hb : DE X w Rb b f2) : DT X w (Ra ++ Rb) (.Compare a [.GtE] [b] pos) (eTest (eBin D.ge f1 f2)) := dt_cmp op_ge op2_ge ha hb (nomark _)
theorem dt_isN (ha : DE X w Ra a f1) (hb : DE X w Rb b f2) : DT X w (Ra ++ Rb) (.Compare a [.Is] [b] pos) (eTest (eBin D.isN f1 f2)) := dt_cmp op_isN op2_isN ha hb (nomark _)
theorem dt_notN (ha : DE X w Ra a f1) (hb : DE X w Rb b f2) : DT X w (Ra ++ Rb) (.Compare a [.IsNot] [b] pos) (eTest (eBin D.notN f1 f2)) := dt_cmp op_notN op2_notN ha hb (nomark _)
theorem dt_in (ha : DE X w Ra a f1) (hb : DE X w Rb b f2) (hm : behindInMarks .In b = false := by rfl) : DT X w (Ra ++ Rb) (.Compare a [.In] [b] pos) (eTest (eBin D.inn f1 f2)) := dt_cmp opr_in op2_in ha hb hm
theorem dt_nin (ha : DE X w Ra a f1) (hb : DE X w Rb b f2) (hm : behindInMarks .NotIn b = false := by rfl) : DT X w (Ra ++ Rb) (.Compare a [.NotIn] [b] pos) (eTest (eBin D.nin f1 f2)) := dt_cmp opr_nin op2_nin ha hb hm
theorem dt_eq (hr : Room k X.A) (ha : DE X w Ra a f1) (hb : DE X w Rb b f2) : DT X w (Ra ++ Rb) (.Compare a [.Eq] [b] pos) (eTest (eBin D.eq f1 f2)) := dt_cmp (opr_eq hr.units) op2_eq ha hb (nomark _)
theorem dt_ne (hr : Room k X.A) (ha : DE X w Ra a f1) (hb : DE X w Rb b f2) : DT X w (Ra ++ Rb) (.Compare a [.NotEq] [b] pos) (eTest (eBin D.ne f1 f2)) := dt_cmp (opr_ne hr.units) op2_ne ha hb (nomark _)
/-- two comparisons in a row -/
theorem chain_of {r r' : R2} {g g' : D → D → Res D} (hr : Op2 X.K w r g) (hr' : Op2 X.K w r' g') {σ : L2.St} {H : Hp} {Q : VK} (h : tS (Den X.K) X.K w (Ra ++ (Rb ++ Rc)) (eChain g g' f1 f2 f3) σ H Q) :
    tChain r r' (tS (Den X.K) X.K w Ra f1) (tS (Den X.K) X.K w Rb f2) (tS (Den X.K) X.K w Rc f3) σ H Q := by
  obtain ⟨S, env, sub, ok, po⟩ := h
  unfold eChain at po
  refine ⟨S, env, sub, ok.left, Post.bind (Rel2 := Den X.K) po fun x _ v H1 e1 d1 po1 => ?_⟩
  refine ⟨S, env, sub.mono e1, ok.right.left.mono (hid_ex e1), Post.bind (Rel2 := Den X.K) po1 fun y _ u H2 e2 d2 po2 => ?_⟩
  have e12 := e1.trans e2
  refine hr S σ H2 v u x y _ ((sub.mono e1).mono e2) (d1.mono (hid_ex e2)) d2 (Post.bind (Rel2 := Den X.K) po2 fun z _ z' H3 e3 d3 po3 => ?_)
  obtain ⟨k, rfl, po3⟩ := isBl_ok po3
  refine ⟨k, den_bl d3, ?_⟩
  cases k with
  | false =>
    show Q (.bl false) H3
    exact Post.okay (Rel := Den X.K) po3 (.bl _)
  | true =>
    show tS (Den X.K) X.K w Rc f3 σ H3 _
    exact ⟨S, env, sub.mono (e12.trans e3), ok.right.right.mono (hid_ex (e12.trans e3)), Post.bind (Rel2 := Den X.K) po3 fun u' _ w' H4 e4 d4 po4 => hr' S σ H4 u w' y u' Q (sub.mono ((e12.trans e3).trans e4)) ((d2.mono (hid_ex e3)).mono (hid_ex e4)) d4 po4⟩
theorem de_chain {op op' : CmpOp} {r r' : R2} {g g' : D → D → Res D} (ho : OpR X (compareOp op) r) (ho' : OpR X (compareOp op') r') (hr : Op2 X.K w r g) (hr' : Op2 X.K w r' g') (ha : DE X w Ra a f1) (hb : DE X w Rb b f2) (hc : DE X w Rc c f3)
    (hm : lastMarks [op, op'] [b, c] = false := by with_unfolding_all rfl) : DE X w (Ra ++ (Rb ++ Rc)) (.Compare a [op, op'] [b, c] pos) (eChain g g' f1 f2 f3) :=
  PE.weak (pe_chain ho ho' ha hb hc hm) fun _ _ _ h => chain_of hr hr' h
theorem dt_chain {op op' : CmpOp} {r r' : R2} {g g' : D → D → Res D} (ho : OpR X (compareOp op) r) (ho' : OpR X (compareOp op') r') (hr : Op2 X.K w r g) (hr' : Op2 X.K w r' g') (ha : DE X w Ra a f1) (hb : DE X w Rb b f2) (hc : DE X w Rc c f3)
    (hm : lastMarks [op, op'] [b, c] = false := by with_unfolding_all rfl) : DT X w (Ra ++ (Rb ++ Rc)) (.Compare a [op, op'] [b, c] pos) (eTest (eChain g g' f1 f2 f3)) :=
  PT.weak (pt_chain ho ho' ha hb hc hm) fun σ H Q ⟨S, env, sub, ok, po⟩ => by
    refine chain_of hr hr' ⟨S, env, sub, ok, Post.bind (Rel2 := isB) (k := D.isBl) po fun d _ v H1 e1 dv po1 => ?_⟩
    cases d <;> first | exact po1.elim | exact ⟨_, den_bl dv, Post.okay (Rel := isB) po1 rfl⟩
theorem dt_truth (ha : DE X w R a f) (he : ∀ whole, isTrue a X.env whole = (do let v ← whole; standAt a.pos; holding [v] (truthy v)) := by intro _; rfl) : DT X w R a (eTruth f) :=
  PT.weak (pt_truth ha he) fun σ H Q ⟨S, env, sub, ok, po⟩ => by
    refine ⟨S, env, sub, ok, Post.bind (Rel2 := isB) (k := D.truth) po fun d _ v H1 e1 dv po1 => ?_⟩
    cases d with
    | non => exact ⟨_, by cases dv; rfl, Post.okay (Rel := isB) po1 rfl⟩
    | bl b => exact ⟨_, by cases dv; rfl, Post.okay (Rel := isB) po1 rfl⟩
    | int i => exact ⟨_, by cases dv; rfl, Post.okay (Rel := isB) po1 rfl⟩
    | str y =>
      obtain ⟨h, po1⟩ := Post.lim po1
      exact ⟨_, by cases dv; exact ⟨h, rfl⟩, Post.okay (Rel := isB) po1 rfl⟩
    | lst ds =>
      obtain ⟨p, xs, rfl, hp, rp⟩ := den_lst dv
      exact ⟨_, .inl ⟨xs, .of (hid_out hp).2, by cases rp <;> rfl⟩, Post.okay (Rel := isB) po1 rfl⟩
    | tup ds =>
      obtain ⟨p, xs, rfl, hp, rp⟩ := den_tup dv
      exact ⟨_, .inr (.inl ⟨xs, Evl.ex_t hid_le hp, by cases rp <;> rfl⟩), Post.okay (Rel := isB) po1 rfl⟩
    | fz ds =>
      obtain ⟨p, xs, rfl, hp, rp⟩ := den_fz dv
      exact ⟨_, .inl ⟨xs, Evl.ex_l hid_le hp, by cases rp <;> rfl⟩, Post.okay (Rel := isB) po1 rfl⟩
    | _ => exact po1.elim
theorem dt_not (h : DT X w R a t) : DT X w R (.UnaryOp .Not a pos) (eNotB t) := PT.weak (pt_not h) fun σ H Q ⟨S, env, sub, ok, po⟩ =>
  ⟨S, env, sub, ok, Post.map (Rel2 := isB) po fun b _ b' H1 e1 hb q => q (!b') H1 (Evl.Ex.refl _) (by rw [show b' = b from hb])⟩
theorem and_of {t u : TT} {σ : L2.St} {H : Hp} {Q : Bool → Hp → Prop} (h : t σ H fun b H1 => if b = true then u σ H1 Q else Q false H1) : tAnd t u σ H Q := h
theorem dw_and1 (h : DT X w R a t) : DW X w R (.BoolOp .And [a] pos) t := pw_and1 h
theorem dw_or1 (h : DT X w R a t) : DW X w R (.BoolOp .Or [a] pos) t := pw_or1 h
theorem dw_and (ha : DT X w Ra a t1) (hb : DW X w Rb (.BoolOp .And (b :: rest) pos) t2) : DW X w (Ra ++ Rb) (.BoolOp .And (a :: b :: rest) pos) (eAndB t1 t2) := PW.weak (pw_and ha hb) fun σ H Q ⟨S, env, sub, ok, po⟩ =>
  ⟨S, env, sub, ok.left, Post.bind (Rel2 := isB) po fun b _ b' H1 e1 hb po1 => by
    cases (show b' = b from hb)
    cases b with
    | true => exact ⟨S, env, sub.mono e1, ok.right.mono (hid_ex e1), po1⟩
    | false => exact Post.okay (Rel := isB) po1 rfl⟩
theorem dw_or (ha : DT X w Ra a t1) (hb : DW X w Rb (.BoolOp .Or (b :: rest) pos) t2) : DW X w (Ra ++ Rb) (.BoolOp .Or (a :: b :: rest) pos) (eOrB t1 t2) := PW.weak (pw_or ha hb) fun σ H Q ⟨S, env, sub, ok, po⟩ =>
  ⟨S, env, sub, ok.left, Post.bind (Rel2 := isB) po fun b _ b' H1 e1 hb po1 => by
    cases (show b' = b from hb)
    cases b with
    | false => exact ⟨S, env, sub.mono e1, ok.right.mono (hid_ex e1), po1⟩
    | true => exact Post.okay (Rel := isB) po1 rfl⟩
theorem dt_bool (h : DW X w R e t) : DT X w R e t := PW.pt h
theorem de_one {op : BoolOp} (h : DE X w R a f) : DE X w R (.BoolOp op [a] pos) f := pe_one h
theorem de_and (ha : DE X w Ra a f1) (hb : DE X w Rb (.BoolOp .And (b :: rest) pos) f2) : DE X w (Ra ++ Rb) (.BoolOp .And (a :: b :: rest) pos) (eAndV f1 f2) := PE.weak (pe_and ha hb) fun σ H Q ⟨S, env, sub, ok, po⟩ =>
  ⟨S, env, sub, ok.left, Post.bind (Rel2 := Den X.K) po fun d _ v H1 e1 dv po1 => by
    obtain ⟨k, rfl, po1⟩ := isBl_ok po1
    refine ⟨k, den_bl dv, ?_⟩
    cases k with
    | true => exact ⟨S, env, sub.mono e1, ok.right.mono (hid_ex e1), po1⟩
    | false => exact Post.okay (Rel := Den X.K) po1 (.bl _)⟩
theorem de_or (ha : DE X w Ra a f1) (hb : DE X w Rb (.BoolOp .Or (b :: rest) pos) f2) : DE X w (Ra ++ Rb) (.BoolOp .Or (a :: b :: rest) pos) (eOrV f1 f2) := PE.weak (pe_or ha hb) fun σ H Q ⟨S, env, sub, ok, po⟩ =>
  ⟨S, env, sub, ok.left, Post.bind (Rel2 := Den X.K) po fun d _ v H1 e1 dv po1 => by
    obtain ⟨k, rfl, po1⟩ := isBl_ok po1
    refine ⟨k, den_bl dv, ?_⟩
    cases k with
    | false => exact ⟨S, env, sub.mono e1, ok.right.mono (hid_ex e1), po1⟩
    | true => exact Post.okay (Rel := Den X.K) po1 (.bl _)⟩
theorem de_not (ha : DE X w R a f) : DE X w R (.UnaryOp .Not a pos) (eUn D.nt f) := PE.weak (pe_not ha) fun σ H Q ⟨S, env, sub, ok, po⟩ =>
  ⟨S, env, sub, ok, Post.bind (Rel2 := Den X.K) po fun d _ v H1 e1 dv po1 => by
    cases d <;> first | exact po1.elim | exact ⟨_, den_bl dv, Post.okay (Rel := Den X.K) po1 (.bl _)⟩⟩
theorem de_if (hc : DT X w Rc c t) (ha : DE X w Ra a f1) (hb : DE X w Rb b f2) : DE X w (Rc ++ (Ra ++ Rb)) (.IfExp c a b pos) (eIf t f1 f2) := PE.weak (pe_ifExp hc ha hb) fun σ H Q ⟨S, env, sub, ok, po⟩ =>
  ⟨S, env, sub, ok.left, Post.bind (Rel2 := Den X.K) po fun k _ k' H1 e1 hk po1 => by
    cases (show k' = k from hk)
    cases k with
    | true => exact ⟨S, env, sub.mono e1, ok.right.left.mono (hid_ex e1), po1⟩
    | false => exact ⟨S, env, sub.mono e1, ok.right.right.mono (hid_ex e1), po1⟩⟩
end

/-! ### argument lists, displays -/
def eNil : EL := fun _ => .ok []
def eCons (f : EE) (g : EL) : EL := fun env => (f env).bind fun d => (g env).map (d :: ·)
def eTup (g : EL) : EE := fun env => (g env).map .tup
def eL (g : EL) : EE := fun env => (g env).map .lst
section
variable {X : Cx} {w : Wi} {R Ra Rb : List Nat} {a b e : Expr} {es : List Expr} {f : EE} {g : EL} {pos : Pos} {σ : L2.St} {H : Hp} {S : List Addr} {K : PySem.W.Frag}
theorem da_nil : DA X w [] [] eNil := ⟨PA.weak pa_nil fun σ H Q ⟨S, env, sub, ok, po⟩ => Post.okay (Rel := DenL X.K) po .nil, fun _ _ h => by cases h; rfl⟩
theorem da_cons (ha : DE X w Ra e f) (hr : DA X w Rb es g) (hs : starEach (e :: es) X.env = (false, eval e X.env) :: starEach es X.env := by rfl) : DA X w (Ra ++ Rb) (e :: es) (eCons f g) :=
  ⟨PA.weak (pa_cons ha hr.pa hs) fun σ H Q ⟨S, env, sub, ok, po⟩ => ⟨S, env, sub, ok.left, Post.bind (Rel2 := DenL X.K) po fun d _ v H1 e1 dv po1 =>
    ⟨S, env, sub.mono e1, ok.right.mono (hid_ex e1), Post.map (Rel2 := DenL X.K) po1 fun ds _ vs H2 e2 dvs q => q _ H2 (Evl.Ex.refl _) (.cons (dv.mono (hid_ex e2)) dvs)⟩⟩, fun env ds h => by
    unfold eCons at h
    cases q : f env with
    | ok d =>
      rw [q, bind_ok] at h
      cases q2 : g env with
      | ok es' =>
        rw [q2, map_ok] at h
        cases h
        rw [List.length_cons, List.length_cons, hr.len env es' q2]
      | err c => rw [q2] at h; cases h
      | stuck => rw [q2] at h; cases h
    | err c => rw [q] at h; cases h
    | stuck => rw [q] at h; cases h⟩
theorem de_tup {x1} (h : DA X w R es g) (hz : es.length ≤ 100000 := by decide) : DE X w R (.Tuple es x1 pos) (eTup g) := PE.weak (pe_tup h.pa) fun σ H Q ⟨S, env, sub, ok, po⟩ =>
  ⟨S, env, sub, ok, Post.map (Rel2 := Den X.K) po fun ds hd vs H1 e1 dvs po1 => by
    refine ⟨by rw [dvs.len, h.len env ds hd]; exact Evl.sz_of hz, fun p hp => ?_⟩
    have e2 : Ex H1 (upd H1 p (.tup vs)) := Evl.Ex.new hp
    exact po1 _ _ e2 (.tup (.of (hid_at ((sub.mono e1).new hp) upd_same)) (dvs.mono (hid_ex e2)))⟩
theorem PostF.mono {H1 : Hp} {Q : VK} {r : Res (List D)} (h : PostF K w S σ H Q r) (e : Ex H H1) : PostF K w S σ H1 Q r := by
  cases r with
  | ok a => exact fun p vs H2 n e2 hp r => h p vs H2 (ex_none e n) (e.trans e2) hp r
  | err c => exact fun H2 e2 => h H2 (e.trans e2)
  | stuck => exact h
theorem PostF.bind {α β : Type} {Rel : Hp → β → α → Prop} {Q : VK} {Q' : β → Hp → Prop} {r : Res α} {k : α → Res (List D)} (h : PostF K w S σ H Q (r.bind k)) (hk : ∀ a, r = .ok a → ∀ b H1, Ex H H1 → Rel (hid S H1) b a → PostF K w S σ H1 Q (k a) → Q' b H1) : Post Rel w S σ H Q' r := by
  cases r with
  | ok a => exact fun b H1 e r => hk a rfl b H1 e r (PostF.mono (r := k a) h e)
  | err c => exact h
  | stuck => exact h
theorem PostF.lim {Q : VK} {n : Nat} {r : Res (List D)} (h : PostF K w S σ H Q (Dx.lim n r)) : n ≤ sizeLine ∧ PostF K w S σ H Q r := by
  unfold Dx.lim at h
  split at h
  · exact ⟨Evl.sz_of (by assumption), h⟩
  · exact h.elim
/-- a list just laid -/
theorem PostF.new {Q : VK} {ds : List D} {vs : List V} {p : Addr} (h : PostF K w S σ H Q (.ok ds)) (sub : Sub S H) (hp : H p = none) (r : DenL K (hid S H) vs ds) : Q (.ref p) (upd H p (.lst vs)) :=
  h p vs _ hp (Evl.Ex.new hp) upd_same (r.mono fun a o q => by
    obtain ⟨n, q⟩ := hid_out q
    have ne : a ≠ p := ne_of_none q hp
    refine hid_at (fun m => ?_) (by rw [upd_ne ne]; exact q)
    rcases List.mem_cons.mp m with z | z
    · exact ne z
    · exact n z)
theorem dl_lst (h : DA X w R es g) (hz : es.length ≤ 100000 := by decide) : DL X w R (.List es pos) g := PE.weak (pe_lst h.pa) fun σ H Q ⟨S, env, sub, ok, po⟩ =>
  ⟨S, env, sub, ok, by
    cases q : g env with
    | ok ds =>
      rw [q] at po
      exact fun vs H1 e1 dvs => ⟨by rw [dvs.len, h.len env ds q]; exact Evl.sz_of hz, fun p hp => PostF.new (po.mono e1) (sub.mono e1) hp dvs⟩
    | err c => rw [q] at po; exact po
    | stuck => rw [q] at po; exact po⟩
/-- a new list as a value -/
theorem de_ofL (h : DL X w R e g) : DE X w R e (eL g) := PE.weak h fun σ H Q ⟨S, env, sub, ok, po⟩ => ⟨S, env, sub, ok, by
  unfold eL at po
  cases q : g env with
  | ok ds =>
    rw [q] at po
    intro p vs H1 hp e1 h1 r
    refine po _ H1 e1 (.lst (hid_at (sub.new hp) h1) (r.mono (hid_sub fun a m => List.mem_cons_of_mem _ m)))
  | err c => rw [q] at po; exact po
  | stuck => rw [q] at po; exact po⟩
end

/-! ### items and slices -/
namespace D
def ix : D → D → Res D
  | .lst ds, .int i => match atI ds i with | some d => .ok d | none => .stuck
  | .tup ds, .int i => match atI ds i with | some d => .ok d | none => .stuck
  | .fz ds, .int i => match atI ds i with | some d => .ok d | none => .stuck
  | .str z, .int i => lim z.length (match atI z.cps.toList i with | some c => .ok (.str ⟨#[c]⟩) | none => .stuck)
  | _, _ => .stuck
def cutD (xs : List D) (lo hi : Option Int) : List D := (xs.drop (HT.sIx xs.length 0 lo)).take (HT.sIx xs.length xs.length hi - HT.sIx xs.length 0 lo)
def sl : D → Option Int → Option Int → Res D
  | .str z, lo, hi => lim z.length (.ok (.str (cutS z lo hi)))
  | .tup xs, lo, hi => if HT.sIx xs.length 0 lo = 0 ∧ HT.sIx xs.length xs.length hi = xs.length then .stuck else .ok (.tup (cutD xs lo hi))
  | .lst xs, lo, hi => .ok (.lst (cutD xs lo hi))
  | .fz xs, lo, hi => .ok (.lst (cutD xs lo hi))
  | _, _, _ => .stuck
def seqs : D → Res (List D)
  | .lst xs => .ok xs
  | .tup xs => .ok xs
  | .fz xs => .ok xs
  | _ => .stuck
def slL : D → Option Int → Option Int → Res (List D)
  | .lst xs, lo, hi => .ok (cutD xs lo hi)
  | .fz xs, lo, hi => .ok (cutD xs lo hi)
  | _, _, _ => .stuck
def fld (C0 : Addr) (f : Str) : D → Res D
  | .obj C gs => if C = C0 then (match gs.lookup f with | some d => .ok d | none => .stuck) else .stuck
  | _ => .stuck
end D
def ePart (f : EE) : Sl → Res (Option Int) := fun env => (f env).bind fun d => match d with
  | .int i => .ok (some i)
  | _ => .stuck
def eNoPart : Sl → Res (Option Int) := fun _ => .ok none
def eSl (f : EE) (l h : Sl → Res (Option Int)) : EE := fun env => (f env).bind fun d => (l env).bind fun lo => (h env).bind fun hi => D.sl d lo hi
def eSlL (f : EE) (l h : Sl → Res (Option Int)) : EL := fun env => (f env).bind fun d => (l env).bind fun lo => (h env).bind fun hi => D.slL d lo hi
section
variable {X : Cx} {w : Wi} {R Ra Rb Rc : List Nat} {a b e : Expr} {f f1 f2 : EE} {l h : Sl → Res (Option Int)} {lo hi : Option Expr} {pos p2 : Pos} {K : PySem.W.Frag}
theorem atI_den {H : Hp} {vs : List V} {ds : List D} {i : Int} {d : D} (r : DenL K H vs ds) (e : atI ds i = some d) : ∃ v, atI vs i = some v ∧ Den K H v d := by
  unfold atI at e ⊢
  rw [← r.len] at e
  cases q : ixN vs.length i with
  | none => rw [q] at e; cases e
  | some j =>
    rw [q] at e
    exact r.get e
theorem op2_ix : Op2 K w (rIx K) D.ix := fun S σ H x y a b Q sub da db po => by
  cases b <;> first | (cases a <;> exact po.elim) | skip
  rename_i i
  rw [den_int db]
  cases a <;> first | exact po.elim | skip
  · rename_i z
    obtain ⟨h, po⟩ := Post.lim po
    split at po
    · rename_i c e
      exact .inr (.inr ⟨z, i, c, den_str da, rfl, h, e, Post.okay (Rel := Den K) po (.str _)⟩)
    · exact po.elim
  · obtain ⟨p, xs, rfl, hp, rp⟩ := den_lst da
    unfold D.ix at po
    dsimp only at po
    split at po
    · rename_i d e
      obtain ⟨v, hv, dv⟩ := atI_den rp e
      exact .inl ⟨p, xs, i, v, rfl, rfl, .of (hid_out hp).2, hv, Post.okay (Rel := Den K) po dv⟩
    · exact po.elim
  · obtain ⟨p, xs, rfl, hp, rp⟩ := den_tup da
    unfold D.ix at po
    dsimp only at po
    split at po
    · rename_i d e
      obtain ⟨v, hv, dv⟩ := atI_den rp e
      exact .inr (.inl ⟨p, xs, i, v, rfl, rfl, Evl.ex_t hid_le hp, hv, Post.okay (Rel := Den K) po dv⟩)
    · exact po.elim
  · obtain ⟨p, xs, rfl, hp, rp⟩ := den_fz da
    unfold D.ix at po
    dsimp only at po
    split at po
    · rename_i d e
      obtain ⟨v, hv, dv⟩ := atI_den rp e
      exact .inl ⟨p, xs, i, v, rfl, rfl, Evl.ex_l hid_le hp, hv, Post.okay (Rel := Den K) po dv⟩
    · exact po.elim
theorem de_ix (ha : DE X w Ra a f1) (hb : DE X w Rb b f2) (hs : PlainIx b := by exact fun _ _ => rfl) : DE X w (Ra ++ Rb) (.Subscript a b pos) (eBin D.ix f1 f2) := PE.weak (pe_ix ix_seq ha hb hs) fun _ _ _ h => bin_of op2_ix h
theorem dp_none : DP X w [] none eNoPart := PO.weak po_none fun σ H Q ⟨S, env, sub, ok, po⟩ => Post.okay (Rel := isO) po rfl
theorem dp_some (he : DE X w R e f) : DP X w R (some e) (ePart f) := PO.weak (po_some he) fun σ H Q ⟨S, env, sub, ok, po⟩ => ⟨S, env, sub, ok, Post.bind (Rel2 := isO) po fun d _ v H1 e1 dv po1 => by
  cases d <;> first | exact po1.elim | exact ⟨_, den_int dv, Post.okay (Rel := isO) po1 rfl⟩⟩
theorem cut_den {H : Hp} {vs : List V} {ds : List D} {lo hi : Option Int} (r : DenL K H vs ds) : DenL K H (cutV vs lo hi) (D.cutD ds lo hi) := by
  unfold cutV D.cutD
  rw [r.len]
  exact (r.drop _).take _
def rSl3 (K : PySem.W.Frag) : V → Option Int → Option Int → Hp → VK → Prop := fun x lo hi H Q => rSlS x lo hi H Q ∨ rSlT K x lo hi H Q ∨ rSlL K x lo hi H Q
theorem slr3 : SlR X (rSl3 X.K) := sl_str.or (sl_tup.or sl_list)
theorem de_sl (he : DE X w Ra e f) (hl : DP X w Rb lo l) (hh : DP X w Rc hi h) : DE X w (Ra ++ (Rb ++ Rc)) (.Subscript e (.Slice lo hi none p2) pos) (eSl f l h) := PE.weak (pe_slice slr3 he hl hh) fun σ H Q ⟨S, env, sub, ok, po⟩ => by
  unfold eSl at po
  refine ⟨S, env, sub, ok.left, Post.bind (Rel2 := Den X.K) po fun d _ v H1 e1 dv po1 => ?_⟩
  refine ⟨S, env, sub.mono e1, ok.right.left.mono (hid_ex e1), Post.bind (Rel2 := Den X.K) po1 fun i _ i' H2 e2 hi po2 => ?_⟩
  cases (show i' = i from hi)
  refine ⟨S, env, (sub.mono e1).mono e2, ok.right.right.mono (hid_ex (e1.trans e2)), Post.bind (Rel2 := Den X.K) po2 fun j _ j' H3 e3 hj po3 => ?_⟩
  cases (show j' = j from hj)
  have dv := dv.mono (hid_ex (e2.trans e3))
  have sub3 := sub.mono ((e1.trans e2).trans e3)
  cases d <;> first | exact po3.elim | skip
  · obtain ⟨hz, po3⟩ := Post.lim po3
    exact .inl ⟨_, den_str dv, hz, Post.okay (Rel := Den X.K) po3 (.str _)⟩
  · obtain ⟨p, xs, rfl, hp, rp⟩ := den_lst dv
    refine .inr (.inr ⟨p, xs, rfl, .of (hid_out hp).2, fun q hq => ?_⟩)
    have e4 : Ex H3 (upd H3 q (.lst (cutV xs i j))) := Evl.Ex.new hq
    exact po3 _ _ e4 (.lst (hid_at (sub3.new hq) upd_same) ((cut_den rp).mono (hid_ex e4)))
  · obtain ⟨p, xs, rfl, hp, rp⟩ := den_tup dv
    unfold D.sl at po3
    dsimp only at po3
    split at po3
    · exact po3.elim
    · rename_i nw
      refine .inr (.inl ⟨p, xs, rfl, Evl.ex_t hid_le hp, by rw [rp.len]; exact nw, fun q hq => ?_⟩)
      have e4 : Ex H3 (upd H3 q (.tup (cutV xs i j))) := Evl.Ex.new hq
      exact po3 _ _ e4 (.tup (.of (hid_at (sub3.new hq) upd_same)) ((cut_den rp).mono (hid_ex e4)))
  · obtain ⟨p, xs, rfl, hp, rp⟩ := den_fz dv
    refine .inr (.inr ⟨p, xs, rfl, Evl.ex_l hid_le hp, fun q hq => ?_⟩)
    have e4 : Ex H3 (upd H3 q (.lst (cutV xs i j))) := Evl.Ex.new hq
    exact po3 _ _ e4 (.lst (hid_at (sub3.new hq) upd_same) ((cut_den rp).mono (hid_ex e4)))
theorem dl_sl (he : DE X w Ra e f) (hl : DP X w Rb lo l) (hh : DP X w Rc hi h) : DL X w (Ra ++ (Rb ++ Rc)) (.Subscript e (.Slice lo hi none p2) pos) (eSlL f l h) := PE.weak (pe_slice sl_list he hl hh) fun σ H Q ⟨S, env, sub, ok, po⟩ => by
  unfold eSlL at po
  refine ⟨S, env, sub, ok.left, PostF.bind po fun d _ v H1 e1 dv po1 => ?_⟩
  refine ⟨S, env, sub.mono e1, ok.right.left.mono (hid_ex e1), PostF.bind po1 fun i _ i' H2 e2 hi po2 => ?_⟩
  cases (show i' = i from hi)
  refine ⟨S, env, (sub.mono e1).mono e2, ok.right.right.mono (hid_ex (e1.trans e2)), PostF.bind po2 fun j _ j' H3 e3 hj po3 => ?_⟩
  cases (show j' = j from hj)
  have dv := dv.mono (hid_ex (e2.trans e3))
  have sub3 := sub.mono ((e1.trans e2).trans e3)
  cases d <;> first | exact po3.elim | skip
  · obtain ⟨p, xs, rfl, hp, rp⟩ := den_lst dv
    exact ⟨p, xs, rfl, .of (hid_out hp).2, fun q hq => PostF.new po3 sub3 hq (cut_den rp)⟩
  · obtain ⟨p, xs, rfl, hp, rp⟩ := den_fz dv
    exact ⟨p, xs, rfl, Evl.ex_l hid_le hp, fun q hq => PostF.new po3 sub3 hq (cut_den rp)⟩
theorem de_fld {n : Str} {C0 : Addr} (he : DE X w R e f) (cl : Cls X.K C0) (na : NoAttr X.K C0 n) (hb : attributeBase e n X.env (eval e X.env) = eval e X.env := by rfl) : DE X w R (.Attribute e n pos) (eUn (D.fld C0 n) f) := PE.weak (pe_fld he hb) fun σ H Q ⟨S, env, sub, ok, po⟩ =>
  ⟨S, env, sub, ok, Post.bind (Rel2 := Den X.K) po fun d _ v H1 e1 dv po1 => by
    cases d <;> first | exact po1.elim | skip
    rename_i C gs
    obtain ⟨p, dx, fs, rfl, hp, rp⟩ := den_obj dv
    unfold D.fld at po1
    dsimp only at po1
    split at po1
    · rename_i ec
      subst ec
      split at po1
      · rename_i d hd
        obtain ⟨v, hv, dv⟩ := rp.look hd
        exact ⟨p, _, dx, fs, v, rfl, (hid_out hp).2, cl, na, hv, Post.okay (Rel := Den X.K) po1 dv⟩
      · exact po1.elim
    · exact po1.elim⟩
end
end Dx
set_option Elab.async false
set_option linter.all false
set_option maxRecDepth 100000
set_option maxHeartbeats 4000000
namespace Dx
open PySem PySem.Spec PyProof.Rows L2
open Evl (Ex)
open D (okd okdA py pyA)
/-! ### calls -/
def eCall (g : EL) (F : List D → Res D) : EE := fun env => (g env).bind F
def eCallL (g : EL) (F : List D → Res (List D)) : EL := fun env => (g env).bind F
/-- a call's rule by values gives its data -/
def CallD (K : PySem.W.Frag) (w : Wi) (r : List V → Hp → VK → Prop) (F : List D → Res D) : Prop :=
  ∀ (S : List Addr) (σ : L2.St) (H : Hp) (vs : List V) (ds : List D) (Q : VK), Sub S H → DenL K (hid S H) vs ds → PostV K w S σ H Q (F ds) → r vs H Q
def CallDL (K : PySem.W.Frag) (w : Wi) (r : List V → Hp → VK → Prop) (F : List D → Res (List D)) : Prop :=
  ∀ (S : List Addr) (σ : L2.St) (H : Hp) (vs : List V) (ds : List D) (Q : VK), Sub S H → DenL K (hid S H) vs ds → PostF K w S σ H Q (F ds) → r vs H Q
section
variable {X : Cx} {w : Wi} {R : List Nat} {e : Expr} {es : List Expr} {g : EL} {F : List D → Res D} {G : List D → Res (List D)} {x : Str} {p pos : Pos} {r : List V → Hp → VK → Prop} {id T : String}
theorem cb_of (hr : CallD X.K w r F) {σ : L2.St} {H : Hp} {Q : VK} (h : tS (Den X.K) X.K w R (eCall g F) σ H Q) : tCB r (tS (DenL X.K) X.K w R g) σ H Q := by
  obtain ⟨S, env, sub, ok, po⟩ := h
  exact ⟨S, env, sub, ok, Post.bind (Rel2 := Den X.K) po fun ds _ vs H1 e1 dv po1 => hr S σ H1 vs ds Q (sub.mono e1) dv po1⟩
theorem cbL_of (hr : CallDL X.K w r G) {σ : L2.St} {H : Hp} {Q : VK} (h : tF X.K w R (eCallL g G) σ H Q) : tCB r (tS (DenL X.K) X.K w R g) σ H Q := by
  obtain ⟨S, env, sub, ok, po⟩ := h
  exact ⟨S, env, sub, ok, PostF.bind po fun ds _ vs H1 e1 dv po1 => hr S σ H1 vs ds Q (sub.mono e1) dv po1⟩
theorem de_callB (hc : CallR X (.builtin id) r) (hr : CallD X.K w r F) (hm : X.mg x = none) (ha : DA X w R (e :: es) g) (hg : Gl X x := by rfl) (hv : bootBuiltins x = some (.builtin id) := by decide +kernel) (hn : x ≠ "__name__" := by decide) (hdb : (x == ("__debug__" : Str)) = false := by decide)
    (he : starEach (e :: es) X.env = (false, eval e X.env) :: starEach es X.env := by rfl) (hpl : (backTo pos (starEach es X.env)).any (·.1) = false := by rfl) : DE X w R (.Call (.Name x p) (e :: es) [] pos) (eCall g F) :=
  PE.weak (pe_callB hc hg hm hv ha.pa hn hdb he hpl) fun _ _ _ h => cb_of hr h
theorem de_callTy (hc : CallR X (.type T) r) (hr : CallD X.K w r F) (hm : X.mg x = none) (ha : DA X w R (e :: es) g) (hg : Gl X x := by rfl) (hv : bootBuiltins x = some (.type T) := by decide +kernel) (hn : x ≠ "__name__" := by decide) (hdb : (x == ("__debug__" : Str)) = false := by decide)
    (he : starEach (e :: es) X.env = (false, eval e X.env) :: starEach es X.env := by rfl) (hpl : (backTo pos (starEach es X.env)).any (·.1) = false := by rfl) : DE X w R (.Call (.Name x p) (e :: es) [] pos) (eCall g F) :=
  PE.weak (pe_callTy hc hg hm hv ha.pa hn hdb he hpl) fun _ _ _ h => cb_of hr h
theorem dl_callB (hc : CallR X (.builtin id) r) (hr : CallDL X.K w r G) (hm : X.mg x = none) (ha : DA X w R (e :: es) g) (hg : Gl X x := by rfl) (hv : bootBuiltins x = some (.builtin id) := by decide +kernel) (hn : x ≠ "__name__" := by decide) (hdb : (x == ("__debug__" : Str)) = false := by decide)
    (he : starEach (e :: es) X.env = (false, eval e X.env) :: starEach es X.env := by rfl) (hpl : (backTo pos (starEach es X.env)).any (·.1) = false := by rfl) : DL X w R (.Call (.Name x p) (e :: es) [] pos) (eCallL g G) :=
  PE.weak (pe_callB hc hg hm hv ha.pa hn hdb he hpl) fun _ _ _ h => cbL_of hr h
theorem dl_callTy (hc : CallR X (.type T) r) (hr : CallDL X.K w r G) (hm : X.mg x = none) (ha : DA X w R (e :: es) g) (hg : Gl X x := by rfl) (hv : bootBuiltins x = some (.type T) := by decide +kernel) (hn : x ≠ "__name__" := by decide) (hdb : (x == ("__debug__" : Str)) = false := by decide)
    (he : starEach (e :: es) X.env = (false, eval e X.env) :: starEach es X.env := by rfl) (hpl : (backTo pos (starEach es X.env)).any (·.1) = false := by rfl) : DL X w R (.Call (.Name x p) (e :: es) [] pos) (eCallL g G) :=
  PE.weak (pe_callTy hc hg hm hv ha.pa hn hdb he hpl) fun _ _ _ h => cbL_of hr h
end

/-! ### built-ins -/
namespace D
def len : List D → Res D
  | [.lst xs] => .ok (.int xs.length)
  | [.tup xs] => .ok (.int xs.length)
  | [.fz xs] => .ok (.int xs.length)
  | [.str z] => lim z.length (.ok (.int z.length))
  | _ => .stuck
def listOf : List D → Res (List D)
  | [.lst xs] => .ok xs
  | [.tup xs] => .ok xs
  | [.fz xs] => .ok xs
  | _ => .stuck
def tupOf : List D → Res D
  | [.lst xs] => .ok (.tup xs)
  | [.fz xs] => .ok (.tup xs)
  | [.tup xs] => .ok (.tup xs)
  | _ => .stuck
def int1 : List D → Res D
  | [.int i] => .ok (.int i)
  | [.bl k] => .ok (.int (if k then 1 else 0))
  | _ => .stuck
def abs1 : List D → Res D
  | [.int i] => .ok (.int (if i < 0 then -i else i))
  | _ => .stuck
def min2 : List D → Res D
  | [.int i, .int j] => .ok (.int (if j < i then j else i))
  | _ => .stuck
def max2 : List D → Res D
  | [.int i, .int j] => .ok (.int (if j > i then j else i))
  | _ => .stuck
/-- the built-in type of data -/
def ty : D → Option String
  | .non => some "NoneType"
  | .bl _ => some "bool"
  | .int _ => some "int"
  | .str _ => some "str"
  | .lst _ => some "list"
  | .fz _ => some "list"
  | .tup _ => some "tuple"
  | _ => none
def isTy (a n : String) : Option Bool :=
  if n = "int" then some (a == "int" || a == "bool") else if n = "bool" ∨ n = "str" ∨ n = "list" ∨ n = "tuple" then some (a == n) else none
def isi : List D → Res D
  | [d, .raw (.ty n)] => match ty d with
    | some a => (match isTy a n with | some b => .ok (.bl b) | none => .stuck)
    | none => .stuck
  | _ => .stuck
def strInt : List D → Res D
  | [.int i] => if i.natAbs.log2 < 1920 then .ok (.str (toString i)) else .stuck
  | _ => .stuck
end D
section
variable {X : Cx} {w : Wi} {K : PySem.W.Frag} {R : List Nat} {x : Str} {pos p : Pos}
theorem ds1 {H : Hp} {vs : List V} {d : D} (h : DenL K H vs [d]) : ∃ v, vs = [v] ∧ Den K H v d := by cases h with | cons h r => cases r; exact ⟨_, rfl, h⟩
theorem ds2 {H : Hp} {vs : List V} {d c : D} (h : DenL K H vs [d, c]) : ∃ v u, vs = [v, u] ∧ Den K H v d ∧ Den K H u c := by
  cases h with | cons h r => obtain ⟨u, rfl, h2⟩ := ds1 r; exact ⟨_, _, rfl, h, h2⟩
def rLen2 (K : PySem.W.Frag) : List V → Hp → VK → Prop := fun xs H Q => (∃ p ys, xs = [.ref p] ∧ (SqL K H p ys ∨ SqT K H p ys) ∧ Q (.int ys.length) H) ∨ ∃ z, xs = [.str z] ∧ z.length ≤ sizeLine ∧ Q (.int z.length) H
theorem cr_len : CallR X (.builtin "len") (rLen2 X.K) := call_len_seq.or call_len_str
theorem cd_len : CallD K w (rLen2 K) D.len := fun S σ H vs ds Q sub dv po => by
  unfold D.len at po
  split at po
  · obtain ⟨v, rfl, d1⟩ := ds1 dv
    obtain ⟨a, xs, rfl, ha, ra⟩ := den_lst d1
    refine .inl ⟨a, xs, rfl, .inl (.of (hid_out ha).2), ?_⟩
    rw [ra.len]
    exact Post.okay (Rel := Den K) po (.int _)
  · obtain ⟨v, rfl, d1⟩ := ds1 dv
    obtain ⟨a, xs, rfl, ha, ra⟩ := den_tup d1
    refine .inl ⟨a, xs, rfl, .inr (Evl.ex_t hid_le ha), ?_⟩
    rw [ra.len]
    exact Post.okay (Rel := Den K) po (.int _)
  · obtain ⟨v, rfl, d1⟩ := ds1 dv
    obtain ⟨a, xs, rfl, ha, ra⟩ := den_fz d1
    refine .inl ⟨a, xs, rfl, .inl (Evl.ex_l hid_le ha), ?_⟩
    rw [ra.len]
    exact Post.okay (Rel := Den K) po (.int _)
  · obtain ⟨v, rfl, d1⟩ := ds1 dv
    obtain ⟨hz, po⟩ := Post.lim po
    rw [den_str d1]
    exact .inr ⟨_, rfl, hz, Post.okay (Rel := Den K) po (.int _)⟩
  · exact po.elim
theorem cd_list : CallDL K w (fun xs H Q => ∃ p ys, xs = [.ref p] ∧ (SqL K H p ys ∨ SqT K H p ys) ∧ ∀ l, H l = none → Q (.ref l) (upd H l (.lst ys))) D.listOf := fun S σ H vs ds Q sub dv po => by
  unfold D.listOf at po
  split at po
  · obtain ⟨v, rfl, d1⟩ := ds1 dv
    obtain ⟨a, xs, rfl, ha, ra⟩ := den_lst d1
    exact ⟨a, xs, rfl, .inl (.of (hid_out ha).2), fun l hl => PostF.new po sub hl ra⟩
  · obtain ⟨v, rfl, d1⟩ := ds1 dv
    obtain ⟨a, xs, rfl, ha, ra⟩ := den_tup d1
    exact ⟨a, xs, rfl, .inr (Evl.ex_t hid_le ha), fun l hl => PostF.new po sub hl ra⟩
  · obtain ⟨v, rfl, d1⟩ := ds1 dv
    obtain ⟨a, xs, rfl, ha, ra⟩ := den_fz d1
    exact ⟨a, xs, rfl, .inl (Evl.ex_l hid_le ha), fun l hl => PostF.new po sub hl ra⟩
  · exact po.elim
theorem cd_tuple : CallD K w (fun xs H Q => ∃ p ys, xs = [.ref p] ∧ ((SqL K H p ys ∧ ∀ l, H l = none → Q (.ref l) (upd H l (.tup ys))) ∨ (SqT K H p ys ∧ Q (.ref p) H))) D.tupOf := fun S σ H vs ds Q sub dv po => by
  have new : ∀ (xs : List V) (es : List D), DenL K (hid S H) xs es → PostV K w S σ H Q (.ok (.tup es)) → ∀ l, H l = none → Q (.ref l) (upd H l (.tup xs)) := fun xs es r po l hl => by
    have e : Ex H (upd H l (.tup xs)) := Evl.Ex.new hl
    exact po _ _ e (.tup (.of (hid_at (sub.new hl) upd_same)) (r.mono (hid_ex e)))
  unfold D.tupOf at po
  split at po
  · obtain ⟨v, rfl, d1⟩ := ds1 dv
    obtain ⟨a, xs, rfl, ha, ra⟩ := den_lst d1
    exact ⟨a, xs, rfl, .inl ⟨.of (hid_out ha).2, new xs _ ra po⟩⟩
  · obtain ⟨v, rfl, d1⟩ := ds1 dv
    obtain ⟨a, xs, rfl, ha, ra⟩ := den_fz d1
    exact ⟨a, xs, rfl, .inl ⟨Evl.ex_l hid_le ha, new xs _ ra po⟩⟩
  · obtain ⟨v, rfl, d1⟩ := ds1 dv
    obtain ⟨a, xs, rfl, ha, ra⟩ := den_tup d1
    exact ⟨a, xs, rfl, .inr ⟨Evl.ex_t hid_le ha, Post.okay (Rel := Den K) po (.tup ha ra)⟩⟩
  · exact po.elim
theorem cd_int : CallD K w (fun xs H Q => (∃ i, xs = [.int i] ∧ Q (.int i) H) ∨ ∃ k, xs = [.bl k] ∧ Q (.int (if k then 1 else 0)) H) D.int1 := fun S σ H vs ds Q sub dv po => by
  unfold D.int1 at po
  split at po
  · obtain ⟨v, rfl, d1⟩ := ds1 dv
    rw [den_int d1]
    exact .inl ⟨_, rfl, Post.okay (Rel := Den K) po (.int _)⟩
  · obtain ⟨v, rfl, d1⟩ := ds1 dv
    rw [den_bl d1]
    exact .inr ⟨_, rfl, Post.okay (Rel := Den K) po (.int _)⟩
  · exact po.elim
theorem cd_abs : CallD K w (fun xs H Q => ∃ i, xs = [.int i] ∧ Q (.int (if i < 0 then -i else i)) H) D.abs1 := fun S σ H vs ds Q sub dv po => by
  unfold D.abs1 at po
  split at po
  · obtain ⟨v, rfl, d1⟩ := ds1 dv
    rw [den_int d1]
    exact ⟨_, rfl, Post.okay (Rel := Den K) po (.int _)⟩
  · exact po.elim
theorem cd_min2 : CallD K w (fun xs H Q => ∃ i j, xs = [.int i, .int j] ∧ Q (.int (if j < i then j else i)) H) D.min2 := fun S σ H vs ds Q sub dv po => by
  unfold D.min2 at po
  split at po
  · obtain ⟨v, u, rfl, d1, d2⟩ := ds2 dv
    rw [den_int d1, den_int d2]
    exact ⟨_, _, rfl, Post.okay (Rel := Den K) po (.int _)⟩
  · exact po.elim
theorem cd_max2 : CallD K w (fun xs H Q => ∃ i j, xs = [.int i, .int j] ∧ Q (.int (if j > i then j else i)) H) D.max2 := fun S σ H vs ds Q sub dv po => by
  unfold D.max2 at po
  split at po
  · obtain ⟨v, u, rfl, d1, d2⟩ := ds2 dv
    rw [den_int d1, den_int d2]
    exact ⟨_, _, rfl, Post.okay (Rel := Den K) po (.int _)⟩
  · exact po.elim
theorem cd_str : CallD K w (fun xs H Q => ∃ i, xs = [.int i] ∧ i.natAbs.log2 < 1920 ∧ Q (.str (toString i)) H) D.strInt := fun S σ H vs ds Q sub dv po => by
  unfold D.strInt at po
  split at po
  · split at po
    · obtain ⟨v, rfl, d1⟩ := ds1 dv
      rw [den_int d1]
      exact ⟨_, rfl, by assumption, Post.okay (Rel := Den K) po (.str _)⟩
    · exact po.elim
  · exact po.elim
/-- a built-in's name as a value -/
theorem de_ty {n : String} (hm : X.mg x = none) (hg : Gl X x := by rfl) (hv : bootBuiltins x = some (.type n) := by decide +kernel) (hn : x ≠ "__name__" := by decide) (hdb : (x == ("__debug__" : Str)) = false := by decide) : DE X w [] (.Name x pos) (eC (.raw (.ty n))) :=
  const_of (pe_bltn hg hm hv (v := .ty n) rfl hn hdb) fun _ => .raw _
theorem ty_den {H : Hp} {S : List Addr} {v : V} {d : D} {a : String} (h : Den K (hid S H) v d) (e : D.ty d = some a) : TyX K H v (.type a) := by
  cases d <;> cases e
  · rw [den_non h]; exact .base .non
  · rw [den_bl h]; exact .base (.bl _)
  · rw [den_int h]; exact .base (.int _)
  · rw [den_str h]; exact .base (.str _)
  · obtain ⟨p, xs, rfl, hp, _⟩ := den_lst h
    exact .base (.lst (hid_out hp).2)
  · obtain ⟨p, xs, rfl, hp, _⟩ := den_tup h
    rcases Evl.ex_t (hid_le (S := S) (H := H)) hp with (h | ⟨o, h⟩) | ⟨o, its, n, hk, hc, _⟩
    · exact .base (.tup h)
    · exact .fTuple h
    · exact .kTuple hk hc
  · obtain ⟨p, xs, rfl, hp, _⟩ := den_fz h
    rcases Evl.ex_l (hid_le (S := S) (H := H)) hp with (h | ⟨o, h⟩) | ⟨o, its, n, hk, hc, _⟩
    · exact .base (.lst h)
    · exact .base (.frz h)
    · exact .kList hk hc
theorem isTy_kit {d : D} {a n : String} {b : Bool} (h : D.ty d = some a) (e : D.isTy a n = some b) : kitB a n = some b := by
  have ha : a = "NoneType" ∨ a = "bool" ∨ a = "int" ∨ a = "str" ∨ a = "list" ∨ a = "tuple" := by cases d <;> cases h <;> simp
  have hn : n = "int" ∨ n = "bool" ∨ n = "str" ∨ n = "list" ∨ n = "tuple" := by
    unfold D.isTy at e
    split at e
    · exact .inl (by assumption)
    · split at e
      · exact .inr (by assumption)
      · cases e
  have all : ∀ a ∈ ["NoneType", "bool", "int", "str", "list", "tuple"], ∀ n ∈ ["int", "bool", "str", "list", "tuple"], kitB a n = D.isTy a n := by decide +kernel
  rw [all a (by simpa using ha) n (by simpa using hn)]
  exact e
theorem cd_isi : CallD K w (rIsi K) D.isi := fun S σ H vs ds Q sub dv po => by
  unfold D.isi at po
  split at po
  · obtain ⟨v, u, rfl, d1, d2⟩ := ds2 dv
    cases d2
    split at po
    · rename_i a ha
      split at po
      · rename_i b hb
        exact ⟨v, _, _, _, b, rfl, .ty _, ty_den d1 ha, kit_ty (isTy_kit ha hb), Post.okay (Rel := Den K) po (.bl _)⟩
      · exact po.elim
    · exact po.elim
  · exact po.elim
end
section
variable {X : Cx} {w : Wi} {R : List Nat} {e : Expr} {es : List Expr} {g : EL} {p pos : Pos}
theorem de_len (hm : X.mg "len" = none) (ha : DA X w R (e :: es) g) (hg : Gl X "len" := by rfl) (he : starEach (e :: es) X.env = (false, eval e X.env) :: starEach es X.env := by rfl) (hpl : (backTo pos (starEach es X.env)).any (·.1) = false := by rfl) : DE X w R (.Call (.Name "len" p) (e :: es) [] pos) (eCall g D.len) :=
  de_callB cr_len cd_len hm ha hg PySem.boot_len (by decide) (by decide) he hpl
theorem de_isi (hm : X.mg "isinstance" = none) (ha : DA X w R (e :: es) g) (hg : Gl X "isinstance" := by rfl) (he : starEach (e :: es) X.env = (false, eval e X.env) :: starEach es X.env := by rfl) (hpl : (backTo pos (starEach es X.env)).any (·.1) = false := by rfl) : DE X w R (.Call (.Name "isinstance" p) (e :: es) [] pos) (eCall g D.isi) :=
  de_callB call_isi cd_isi hm ha hg (by decide +kernel) (by decide) (by decide) he hpl
theorem dl_list (hm : X.mg "list" = none) (ha : DA X w R (e :: es) g) (hg : Gl X "list" := by rfl) (he : starEach (e :: es) X.env = (false, eval e X.env) :: starEach es X.env := by rfl) (hpl : (backTo pos (starEach es X.env)).any (·.1) = false := by rfl) : DL X w R (.Call (.Name "list" p) (e :: es) [] pos) (eCallL g D.listOf) :=
  dl_callTy call_list_of cd_list hm ha hg (by decide +kernel) (by decide) (by decide) he hpl
theorem de_tuple (hm : X.mg "tuple" = none) (ha : DA X w R (e :: es) g) (hg : Gl X "tuple" := by rfl) (he : starEach (e :: es) X.env = (false, eval e X.env) :: starEach es X.env := by rfl) (hpl : (backTo pos (starEach es X.env)).any (·.1) = false := by rfl) : DE X w R (.Call (.Name "tuple" p) (e :: es) [] pos) (eCall g D.tupOf) :=
  de_callTy call_tuple_of cd_tuple hm ha hg (by decide +kernel) (by decide) (by decide) he hpl
theorem de_intc (hm : X.mg "int" = none) (ha : DA X w R (e :: es) g) (hg : Gl X "int" := by rfl) (he : starEach (e :: es) X.env = (false, eval e X.env) :: starEach es X.env := by rfl) (hpl : (backTo pos (starEach es X.env)).any (·.1) = false := by rfl) : DE X w R (.Call (.Name "int" p) (e :: es) [] pos) (eCall g D.int1) :=
  de_callTy call_int1 cd_int hm ha hg (by decide +kernel) (by decide) (by decide) he hpl
theorem de_abs (hm : X.mg "abs" = none) (ha : DA X w R (e :: es) g) (hg : Gl X "abs" := by rfl) (he : starEach (e :: es) X.env = (false, eval e X.env) :: starEach es X.env := by rfl) (hpl : (backTo pos (starEach es X.env)).any (·.1) = false := by rfl) : DE X w R (.Call (.Name "abs" p) (e :: es) [] pos) (eCall g D.abs1) :=
  de_callB call_abs cd_abs hm ha hg (by decide +kernel) (by decide) (by decide) he hpl
theorem de_min2 (hc : X.calm = true) (hm : X.mg "min" = none) (ha : DA X w R (e :: es) g) (hg : Gl X "min" := by rfl) (he : starEach (e :: es) X.env = (false, eval e X.env) :: starEach es X.env := by rfl) (hpl : (backTo pos (starEach es X.env)).any (·.1) = false := by rfl) : DE X w R (.Call (.Name "min" p) (e :: es) [] pos) (eCall g D.min2) :=
  de_callB (call_min2 hc) cd_min2 hm ha hg (by decide +kernel) (by decide) (by decide) he hpl
theorem de_max2 (hc : X.calm = true) (hm : X.mg "max" = none) (ha : DA X w R (e :: es) g) (hg : Gl X "max" := by rfl) (he : starEach (e :: es) X.env = (false, eval e X.env) :: starEach es X.env := by rfl) (hpl : (backTo pos (starEach es X.env)).any (·.1) = false := by rfl) : DE X w R (.Call (.Name "max" p) (e :: es) [] pos) (eCall g D.max2) :=
  de_callB (call_max2 hc) cd_max2 hm ha hg (by decide +kernel) (by decide) (by decide) he hpl
theorem de_strc (hm : X.mg "str" = none) (ha : DA X w R (e :: es) g) (hg : Gl X "str" := by rfl) (he : starEach (e :: es) X.env = (false, eval e X.env) :: starEach es X.env := by rfl) (hpl : (backTo pos (starEach es X.env)).any (·.1) = false := by rfl) : DE X w R (.Call (.Name "str" p) (e :: es) [] pos) (eCall g D.strInt) :=
  de_callTy call_str_int cd_str hm ha hg (by decide +kernel) (by decide) (by decide) he hpl
end

/-! ### defs of the text -/
/-- how an answer lies: data, or a new list -/
def RetOk (K : PySem.W.Frag) (fr : Bool) (S : List Addr) (H H1 : Hp) (v : V) (d : D) : Prop := match fr with
  | false => Den K (hid S H1) v d
  | true => ∃ p vs ds, v = .ref p ∧ d = .lst ds ∧ H p = none ∧ H1 p = some (.lst vs) ∧ DenL K (hid (p :: S) H1) vs ds
/-- the promise of a def whose answer is F of its arguments -/
def SpF (K : PySem.W.Frag) (mg : Str → Option Value) (n : Nat) (fr : Bool) (F : List D → Res D) : Sp := fun vs H Q E => vs.length = n ∧ ∃ (S : List Addr) (ds : List D), Sub S H ∧ DenL K (hid S H) vs ds ∧
  match F ds with
  | .ok d => ∀ v H1, Ex H H1 → RetOk K fr S H H1 v d → Q v H1
  | .err c => ∀ H1 u, Ex H H1 → mg c = some u → E u none H1
  | .stuck => False
/-- the wish by class names, as the layer below has it -/
def wx (mg : Str → Option Value) (w : Wi) : WX := fun cls d σ H => ∃ c, mg c = some cls ∧ d = none ∧ w c σ H
structure Callee (P : Program) (w : World) (K : PySem.W.Frag) (mg : Str → Option Value) (base : Heap) (x : Str) (k n : Nat) (fr : Bool) (F : List D → Res D) : Prop where
  ex : ∃ (f : Addr) (fd : FuncData) (ps : List Str), FnOk P w K mg base (L2.CX P w) k f fd ps (SpF K mg n fr F) ∧ mg x = some (.ref f) ∧ PySem.W.keepIn K (.ref f) = true ∧ Binds K fd ps []
def unl : D → Res (List D)
  | .lst ds => .ok ds
  | _ => .stuck
section
variable {X : Cx} {w : Wi} {R : List Nat} {e : Expr} {es : List Expr} {g : EL} {F : List D → Res D} {x : Str} {p pos : Pos} {k j n : Nat}
theorem de_call (C : Callee X.prog X.w X.K X.mg X.base x k n false F) (hr : Room j X.A) (tk : Takes X (wx X.mg w)) (ha : DA X w R (e :: es) g) (hk : k ≤ j := by decide) (hg : Gl X x := by rfl) (hdb : (x == ("__debug__" : Str)) = false := by decide)
    (he : starEach (e :: es) X.env = (false, eval e X.env) :: starEach es X.env := by rfl) (hpl : (backTo pos (starEach es X.env)).any (·.1) = false := by rfl) (hn : (e :: es).length = n := by rfl) : DE X w R (.Call (.Name x p) (e :: es) [] pos) (eCall g F) := by
  obtain ⟨f, fd, ps, G, hm, hkp, hb⟩ := C.ex
  refine PE.weak (pe_callS G (hr.mono hk) hg hm hkp hb (fun σ => passAt tk σ) ha.pa hdb he hpl) fun σ H Q ⟨S, env, sub, ok, po⟩ => ?_
  refine ⟨S, env, sub, ok, Post.bind (Rel2 := Den X.K) po fun ds hd vs H1 e1 dv po1 => ⟨by rw [dv.len]; rw [ha.len env ds hd]; exact hn, S, ds, sub.mono e1, dv, ?_⟩⟩
  cases q : F ds with
  | ok d => rw [q] at po1; exact fun v H2 e2 r => po1 v H2 e2 r
  | err c => rw [q] at po1; exact fun H2 u e2 hu => ⟨c, hu, rfl, po1 H2 e2⟩
  | stuck => rw [q] at po1; exact po1
theorem dl_call (C : Callee X.prog X.w X.K X.mg X.base x k n true F) (hr : Room j X.A) (tk : Takes X (wx X.mg w)) (ha : DA X w R (e :: es) g) (hk : k ≤ j := by decide) (hg : Gl X x := by rfl) (hdb : (x == ("__debug__" : Str)) = false := by decide)
    (he : starEach (e :: es) X.env = (false, eval e X.env) :: starEach es X.env := by rfl) (hpl : (backTo pos (starEach es X.env)).any (·.1) = false := by rfl) (hn : (e :: es).length = n := by rfl) : DL X w R (.Call (.Name x p) (e :: es) [] pos) (eCallL g fun ds => (F ds).bind unl) := by
  obtain ⟨f, fd, ps, G, hm, hkp, hb⟩ := C.ex
  refine PE.weak (pe_callS G (hr.mono hk) hg hm hkp hb (fun σ => passAt tk σ) ha.pa hdb he hpl) fun σ H Q ⟨S, env, sub, ok, po⟩ => ?_
  refine ⟨S, env, sub, ok, PostF.bind po fun ds hd vs H1 e1 dv po1 => ⟨by rw [dv.len]; rw [ha.len env ds hd]; exact hn, S, ds, sub.mono e1, dv, ?_⟩⟩
  cases q : F ds with
  | ok d =>
    rw [q] at po1
    rintro v H2 e2 ⟨p, vs, es, rfl, rfl, hp, h2, r⟩
    exact po1 p vs H2 hp e2 h2 r
  | err c => rw [q] at po1; exact fun H2 u e2 hu => ⟨c, hu, rfl, po1 H2 e2⟩
  | stuck => rw [q] at po1; exact po1
end
end Dx
set_option Elab.async false
set_option linter.all false
set_option maxRecDepth 100000
set_option maxHeartbeats 4000000
namespace Dx
open PySem PySem.Spec PyProof.Rows L2
open Evl (Ex)
open RZ RT
open D (okd okdA py pyA)

/-! ### what is walked -/
def Walks (K : PySem.W.Frag) (Hs : Hp) (J : It) (ds : List D) : Prop := ∀ (i : Nat) (H2 : Hp), Ex Hs H2 → (ds.length ≤ i → J.stop i H2) ∧
  ∀ d, ds[i]? = some d → J.go i H2 ∧ ∀ x H', J.yld i H2 x H' → Ex H2 H' ∧ ∀ S', Sub S' H2 → Ex Hs (hid S' H2) → Den K (hid S' H') x d
abbrev DI (X : Cx) (w : Wi) (R : List Nat) (tg iter : Expr) (f : EL) : Prop := PI X tg iter (tS (Walks X.K) X.K w R f)
theorem PI.weak {X : Cx} {tg e : Expr} {t t' : TI} (h : PI X tg e t) (i : ∀ σ H Q, t' σ H Q → t σ H Q) : PI X tg e t' := ⟨fun pins s σ H R I q => h.run pins s σ H R I (i σ H R q)⟩
section
variable {K : PySem.W.Frag} {Hs : Hp} {a b : Addr} {xs ys : List V} {ds es : List D}
theorem walks_list (h : SqL K Hs a xs) (r : DenL K Hs xs ds) : Walks K Hs (Itl K a) ds := fun i H2 e => by
  have h2 := Evl.ex_l e h
  refine ⟨fun hi => ⟨xs, h2, by rw [r.len]; exact hi⟩, fun d hd => ?_⟩
  obtain ⟨v, hv, dv⟩ := r.get hd
  refine ⟨⟨xs, v, h2, hv⟩, fun x H' ⟨e1, e2⟩ => ?_⟩
  subst e1
  have := e2 xs h2
  rw [hv] at this
  cases this
  exact ⟨Evl.Ex.refl _, fun S' _ e3 => dv.mono e3⟩
theorem walks_tup (h : SqT K Hs a xs) (r : DenL K Hs xs ds) : Walks K Hs (Itt K a) ds := fun i H2 e => by
  have h2 := Evl.ex_t e h
  refine ⟨fun hi => ⟨xs, h2, by rw [r.len]; exact hi⟩, fun d hd => ?_⟩
  obtain ⟨v, hv, dv⟩ := r.get hd
  refine ⟨⟨xs, v, h2, hv⟩, fun x H' ⟨e1, e2⟩ => ?_⟩
  subst e1
  have := e2 xs h2
  rw [hv] at this
  cases this
  exact ⟨Evl.Ex.refl _, fun S' _ e3 => dv.mono e3⟩
theorem walks_str (z : Str) : Walks K Hs (Its z) (z.cps.toList.map fun c => .str ⟨#[c]⟩) := fun i H2 e => by
  refine ⟨fun hi => by rw [List.length_map, Array.length_toList] at hi; exact hi, fun d hd => ?_⟩
  rw [List.getElem?_map] at hd
  cases q : z.cps.toList[i]? with
  | none => rw [q] at hd; cases hd
  | some c =>
    rw [q] at hd
    cases hd
    have hl : i < z.cps.size := by
      have := (List.getElem?_eq_some_iff.mp q).1
      simpa using this
    refine ⟨hl, fun x H' ⟨e1, c', hc, ex⟩ => ?_⟩
    subst e1 ex
    rw [← Array.getElem?_toList, q] at hc
    cases hc
    exact ⟨Evl.Ex.refl _, fun _ _ _ => .str _⟩
theorem walks_range (lo : Int) (n : Nat) : Walks K Hs (Itr lo n) ((List.range n).map fun (k : Nat) => .int (lo + k)) := fun i H2 e => by
  refine ⟨fun hi => by rw [List.length_map, List.length_range] at hi; exact hi, fun d hd => ?_⟩
  rw [List.getElem?_map] at hd
  cases q : (List.range n)[i]? with
  | none => rw [q] at hd; cases hd
  | some k =>
    rw [q] at hd
    cases hd
    obtain ⟨hl, hk⟩ := List.getElem?_eq_some_iff.mp q
    rw [List.getElem_range] at hk
    subst hk
    refine ⟨by rw [List.length_range] at hl; exact hl, fun x H' ⟨e1, ex⟩ => ?_⟩
    subst e1 ex
    exact ⟨Evl.Ex.refl _, fun _ _ _ => .int _⟩
theorem pair_den {S' : List Addr} {H2 : Hp} {T : Addr} {x y : V} {d c : D} (n : H2 T = none) (s : Sub S' H2) (hx : Den K (hid S' H2) x d) (hy : Den K (hid S' H2) y c) : Den K (hid S' (upd H2 T (.tup [x, y]))) (.ref T) (.tup [d, c]) := by
  have e := hid_ex (S := S') (Evl.Ex.new (o := .tup [x, y]) n)
  exact .tup (.of (hid_at (s.new n) upd_same)) (.cons (hx.mono e) (.one (hy.mono e)))
def zipD : List D → List D → List D
  | d :: ds, c :: cs => .tup [d, c] :: zipD ds cs
  | _, _ => []
theorem zipD_len : ∀ ds cs : List D, (zipD ds cs).length = min ds.length cs.length
  | [], _ => by simp [zipD]
  | _ :: _, [] => by simp [zipD]
  | d :: ds, c :: cs => by simp [zipD, zipD_len ds cs]
theorem zipD_get : ∀ {ds cs : List D} {i : Nat} {d : D}, (zipD ds cs)[i]? = some d → ∃ x y, ds[i]? = some x ∧ cs[i]? = some y ∧ d = .tup [x, y]
  | [], _, _, _, h => by simp [zipD] at h
  | _ :: _, [], _, _, h => by simp [zipD] at h
  | x :: ds, y :: cs, 0, d, h => by simp [zipD] at h; exact ⟨x, y, rfl, rfl, h.symm⟩
  | x :: ds, y :: cs, i + 1, d, h => by
    obtain ⟨a, b, h1, h2, h3⟩ := zipD_get (ds := ds) (cs := cs) (i := i) (by simpa [zipD] using h)
    exact ⟨a, b, by simpa using h1, by simpa using h2, h3⟩
theorem walks_zip (h : SqL K Hs a xs) (r : DenL K Hs xs ds) (h' : SqL K Hs b ys) (r' : DenL K Hs ys es) : Walks K Hs (Itz K a b) (zipD ds es) := fun i H2 e => by
  have h2 := Evl.ex_l e h
  have h2' := Evl.ex_l e h'
  refine ⟨fun hi => ⟨xs, ys, h2, h2', ?_⟩, fun d hd => ?_⟩
  · rw [zipD_len] at hi
    rw [r.len, r'.len]
    omega
  · obtain ⟨c, c', hc, hc', rfl⟩ := zipD_get hd
    obtain ⟨v, hv, dv⟩ := r.get hc
    obtain ⟨u, hu, du⟩ := r'.get hc'
    refine ⟨⟨xs, ys, v, u, h2, h2', hv, hu⟩, fun x H' ⟨T, x1, y1, ex, hT, eH, e1, e2⟩ => ?_⟩
    subst ex eH
    have q1 := e1 xs h2
    have q2 := e2 ys h2'
    rw [hv] at q1
    rw [hu] at q2
    cases q1
    cases q2
    exact ⟨Evl.Ex.new hT, fun S' s e3 => pair_den hT s (dv.mono e3) (du.mono e3)⟩
theorem walks_zipT (h : SqT K Hs a xs) (r : DenL K Hs xs ds) (h' : SqT K Hs b ys) (r' : DenL K Hs ys es) : Walks K Hs (ItzT K a b) (zipD ds es) := fun i H2 e => by
  have h2 := Evl.ex_t e h
  have h2' := Evl.ex_t e h'
  refine ⟨fun hi => ⟨xs, ys, h2, h2', ?_⟩, fun d hd => ?_⟩
  · rw [zipD_len] at hi
    rw [r.len, r'.len]
    omega
  · obtain ⟨c, c', hc, hc', rfl⟩ := zipD_get hd
    obtain ⟨v, hv, dv⟩ := r.get hc
    obtain ⟨u, hu, du⟩ := r'.get hc'
    refine ⟨⟨xs, ys, v, u, h2, h2', hv, hu⟩, fun x H' ⟨T, x1, y1, ex, hT, eH, e1, e2⟩ => ?_⟩
    subst ex eH
    have q1 := e1 xs h2
    have q2 := e2 ys h2'
    rw [hv] at q1
    rw [hu] at q2
    cases q1
    cases q2
    exact ⟨Evl.Ex.new hT, fun S' s e3 => pair_den hT s (dv.mono e3) (du.mono e3)⟩
theorem walks_rev (h : SqL K Hs a xs) (r : DenL K Hs xs ds) : Walks K Hs (Itv K a xs.length) ds.reverse := fun i H2 e => by
  have h2 := Evl.ex_l e h
  refine ⟨fun hi => by rw [List.length_reverse, ← r.len] at hi; exact hi, fun d hd => ?_⟩
  have hi : i < ds.length := by
    have := (List.getElem?_eq_some_iff.mp hd).1
    simpa using this
  rw [List.getElem?_reverse hi, ← r.len] at hd
  obtain ⟨v, hv, dv⟩ := r.get hd
  refine ⟨⟨by rw [r.len]; exact hi, xs, v, h2, hv⟩, fun x H' ⟨e1, e2⟩ => ?_⟩
  subst e1
  have q := e2 xs h2
  rw [hv] at q
  cases q
  exact ⟨Evl.Ex.refl _, fun S' _ e3 => dv.mono e3⟩
theorem walks_revT (h : SqT K Hs a xs) (r : DenL K Hs xs ds) : Walks K Hs (ItvT K a xs.length) ds.reverse := fun i H2 e => by
  have h2 := Evl.ex_t e h
  refine ⟨fun hi => by rw [List.length_reverse, ← r.len] at hi; exact hi, fun d hd => ?_⟩
  have hi : i < ds.length := by
    have := (List.getElem?_eq_some_iff.mp hd).1
    simpa using this
  rw [List.getElem?_reverse hi, ← r.len] at hd
  obtain ⟨v, hv, dv⟩ := r.get hd
  refine ⟨⟨by rw [r.len]; exact hi, xs, v, h2, hv⟩, fun x H' ⟨e1, e2⟩ => ?_⟩
  subst e1
  have q := e2 xs h2
  rw [hv] at q
  cases q
  exact ⟨Evl.Ex.refl _, fun S' _ e3 => dv.mono e3⟩
end
namespace D
def items : D → Res (List D)
  | .lst xs => .ok xs
  | .tup xs => .ok xs
  | .fz xs => .ok xs
  | .str z => .ok (z.cps.toList.map fun c => .str ⟨#[c]⟩)
  | _ => .stuck
def rng1 : List D → Res (List D)
  | [.int j] => if -100000 ≤ j ∧ j ≤ 100000 then .ok ((List.range j.toNat).map fun (k : Nat) => .int (0 + k)) else .stuck
  | _ => .stuck
def rng2 : List D → Res (List D)
  | [.int i, .int j] => if (-100000 ≤ i ∧ i ≤ 100000) ∧ -100000 ≤ j ∧ j ≤ 100000 then .ok ((List.range (j - i).toNat).map fun (k : Nat) => .int (i + k)) else .stuck
  | _ => .stuck
def zip2 : List D → Res (List D)
  | [.lst xs, .lst ys] => .ok (zipD xs ys)
  | [.tup xs, .tup ys] => .ok (zipD xs ys)
  | _ => .stuck
def rev : D → Res (List D)
  | .lst xs => .ok xs.reverse
  | .fz xs => .ok xs.reverse
  | .tup xs => .ok xs.reverse
  | _ => .stuck
end D
def eItems (f : EE) : EL := fun env => (f env).bind D.items
def eRev (f : EE) : EL := fun env => (f env).bind D.rev
/-- a list, a tuple or a text -/
def iAny (K : PySem.W.Frag) (tl : TE) : TI := fun σ H R => tl σ H fun x H1 => (∃ a, x = .ref a ∧ (∃ xs, SqL K H1 a xs) ∧ R (Itl K a) H1) ∨ (∃ a, x = .ref a ∧ (∃ xs, SqT K H1 a xs) ∧ R (Itt K a) H1) ∨ ∃ z, x = .str z ∧ R (Its z) H1
section
variable {X : Cx} {w : Wi} {R : List Nat} {tg e : Expr} {es : List Expr} {f : EE} {g : EL} {p pos : Pos}
theorem pi_any {tl : TE} (hl : PE X e tl) : PI X tg e (iAny X.K tl) := by
  refine ⟨fun pins s σ H R I h => ?_⟩
  refine thn (hl.run pins s σ H _ I h) fun v s1 ⟨x, H1, I1, r1, q1⟩ => ?_
  rcases q1 with ⟨a, e, ⟨xs, hq⟩, q⟩ | ⟨a, e, ⟨xs, hq⟩, q⟩ | ⟨z, e, q⟩
  · subst e
    cases r1
    obtain ⟨its, rv, p, hz⟩ := I1.list hq
    exact wpAny_pyIter_list p.isList (pi_one (tk := s1.toks) I1 _ (turn_list a _) ⟨_, Heap.get?_push_size _ rfl, rfl, rfl⟩ q)
  · subst e
    cases r1
    obtain ⟨its, rv, p, hz⟩ := I1.tuple hq
    exact wpAny_pyIter_tuple (show s1.heap.IsTuple a its.toArray from p) (pi_one (tk := s1.toks) I1 _ (turn_tuple a _) ⟨_, Heap.get?_push_size _ rfl, rfl, rfl⟩ q)
  · subst e
    obtain ⟨t, rfl⟩ := r1
    cases ha : z.cps.all (· < 128)
    · exact wpAny_pyIter_wide ha (pi_one (tk := s1.toks) I1 _ (turn_str _ z t "str_iterator" (.inr rfl)) ⟨_, Heap.get?_push_size _ rfl, rfl, rfl⟩ q)
    · exact wpAny_pyIter_ascii ha (pi_one (tk := s1.toks) I1 _ (turn_str _ z t "str_ascii_iterator" (.inl rfl)) ⟨_, Heap.get?_push_size _ rfl, rfl, rfl⟩ q)
theorem di_any (he : DE X w R e f) : DI X w R tg e (eItems f) := PI.weak (pi_any he) fun σ H Q ⟨S, env, sub, ok, po⟩ =>
  ⟨S, env, sub, ok, Post.bind (Rel2 := Walks X.K) po fun d _ v H1 e1 dv po1 => by
    cases d <;> first | exact po1.elim | skip
    · rw [den_str dv]
      exact .inr (.inr ⟨_, rfl, Post.okay (Rel := Walks X.K) po1 (walks_str _)⟩)
    · obtain ⟨a, xs, rfl, ha, ra⟩ := den_lst dv
      exact .inl ⟨a, rfl, ⟨xs, .of (hid_out ha).2⟩, Post.okay (Rel := Walks X.K) po1 (walks_list (.of ha) ra)⟩
    · obtain ⟨a, xs, rfl, ha, ra⟩ := den_tup dv
      exact .inr (.inl ⟨a, rfl, ⟨xs, Evl.ex_t hid_le ha⟩, Post.okay (Rel := Walks X.K) po1 (walks_tup ha ra)⟩)
    · obtain ⟨a, xs, rfl, ha, ra⟩ := den_fz dv
      exact .inl ⟨a, rfl, ⟨xs, Evl.ex_l hid_le ha⟩, Post.okay (Rel := Walks X.K) po1 (walks_list ha ra)⟩⟩
theorem di_range1 (hm : X.mg "range" = none) (ha : DA X w R [e] g) (hg : Gl X "range" := by rfl) (hs : starEach [e] X.env = [(false, eval e X.env)] := by rfl) : DI X w R tg (.Call (.Name "range" p) [e] [] pos) (eCallL g D.rng1) :=
  PI.weak (pi_range1 hg hm ha.pa hs) fun σ H Q ⟨S, env, sub, ok, po⟩ => ⟨S, env, sub, ok, Post.bind (Rel2 := Walks X.K) po fun ds _ vs H1 e1 dv po1 => by
    unfold D.rng1 at po1
    split at po1
    · split at po1
      · rename_i h
        obtain ⟨v, rfl, d1⟩ := ds1 dv
        rw [den_int d1]
        exact ⟨_, rfl, by omega, by omega, Post.okay (Rel := Walks X.K) po1 (walks_range 0 _)⟩
      · exact po1.elim
    · exact po1.elim⟩
theorem di_range2 {e2 : Expr} (hm : X.mg "range" = none) (ha : DA X w R [e, e2] g) (hg : Gl X "range" := by rfl) (hs : starEach [e, e2] X.env = [(false, eval e X.env), (false, eval e2 X.env)] := by rfl) (hs2 : starEach [e2] X.env = [(false, eval e2 X.env)] := by rfl) : DI X w R tg (.Call (.Name "range" p) [e, e2] [] pos) (eCallL g D.rng2) :=
  PI.weak (pi_range2 hg hm ha.pa hs hs2) fun σ H Q ⟨S, env, sub, ok, po⟩ => ⟨S, env, sub, ok, Post.bind (Rel2 := Walks X.K) po fun ds _ vs H1 e1 dv po1 => by
    unfold D.rng2 at po1
    split at po1
    · split at po1
      · rename_i h
        obtain ⟨v, u, rfl, d1, d2⟩ := ds2 dv
        rw [den_int d1, den_int d2]
        exact ⟨_, _, rfl, ⟨by omega, by omega, by omega, by omega⟩, Post.okay (Rel := Walks X.K) po1 (walks_range _ _)⟩
      · exact po1.elim
    · exact po1.elim⟩
theorem di_zip {e2 : Expr} {elts : List Expr} {kk : Nat} {tpos : Pos} (hm : X.mg "zip" = none) (ha : DA X w R [e, e2] g) (hg : Gl X "zip" := by rfl) (hs : starEach [e, e2] X.env = (false, eval e X.env) :: starEach [e2] X.env := by rfl) (hpl : (backTo pos (starEach [e2] X.env)).any (·.1) = false := by rfl) :
    DI X w R (.Tuple elts kk tpos) (.Call (.Name "zip" p) [e, e2] [] pos) (eCallL g D.zip2) :=
  PI.weak (pi_zipA hg hm ha.pa hs hpl) fun σ H Q ⟨S, env, sub, ok, po⟩ => ⟨S, env, sub, ok, Post.bind (Rel2 := Walks X.K) po fun ds _ vs H1 e1 dv po1 => by
    unfold D.zip2 at po1
    split at po1
    · obtain ⟨v, u, rfl, d1, d2⟩ := ds2 dv
      obtain ⟨a, xs, rfl, ha, ra⟩ := den_lst d1
      obtain ⟨b, ys, rfl, hb, rb⟩ := den_lst d2
      exact ⟨a, b, xs, ys, rfl, .inl ⟨.of (hid_out ha).2, .of (hid_out hb).2, Post.okay (Rel := Walks X.K) po1 (walks_zip (.of ha) ra (.of hb) rb)⟩⟩
    · obtain ⟨v, u, rfl, d1, d2⟩ := ds2 dv
      obtain ⟨a, xs, rfl, ha, ra⟩ := den_tup d1
      obtain ⟨b, ys, rfl, hb, rb⟩ := den_tup d2
      exact ⟨a, b, xs, ys, rfl, .inr ⟨Evl.ex_t hid_le ha, Evl.ex_t hid_le hb, Post.okay (Rel := Walks X.K) po1 (walks_zipT ha ra hb rb)⟩⟩
    · exact po1.elim⟩
theorem di_rev (hm : X.mg "reversed" = none) (he : DE X w R e f) (hg : Gl X "reversed" := by rfl) (hs : starEach [e] X.env = (false, eval e X.env) :: starEach [] X.env := by rfl) : DI X w R tg (.Call (.Name "reversed" p) [e] [] pos) (eRev f) :=
  PI.weak (pi_revA hg hm he hs) fun σ H Q ⟨S, env, sub, ok, po⟩ => ⟨S, env, sub, ok, Post.bind (Rel2 := Walks X.K) po fun d _ v H1 e1 dv po1 => by
    cases d <;> first | exact po1.elim | skip
    · obtain ⟨a, xs, rfl, ha, ra⟩ := den_lst dv
      exact ⟨a, xs, rfl, .inl ⟨.of (hid_out ha).2, Post.okay (Rel := Walks X.K) po1 (walks_rev (.of ha) ra)⟩⟩
    · obtain ⟨a, xs, rfl, ha, ra⟩ := den_tup dv
      exact ⟨a, xs, rfl, .inr ⟨Evl.ex_t hid_le ha, Post.okay (Rel := Walks X.K) po1 (walks_revT ha ra)⟩⟩
    · obtain ⟨a, xs, rfl, ha, ra⟩ := den_fz dv
      exact ⟨a, xs, rfl, .inl ⟨Evl.ex_l hid_le ha, Post.okay (Rel := Walks X.K) po1 (walks_rev ha ra)⟩⟩⟩
end

/-! ### targets -/
inductive Tgt where
  | one (i : Nat) | two (i j : Nat)
def Tgt.slots : Tgt → List Nat
  | .one i => [i]
  | .two i j => [i, j]
def setAll {α : Type} : List Nat → List α → List (Option α) → List (Option α)
  | i :: is, a :: as, l => setAll is as (l.set i (some a))
  | _, _, l => l
def parts : Tgt → D → Res (List D)
  | .one _, d => .ok [d]
  | .two _ _, .tup [a, b] => .ok [a, b]
  | _, _ => .stuck
def gT (K : PySem.W.Frag) : Tgt → TG
  | .one i => gName i
  | .two i j => gTup K 2 (gCons (gName i) (gCons (gName j) gNil))
section
variable {K : PySem.W.Frag} {S : List Addr} {H : Hp} {R : List Nat} {env : Sl} {σ : L2.St}
theorem gT_ok {tg : Tgt} {v : V} {d : D} {ps : List D} (h : parts tg d = .ok ps) (dv : Den K (hid S H) v d) : ∃ vs, DenL K (hid S H) vs ps ∧ ∀ (σ : L2.St) (Q : L2.St → Hp → Prop), Q (setAll tg.slots vs σ) H → gT K tg v σ H Q := by
  cases tg with
  | one i =>
    cases h
    exact ⟨[v], .one dv, fun σ Q q => q⟩
  | two i j =>
    unfold parts at h
    split at h
    · rename_i e
      cases e
    · rename_i e
      cases e
      cases h
      obtain ⟨a, xs, rfl, ha, ra⟩ := den_tup dv
      obtain ⟨u, u', rfl, d1, d2⟩ := ds2 ra
      exact ⟨[u, u'], ra, fun σ Q q => ⟨a, _, rfl, Evl.ex_t hid_le ha, rfl, u, [u'], rfl, u', [], rfl, rfl, q⟩⟩
    · cases h
theorem set_ok {i : Nat} {v : V} {d : D} (o : EnvOk K R env σ H) (dv : Den K H v d) : EnvOk K R (env.set i (some d)) (σ.set i (some v)) H := ⟨by rw [List.length_set, List.length_set]; exact o.len, fun j m c hc => by
  by_cases e : i = j
  · subst e
    have hl : i < env.length := by
      have := (List.getElem?_eq_some_iff.mp hc).1
      rwa [List.length_set] at this
    rw [List.getElem?_set_self hl] at hc
    cases hc
    exact ⟨v, List.getElem?_set_self (by rw [← o.len]; exact hl), dv⟩
  · rw [List.getElem?_set_ne e] at hc
    rw [List.getElem?_set_ne e]
    exact o.get j m c hc⟩
theorem setAll_ok : ∀ {is : List Nat} {vs : List V} {ps : List D} {env : Sl} {σ : L2.St}, EnvOk K R env σ H → DenL K H vs ps → EnvOk K R (setAll is ps env) (setAll is vs σ) H
  | [], _, _, _, _, o, .nil => o
  | [], _, _, _, _, o, .cons _ _ => o
  | _ :: _, _, _, _, _, o, .nil => o
  | i :: is, _ :: vs, _ :: ps, env, σ, o, .cons h r => by
    have q := setAll_ok (is := is) (set_ok (i := i) o h) r
    exact q
def wipeE (env : Sl) : List Nat → Sl
  | [] => env
  | v :: vs => (wipeE env vs).set v none
theorem wipe_ok (o : EnvOk K R env σ H) : ∀ vs : List Nat, EnvOk K R (wipeE env vs) (wipe σ vs) H
  | [] => o
  | i :: vs => by
    have o := wipe_ok o vs
    refine ⟨by unfold wipeE wipe; rw [List.length_set, List.length_set]; exact o.len, fun j m c hc => ?_⟩
    unfold wipeE at hc
    unfold wipe
    by_cases e : i = j
    · subst e
      have hl : i < (wipeE env vs).length := by
        have := (List.getElem?_eq_some_iff.mp hc).1
        rwa [List.length_set] at this
      rw [List.getElem?_set_self hl] at hc
      cases hc
    · rw [List.getElem?_set_ne e] at hc
      rw [List.getElem?_set_ne e]
      exact o.get j m c hc
theorem wipe_set {i : Nat} {x : Option V} : ∀ {vs : List Nat} {σ : L2.St}, i ∈ vs → wipe (σ.set i x) vs = wipe σ vs
  | v :: vs, σ, h => by
    unfold wipe
    by_cases hv : i ∈ vs
    · rw [wipe_set hv]
    · rcases List.mem_cons.mp h with e | e
      · subst e
        have : ∀ (vs : List Nat) (σ : L2.St), i ∉ vs → wipe (σ.set i x) vs = (wipe σ vs).set i x := fun vs => by
          induction vs with
          | nil => intro σ _; rfl
          | cons u us ih =>
            intro σ hn
            unfold wipe
            rw [ih σ (fun m => hn (List.mem_cons_of_mem _ m)), List.set_comm]
            intro e
            exact hn (by rw [e]; exact List.mem_cons_self)
        rw [this vs σ hv, List.set_set]
      · exact absurd e hv
theorem wipe_wipe (σ : L2.St) : ∀ vs us : List Nat, (∀ i ∈ us, i ∈ vs) → wipe (wipe σ us) vs = wipe σ vs
  | vs, [], _ => rfl
  | vs, u :: us, h => by
    rw [show wipe σ (u :: us) = (wipe σ us).set u none from rfl, wipe_set (h u List.mem_cons_self)]
    exact wipe_wipe σ vs us fun i m => h i (List.mem_cons_of_mem _ m)
theorem wipe_setAll : ∀ {is vs : List Nat} {xs : List V} {σ : L2.St}, (∀ i ∈ is, i ∈ vs) → wipe (setAll is xs σ) vs = wipe σ vs
  | [], _, [], _, _ => rfl
  | [], _, _ :: _, _, _ => rfl
  | _ :: _, _, [], _, _ => rfl
  | i :: is, vs, x :: xs, σ, h => by
    show wipe (setAll is xs (σ.set i (some x))) vs = _
    rw [wipe_setAll (fun j m => h j (List.mem_cons_of_mem _ m)), wipe_set (h i List.mem_cons_self)]
end
end Dx
set_option Elab.async false
set_option linter.all false
set_option maxRecDepth 100000
set_option maxHeartbeats 4000000
namespace Dx
open PySem PySem.Spec PyProof.Rows L2
open Evl (Ex)
open RZ RT
open D (okd okdA py pyA)
/-! ### list comprehensions -/
def w0 : Wi := fun _ _ _ => False
def noErr {α : Type} : Res α → Res α
  | .err _ => .stuck
  | r => r
@[simp] theorem noErr_ok {α : Type} (a : α) : noErr (.ok a) = .ok a := rfl
def lcGo (tg : Tgt) (t : EB) (f : EE) (base : Sl) : List D → Res (List D)
  | [] => .ok []
  | d :: ds => (parts tg d).bind fun ps => (noErr (t (setAll tg.slots ps base))).bind fun b => if b = true then (noErr (f (setAll tg.slots ps base))).bind fun y => (lcGo tg t f base ds).map (y :: ·) else lcGo tg t f base ds
theorem lcGo_cons (tg : Tgt) (t : EB) (f : EE) (base : Sl) (d : D) (ds : List D) : lcGo tg t f base (d :: ds) = (parts tg d).bind fun ps => (noErr (t (setAll tg.slots ps base))).bind fun b => if b = true then (noErr (f (setAll tg.slots ps base))).bind fun y => (lcGo tg t f base ds).map (y :: ·) else lcGo tg t f base ds := rfl
def eLc (items : EL) (tg : Tgt) (own : List Nat) (t : EB) (f : EE) : EL := fun env => (items env).bind fun ds => lim ds.length (lcGo tg t f (wipeE env own) ds)
def eYes : EB := fun _ => .ok true
theorem map_map {α β γ : Type} (f : α → β) (g : β → γ) (r : Res α) : (r.map f).map g = r.map fun a => g (f a) := by cases r <;> rfl
theorem map_id' {α : Type} {f : α → α} (h : ∀ a, f a = a) (r : Res α) : r.map f = r := by cases r <;> simp [h]
theorem hid_upd {S : List Addr} {H : Hp} {p : Addr} {o : HO} (m : p ∈ S) : hid S (upd H p o) = hid S H := by
  funext a
  unfold hid
  by_cases h : a ∈ S
  · rw [if_pos h, if_pos h]
  · rw [if_neg h, if_neg h, upd_ne (fun e => h (by rw [e]; exact m))]
theorem parts_noerr {tg : Tgt} {d : D} {c : Str} : parts tg d ≠ .err c := by
  intro h
  unfold parts at h
  split at h <;> cases h
theorem hid_fresh {S : List Addr} {H H' : Hp} {p : Addr} (n : H p = none) (e : Ex H H') : Ex (hid S H) (hid (p :: S) H') := fun a o q => by
  obtain ⟨m, q⟩ := hid_out q
  refine hid_at (fun z => ?_) (e a o q)
  rcases List.mem_cons.mp z with z | z
  · rw [z, n] at q; cases q
  · exact m z
section
variable {X : Cx} {w : Wi} {Ri Rt Re : List Nat} {elt tg iter : Expr} {ifs : List Expr} {scope : Scope} {own : List (Str × Nat)} {pos : Pos} {items : EL} {t : EB} {f : EE}
abbrev BT (X : Cx) (w : Wi) (R : List Nat) (ifs : List Expr) (t : EB) : Prop := PTs X ifs (tS isB X.K w R t)
theorem bt_nil : BT X w [] [] eYes := ⟨fun pins s σ H Q I ⟨S, env, sub, ok, po⟩ => pts_nil.run pins s σ H Q I (show tYes σ H Q from Post.okay (Rel := isB) po rfl)⟩
theorem bt_one {c : Expr} (h : DT X w Rt c t) : BT X w Rt [c] t := pts_one h
/-- the reading of the loop -/
theorem lc_core_of {tgt : Tgt} {vs : List Nat} (hs : ∀ i ∈ tgt.slots, i ∈ vs) {σ : L2.St} {H : Hp} {Q : VK} (h : tF X.K w (Ri ++ (Rt ++ Re)) (eLc items tgt vs t f) σ H Q) :
    tLc (tS (Walks X.K) X.K w Ri items) (gT X.K tgt) (tS isB X.K w0 Rt t) (tS (Den X.K) X.K w0 Re f) vs σ H Q := by
  obtain ⟨S, env, sub, ok, po⟩ := h
  refine ⟨S, env, sub, ok.left, PostF.bind po fun ds _ J H1 e1 wk po1 => fun D hD => ?_⟩
  obtain ⟨hz, po1⟩ : ds.length ≤ 100000 ∧ PostF X.K w S σ H1 Q (lcGo tgt t f (wipeE env vs) ds) := by
    unfold lim at po1
    split at po1
    · exact ⟨by assumption, po1⟩
    · exact po1.elim
  have sub1 := sub.mono e1
  have ok1 := (wipe_ok (ok.right.mono (hid_ex e1)) vs)
  obtain ⟨base, hbase⟩ : ∃ b, b = wipeE env vs := ⟨_, rfl⟩
  rw [← hbase] at po1 ok1
  let Iv : Nat → Hp → Prop := fun i H' => Ex H1 H' ∧ i ≤ ds.length ∧ ∃ acc ys, H' D = some (.lst acc) ∧ DenL X.K (hid (D :: S) H') acc ys ∧ ys.length ≤ i ∧ lcGo tgt t f base ds = (lcGo tgt t f base (ds.drop i)).map (ys ++ ·)
  refine ⟨fun i m H' => m = ds.length - i ∧ Iv i H', ⟨ds.length, by simp, Evl.Ex.new hD, Nat.zero_le _, [], [], upd_same, .nil, Nat.le_refl _, by rw [List.drop_zero]; exact (map_id' (fun _ => rfl) _).symm⟩, ?_⟩
  rintro i m H' ⟨rfl, e2, hi, acc, ys, hacc, dacc, hys, heq⟩
  have exH : Ex (hid S H1) (hid (D :: S) H') := hid_fresh hD e2
  have subD : Sub (D :: S) H' := fun a m z => by
    rcases List.mem_cons.mp m with q | q
    · rw [q, hacc] at z; cases z
    · exact (sub1.mono e2) a q z
  by_cases hlt : i < ds.length
  · refine .inr ?_
    obtain ⟨d, hd⟩ : ∃ d, ds[i]? = some d := ⟨ds[i], by simp [hlt]⟩
    obtain ⟨hgo, hyld⟩ := (wk i H' (exH.trans hid_le)).2 d hd
    refine ⟨hgo, Iv (i + 1), fun H'' q => ⟨ds.length - (i + 1), by omega, rfl, q⟩, fun x H'' hy => ?_⟩
    obtain ⟨e3, hden⟩ := hyld x H'' hy
    have dx := hden (D :: S) subD exH
    have hdrop : ds.drop i = d :: ds.drop (i + 1) := by
      obtain ⟨hl, he⟩ := List.getElem?_eq_some_iff.mp hd
      rw [← he]
      exact List.drop_eq_getElem_cons hl
    rw [hdrop] at heq
    rw [heq] at po1
    rw [lcGo_cons] at heq po1
    cases hp : parts tgt d with
    | stuck => rw [hp] at po1; exact po1.elim
    | err c => exact absurd hp parts_noerr
    | ok ps =>
      rw [hp] at po1 heq
      obtain ⟨us, dus, hset⟩ := gT_ok (K := X.K) hp dx
      refine hset _ _ ⟨?_, ?_⟩
      · rw [wipe_setAll hs, wipe_wipe σ vs vs fun _ m => m]
      · have ok2 : EnvOk X.K (Rt ++ Re) (setAll tgt.slots ps base) (setAll tgt.slots us (wipe σ vs)) (hid (D :: S) H'') := setAll_ok (ok1.mono (exH.trans (hid_ex e3))) dus
        refine ⟨D :: S, setAll tgt.slots ps base, subD.mono e3, ok2.left, ?_⟩
        rw [bind_ok] at po1 heq
        cases ht : t (setAll tgt.slots ps base) with
        | stuck => rw [ht] at po1; exact po1.elim
        | err c => rw [ht] at po1; exact po1.elim
        | ok b =>
          rw [ht, noErr_ok, bind_ok] at po1 heq
          intro b' H3 e4 hb
          cases (show b' = b from hb)
          cases b with
          | false =>
            exact ⟨(e2.trans e3).trans e4, hlt, acc, ys, e4 _ _ (e3 _ _ hacc), dacc.mono (hid_ex (e3.trans e4)), by omega, by rw [if_neg Bool.false_ne_true] at heq; exact heq⟩
          | true =>
            refine ⟨D :: S, setAll tgt.slots ps base, (subD.mono e3).mono e4, ok2.right.mono (hid_ex e4), ?_⟩
            rw [if_pos rfl] at po1 heq
            cases hf : f (setAll tgt.slots ps base) with
            | stuck => rw [hf] at po1; exact po1.elim
            | err c => rw [hf] at po1; exact po1.elim
            | ok y =>
              rw [hf] at heq
              intro v H4 e5 dv
              have h4 : H4 D = some (.lst acc) := e5 _ _ (e4 _ _ (e3 _ _ hacc))
              have e6 := ((e2.trans e3).trans e4).trans e5
              refine ⟨acc, h4, Evl.sz_lt (by rw [dacc.len]; omega), Evl.Ex.mut e6 hD, hlt, acc ++ [v], ys ++ [y], upd_same, ?_, by rw [List.length_append]; show ys.length + 1 ≤ i + 1; omega, ?_⟩
              · rw [hid_upd List.mem_cons_self]
                exact (dacc.mono (hid_ex ((e3.trans e4).trans e5))).append (.one dv)
              · rw [heq, noErr_ok, bind_ok, map_map]
                congr 1
                funext l
                rw [List.append_assoc]
                rfl
  · have e : i = ds.length := by omega
    refine .inl ⟨(wk i H' (exH.trans hid_le)).1 (by omega), ?_⟩
    rw [e, List.drop_length] at heq
    rw [heq] at po1
    have q := po1 D acc H' hD e2 hacc
    dsimp only at q
    rw [List.append_nil] at q
    exact q dacc
theorem dl_lc (tgt : Tgt) (hc : X.calm = true) (hN : X.N.Nodup) (hi : DI X w Ri tg iter items) (ok : BlkOk X.N X.env.scope scope own) (hs : ∀ i ∈ tgt.slots, i ∈ own.map (·.2))
    (hg : ∀ (s : Shared) (H : Hp) (C : Addr) (cl : List (Str × Addr)) (fp : List Addr), PG (X.blk s H scope (compEnvC scope cl C X.env) fp) tg (gT X.K tgt))
    (ht : ∀ (s : Shared) (H : Hp) (C : Addr) (cl : List (Str × Addr)) (fp : List Addr), BT (X.blk s H scope (compEnvC scope cl C X.env) fp) w0 Rt ifs t)
    (he : ∀ (s : Shared) (H : Hp) (C : Addr) (cl : List (Str × Addr)) (fp : List Addr), DE (X.blk s H scope (compEnvC scope cl C X.env) fp) w0 Re elt f) (hf : ∀ x, foldedSetIterable iter X.env x = pure x := by intro _; rfl) :
    DL X w (Ri ++ (Rt ++ Re)) (.ListComp elt [⟨tg, iter, ifs, 0⟩] scope pos) (eLc items tgt (own.map (·.2)) t f) :=
  PE.weak (pe_lc hc hN hi ok hg ht he hf) fun _ _ _ h => lc_core_of hs h
theorem pg_one (i : Nat) {x : Str} (hN : X.N.Nodup) (hi : X.N[i]? = some x := by rfl) (hx : Loc X.env.scope x := by first | exact .inl rfl | exact .inr rfl) (hf : X.fn x = true ∨ X.env.scope.names.lookup x = some .local := by first | exact .inl rfl | exact .inr rfl) : PG X (.Name x pos) (gT X.K (.one i)) := pg_name hN hi hx hf
theorem pg_two (i j : Nat) {x y : Str} {p1 p2 : Pos} {k : Nat} (hc : X.calm = true) (hN : X.N.Nodup) (hi : X.N[i]? = some x := by rfl) (hj : X.N[j]? = some y := by rfl) (hx : Loc X.env.scope x := by first | exact .inl rfl | exact .inr rfl) (hy : Loc X.env.scope y := by first | exact .inl rfl | exact .inr rfl)
    (hf : X.fn x = true ∨ X.env.scope.names.lookup x = some .local := by first | exact .inl rfl | exact .inr rfl) (hf' : X.fn y = true ∨ X.env.scope.names.lookup y = some .local := by first | exact .inl rfl | exact .inr rfl) : PG X (.Tuple [.Name x p1, .Name y p2] k pos) (gT X.K (.two i j)) :=
  pg_tup hc (pgs_cons (pg_name hN hi hx hf) (pgs_cons (pg_name hN hj hy hf') pgs_nil))
end
end Dx
set_option Elab.async false
set_option linter.all false
set_option maxRecDepth 100000
set_option maxHeartbeats 4000000
namespace Dx
open PySem PySem.Spec PyProof.Rows L2
open Evl (Ex)
open RZ RT
open D (okd okdA py pyA)
/-! ### statements -/
/-- the state's data: the slots of O hold lists of the def's own (at P), the rest leans on none of these; Hf: the heap at the entry; S: what the answer must not lean on; B: what stays -/
structure StOk (K : PySem.W.Frag) (Hf : Hp) (S : List Addr) (B : Hp) (O : List Nat) (P : Nat → Addr) (env : Sl) (σ : L2.St) (H : Hp) : Prop where
  len : env.length = σ.length
  exf : Ex Hf H
  sub : Sub S Hf
  bas : Ex B (hid (S ++ O.map P) H)
  inj : ∀ i ∈ O, ∀ j ∈ O, P i = P j → i = j
  own : ∀ i ∈ O, Hf (P i) = none ∧ ∃ vs ds, σ[i]? = some (some (.ref (P i))) ∧ env[i]? = some (some (.lst ds)) ∧ H (P i) = some (.lst vs) ∧ DenL K (hid (S ++ O.map P) H) vs ds
  oth : ∀ i, i ∉ O → ∀ d, env[i]? = some (some d) → ∃ v, σ[i]? = some (some v) ∧ Den K (hid (S ++ O.map P) H) v d
section
variable {K : PySem.W.Frag} {Hf B B' H H1 : Hp} {S : List Addr} {O O' R : List Nat} {P : Nat → Addr} {env : Sl} {σ : L2.St}
theorem StOk.subT (st : StOk K Hf S B O P env σ H) : Sub (S ++ O.map P) H := fun a m z => by
  rcases List.mem_append.mp m with q | q
  · exact (st.sub.mono st.exf) a q z
  · obtain ⟨i, hi, e⟩ := List.mem_map.mp q
    obtain ⟨_, vs, ds, _, _, h, _⟩ := st.own i hi
    rw [e, z] at h; cases h
theorem StOk.rd (st : StOk K Hf S B O P env σ H) (h : ∀ i ∈ R, i ∉ O) : EnvOk K R env σ (hid (S ++ O.map P) H) := ⟨st.len, fun i m d e => st.oth i (h i m) d e⟩
theorem StOk.grow (st : StOk K Hf S B O P env σ H) (e : Ex H H1) : StOk K Hf S B O P env σ H1 := ⟨st.len, st.exf.trans e, st.sub, st.bas.trans (hid_ex e), st.inj, fun i m => by
  obtain ⟨h0, vs, ds, h1, h2, h3, h4⟩ := st.own i m
  exact ⟨h0, vs, ds, h1, h2, e _ _ h3, h4.mono (hid_ex e)⟩, fun i m d h => by
  obtain ⟨v, h1, h2⟩ := st.oth i m d h
  exact ⟨v, h1, h2.mono (hid_ex e)⟩⟩
theorem StOk.rebase (st : StOk K Hf S B' O P env σ H) (e : Ex B B') : StOk K Hf S B O P env σ H := ⟨st.len, st.exf, st.sub, e.trans st.bas, st.inj, st.own, st.oth⟩
theorem StOk.notS (st : StOk K Hf S B O P env σ H) {i : Nat} (hi : i ∈ O) : P i ∉ S := fun m => st.sub _ m (st.own i hi).1
theorem StOk.weak (st : StOk K Hf S B O P env σ H) (h : ∀ i ∈ O', i ∈ O) : StOk K Hf S B O' P env σ H := by
  have hs : ∀ a ∈ S ++ O'.map P, a ∈ S ++ O.map P := fun a m => by
    rcases List.mem_append.mp m with q | q
    · exact List.mem_append_left _ q
    · obtain ⟨i, hi, e⟩ := List.mem_map.mp q
      exact List.mem_append_right _ (List.mem_map.mpr ⟨i, h i hi, e⟩)
  have e : Ex (hid (S ++ O.map P) H) (hid (S ++ O'.map P) H) := hid_sub hs
  refine ⟨st.len, st.exf, st.sub, st.bas.trans e, fun i hi j hj => st.inj i (h i hi) j (h j hj), fun i hi => ?_, fun i hi d hd => ?_⟩
  · obtain ⟨h0, vs, ds, h1, h2, h3, h4⟩ := st.own i (h i hi)
    exact ⟨h0, vs, ds, h1, h2, h3, h4.mono e⟩
  · by_cases ho : i ∈ O
    · obtain ⟨h0, vs, ds, h1, h2, h3, h4⟩ := st.own i ho
      rw [h2] at hd
      cases hd
      refine ⟨_, h1, .lst (hid_at (fun m => ?_) h3) (h4.mono e)⟩
      rcases List.mem_append.mp m with q | q
      · exact st.notS ho q
      · obtain ⟨j, hj, e'⟩ := List.mem_map.mp q
        exact hi (st.inj j (h j hj) i ho e' ▸ hj)
    · obtain ⟨v, h1, h2⟩ := st.oth i ho d hd
      exact ⟨v, h1, h2.mono e⟩
theorem StOk.bare (st : StOk K Hf S B O P env σ H) : StOk K Hf S B [] P env σ H := st.weak fun _ m => nomatch m
/-- everything may be read -/
theorem StOk.all (st : StOk K Hf S B O P env σ H) : EnvOk K R env σ (hid S H) := by
  have h := (st.bare.rd (R := R) fun _ _ m => nomatch m)
  rw [List.map_nil, List.append_nil] at h
  exact h
theorem StOk.subS (st : StOk K Hf S B O P env σ H) : Sub S H := st.sub.mono st.exf
theorem StOk.set (st : StOk K Hf S B O P env σ H) {i : Nat} (hi : i ∉ O) {v : V} {d : D} (dv : Den K (hid (S ++ O.map P) H) v d) : StOk K Hf S B O P (env.set i (some d)) (σ.set i (some v)) H := by
  refine ⟨by rw [List.length_set, List.length_set]; exact st.len, st.exf, st.sub, st.bas, st.inj, fun j hj => ?_, fun j hj c hc => ?_⟩
  · obtain ⟨h0, vs, ds, h1, h2, h3, h4⟩ := st.own j hj
    have ne : i ≠ j := fun e => hi (e ▸ hj)
    exact ⟨h0, vs, ds, by rw [List.getElem?_set_ne ne]; exact h1, by rw [List.getElem?_set_ne ne]; exact h2, h3, h4⟩
  · by_cases e : i = j
    · subst e
      have hl : i < env.length := by
        have := (List.getElem?_eq_some_iff.mp hc).1
        rwa [List.length_set] at this
      rw [List.getElem?_set_self hl] at hc
      cases hc
      exact ⟨v, List.getElem?_set_self (by rw [← st.len]; exact hl), dv⟩
    · rw [List.getElem?_set_ne e] at hc ⊢
      exact st.oth j hj c hc
theorem StOk.setAll : ∀ {is : List Nat} {vs : List V} {ps : List D} {env : Sl} {σ : L2.St}, StOk K Hf S B O P env σ H → (∀ i ∈ is, i ∉ O) → DenL K (hid (S ++ O.map P) H) vs ps → StOk K Hf S B O P (Dx.setAll is ps env) (Dx.setAll is vs σ) H
  | [], _, _, _, _, st, _, .nil => st
  | [], _, _, _, _, st, _, .cons _ _ => st
  | _ :: _, _, _, _, _, st, _, .nil => st
  | i :: is, _ :: vs, _ :: ps, env, σ, st, h, .cons dv r => by
    have q := StOk.setAll (is := is) (st.set (i := i) (h i List.mem_cons_self) dv) (fun j m => h j (List.mem_cons_of_mem _ m)) r
    exact q
/-- a slot gets a list of the def's own -/
theorem StOk.new (st : StOk K Hf S B O P env σ H) {i : Nat} (hi : i ∉ O) (hl : i < env.length) {p : Addr} {vs : List V} {ds : List D} (e : Ex H H1) (hp : H p = none) (h1 : H1 p = some (.lst vs)) (r : DenL K (hid (p :: (S ++ O.map P)) H1) vs ds) :
    StOk K Hf S B (i :: O) (fun j => if j = i then p else P j) (env.set i (some (.lst ds))) (σ.set i (some (.ref p))) H1 := by
  have em : O.map (fun j => if j = i then p else P j) = O.map P := List.map_congr_left fun j hj => by
    rw [if_neg]
    intro q
    exact hi (q ▸ hj)
  have mem : ∀ a, a ∈ S ++ (i :: O).map (fun j => if j = i then p else P j) ↔ a ∈ p :: (S ++ O.map P) := fun a => by
    rw [List.map_cons, em, if_pos rfl, List.mem_append, List.mem_cons, List.mem_cons, List.mem_append]
    constructor
    · rintro (h | h | h)
      · exact .inr (.inl h)
      · exact .inl h
      · exact .inr (.inr h)
    · rintro (h | h | h)
      · exact .inr (.inl h)
      · exact .inl h
      · exact .inr (.inr h)
  have he : hid (S ++ (i :: O).map (fun j => if j = i then p else P j)) H1 = hid (p :: (S ++ O.map P)) H1 := by
    funext a
    unfold hid
    by_cases m : a ∈ p :: (S ++ O.map P)
    · rw [if_pos m, if_pos ((mem a).mpr m)]
    · rw [if_neg m, if_neg fun z => m ((mem a).mp z)]
  have ex : Ex (hid (S ++ O.map P) H) (hid (p :: (S ++ O.map P)) H1) := hid_fresh hp e
  have pn : ∀ j ∈ O, P j ≠ p := fun j hj z => by
    obtain ⟨_, vs, ds, _, _, h, _⟩ := st.own j hj
    rw [z, hp] at h; cases h
  refine ⟨by rw [List.length_set, List.length_set]; exact st.len, st.exf.trans e, st.sub, ?_, fun j hj k hk q => ?_, fun j hj => ?_, fun j hj c hc => ?_⟩
  · rw [he]; exact st.bas.trans ex
  · by_cases ej : j = i
    · by_cases ek : k = i
      · rw [ej, ek]
      · rw [if_pos ej, if_neg ek] at q
        rcases List.mem_cons.mp hk with z | z
        · exact absurd z ek
        · exact absurd q.symm (pn k z)
    · rcases List.mem_cons.mp hj with z | z
      · exact absurd z ej
      · by_cases ek : k = i
        · rw [if_neg ej, if_pos ek] at q
          exact absurd q (pn j z)
        · rw [if_neg ej, if_neg ek] at q
          rcases List.mem_cons.mp hk with z' | z'
          · exact absurd z' ek
          · exact st.inj j z k z' q
  · rw [he]
    by_cases ej : j = i
    · subst ej
      rw [if_pos rfl]
      exact ⟨ex_none st.exf hp, vs, ds, List.getElem?_set_self (by rw [← st.len]; exact hl), List.getElem?_set_self hl, h1, r⟩
    · rw [if_neg ej]
      rcases List.mem_cons.mp hj with z | z
      · exact absurd z ej
      · obtain ⟨g0, us, es, g1, g2, g3, g4⟩ := st.own j z
        exact ⟨g0, us, es, by rw [List.getElem?_set_ne (Ne.symm ej)]; exact g1, by rw [List.getElem?_set_ne (Ne.symm ej)]; exact g2, e _ _ g3, g4.mono ex⟩
  · rw [he]
    have ej : i ≠ j := fun z => hj (z ▸ List.mem_cons_self)
    rw [List.getElem?_set_ne ej] at hc ⊢
    obtain ⟨v, g1, g2⟩ := st.oth j (fun m => hj (List.mem_cons_of_mem _ m)) c hc
    exact ⟨v, g1, g2.mono ex⟩
/-- a list of the def's own is changed -/
theorem StOk.upd (st : StOk K Hf S B O P env σ H) {i : Nat} (hi : i ∈ O) {vs : List V} {ds : List D} (r : DenL K (hid (S ++ O.map P) H) vs ds) : StOk K Hf S B O P (env.set i (some (.lst ds))) σ (L2.upd H (P i) (.lst vs)) := by
  have m : P i ∈ S ++ O.map P := List.mem_append_right _ (List.mem_map.mpr ⟨i, hi, rfl⟩)
  have he := hid_upd (H := H) (o := .lst vs) m
  obtain ⟨f0, us, es, f1, f2, f3, f4⟩ := st.own i hi
  have hl : i < env.length := (List.getElem?_eq_some_iff.mp f2).1
  refine ⟨by rw [List.length_set]; exact st.len, Evl.Ex.mut st.exf f0, st.sub, by rw [he]; exact st.bas, st.inj, fun j hj => ?_, fun j hj c hc => ?_⟩
  · rw [he]
    by_cases ej : i = j
    · subst ej
      exact ⟨f0, vs, ds, f1, List.getElem?_set_self hl, upd_same, r⟩
    · obtain ⟨g0, us, es, g1, g2, g3, g4⟩ := st.own j hj
      exact ⟨g0, us, es, g1, by rw [List.getElem?_set_ne ej]; exact g2, by rw [upd_ne fun z => ej (st.inj i hi j hj z.symm)]; exact g3, g4⟩
  · rw [he]
    have ej : i ≠ j := fun z => hj (z ▸ hi)
    rw [List.getElem?_set_ne ej] at hc
    exact st.oth j hj c hc
end
theorem flat_any {K : PySem.W.Frag} {H H' : Hp} {v : V} {d : D} (h : Den K H v d) (f : D.flat d = true) : Den K H' v d := by
  cases h <;> first | exact absurd f Bool.false_ne_true | constructor

inductive Out where
  | nxt (e : Sl) | ret (d : D) | brk (e : Sl) | cnt (e : Sl) | err (c : Str) (e : Sl) | stuck
def PostS (K : PySem.W.Frag) (w : Wi) (Hf : Hp) (S : List Addr) (B : Hp) (fr : Bool) (L O : List Nat) (Dn : Ends) : Out → Prop
  | .nxt e => ∀ P σ H, StOk K Hf S B O P e σ H → Dn.nx σ H
  | .brk e => ∀ P σ H, StOk K Hf S B L P e σ H → Dn.bk σ H
  | .cnt e => ∀ P σ H, StOk K Hf S B L P e σ H → Dn.ct σ H
  | .ret d => ∀ v H1, Ex Hf H1 → RetOk K fr S Hf H1 v d → Dn.rt v H1
  | .err c e => ∀ P σ H, StOk K Hf S B [] P e σ H → w c σ H
  | .stuck => False
def sS (K : PySem.W.Frag) (w : Wi) (fr : Bool) (L O O' : List Nat) (f : Sl → Out) : TS := fun Dn σ H => ∃ (Hf : Hp) (S : List Addr) (B : Hp) (P : Nat → Addr) (env : Sl), StOk K Hf S B O P env σ H ∧ PostS K w Hf S B fr L O' Dn (f env)
abbrev DS (X : Cx) (w : Wi) (fr : Bool) (L O O' : List Nat) (st : Stmt) (f : Sl → Out) : Prop := PS X st (sS X.K w fr L O O' f)
abbrev DSs (X : Cx) (w : Wi) (fr : Bool) (L O O' : List Nat) (st : List Stmt) (f : Sl → Out) : Prop := PSs X st (sS X.K w fr L O O' f)
def toOut (env : Sl) : Res Out → Out
  | .ok o => o
  | .err c => .err c env
  | .stuck => .stuck
def sNext : Sl → Out := .nxt
def Out.andThen (o : Out) (g : Sl → Out) : Out := match o with
  | .nxt e => g e
  | o => o
def sSeq (f g : Sl → Out) : Sl → Out := fun env => (f env).andThen g
def sSet (i : Nat) (f : EE) : Sl → Out := fun env => toOut env ((f env).map fun d => .nxt (env.set i (some d)))
def sSetF (i : Nat) (f : EE) : Sl → Out := fun env => toOut env ((f env).bind fun d => if D.flat d = true then .ok (.nxt (env.set i (some d))) else .stuck)
def sOwn (i : Nat) (f : EL) : Sl → Out := fun env => toOut env ((f env).bind fun ds => if i < env.length then .ok (.nxt (env.set i (some (.lst ds)))) else .stuck)
def sRet (f : EE) : Sl → Out := fun env => toOut env ((f env).map .ret)
def sRetL (f : EL) : Sl → Out := fun env => toOut env ((f env).map fun ds => .ret (.lst ds))
def sDrop (f : EE) : Sl → Out := fun env => toOut env ((f env).map fun _ => .nxt env)
def Res.branch (r : Res Bool) (env : Sl) (f g : Sl → Out) : Out := match r with
  | .ok b => if b = true then f env else g env
  | .err c => .err c env
  | .stuck => .stuck
def sIf (t : EB) (f g : Sl → Out) : Sl → Out := fun env => (t env).branch env f g
section
variable {X : Cx} {w : Wi} {fr : Bool} {L O O' O1 O2 R Ra Rb Rc : List Nat} {st : Stmt} {rest sa sb : List Stmt} {a b c e : Expr} {es : List Expr} {f f1 f2 : EE} {fl : EL} {t : EB} {s1 s2 : Sl → Out} {pos pos' : Pos} {i : Nat} {x : Str}
theorem PostS.mono {K : PySem.W.Frag} {Hf B B' : Hp} {S : List Addr} {Dn : Ends} {o : Out} (h : PostS K w Hf S B fr L O Dn o) (e : Ex B B') : PostS K w Hf S B' fr L O Dn o := by
  cases o with
  | nxt _ => exact fun P σ H st => h P σ H (st.rebase e)
  | brk _ => exact fun P σ H st => h P σ H (st.rebase e)
  | cnt _ => exact fun P σ H st => h P σ H (st.rebase e)
  | ret _ => exact h
  | err _ _ => exact fun P σ H st => h P σ H (st.rebase e)
  | stuck => exact h
theorem dss_nil : DSs X w fr L O O [] sNext := PSs.weak pss_nil fun Dn σ H ⟨Hf, S, B, P, env, st, po⟩ => po P σ H st
theorem dss_cons (h1 : DS X w fr L O O1 st s1) (h2 : DSs X w fr L O1 O2 rest s2) : DSs X w fr L O O2 (st :: rest) (sSeq s1 s2) := PSs.weak (pss_cons h1 h2) fun Dn σ H ⟨Hf, S, B, P, env, st, po⟩ => by
  refine ⟨Hf, S, B, P, env, st, ?_⟩
  unfold sSeq Out.andThen at po
  cases q : s1 env with
  | nxt e => rw [q] at po; exact fun P' σ' H' st' => ⟨Hf, S, B, P', e, st', po⟩
  | ret d => rw [q] at po; exact po
  | brk e => rw [q] at po; exact po
  | cnt e => rw [q] at po; exact po
  | err c e => rw [q] at po; exact po
  | stuck => rw [q] at po; exact po
theorem dss_one (h1 : DS X w fr L O O1 st s1) : DSs X w fr L O O1 [st] s1 := pss_one h1
/-- fewer lists of one's own: ahead, behind -/
theorem ds_pre (hO : ∀ j ∈ O, j ∈ O') (h : DS X w fr L O O1 st s1) : DS X w fr L O' O1 st s1 := PS.weak h fun Dn σ H ⟨Hf, S, B, P, env, st, po⟩ => ⟨Hf, S, B, P, env, st.weak hO, po⟩
theorem dss_pre (hO : ∀ j ∈ O, j ∈ O') (h : DSs X w fr L O O1 sa s1) : DSs X w fr L O' O1 sa s1 := PSs.weak h fun Dn σ H ⟨Hf, S, B, P, env, st, po⟩ => ⟨Hf, S, B, P, env, st.weak hO, po⟩
theorem PostS.post {K : PySem.W.Frag} {Hf B : Hp} {S : List Addr} {Dn : Ends} {o : Out} (hO : ∀ j ∈ O', j ∈ O) (h : PostS K w Hf S B fr L O' Dn o) : PostS K w Hf S B fr L O Dn o := by
  cases o with
  | nxt _ => exact fun P σ H st => h P σ H (st.weak hO)
  | _ => exact h
theorem ds_post (hO : ∀ j ∈ O', j ∈ O1) (h : DS X w fr L O O1 st s1) : DS X w fr L O O' st s1 := PS.weak h fun Dn σ H ⟨Hf, S, B, P, env, st, po⟩ => ⟨Hf, S, B, P, env, st, po.post hO⟩
theorem dss_post (hO : ∀ j ∈ O', j ∈ O1) (h : DSs X w fr L O O1 sa s1) : DSs X w fr L O O' sa s1 := PSs.weak h fun Dn σ H ⟨Hf, S, B, P, env, st, po⟩ => ⟨Hf, S, B, P, env, st, po.post hO⟩
/-- an evaluation in such a state, what it reads being none of O -/
theorem eval_at {α β : Type} {Rel : Hp → β → α → Prop} {K : PySem.W.Frag} {g : Sl → Res α} {Hf B : Hp} {S : List Addr} {P : Nat → Addr} {env : Sl} {σ : L2.St} {H : Hp} {Q : β → Hp → Prop} {Dn : Ends} {k : α → Res Out} (hR : ∀ j ∈ R, j ∉ O)
    (st : StOk K Hf S B O P env σ H) (po : PostS K w Hf S B fr L O' Dn (toOut env ((g env).bind k))) (hk : ∀ a b H1, StOk K Hf S B O P env σ H1 → Rel (hid (S ++ O.map P) H1) b a → PostS K w Hf S B fr L O' Dn (toOut env (k a)) → Q b H1) : tS Rel K w R g σ H Q := by
  refine ⟨S ++ O.map P, env, st.subT, st.rd hR, ?_⟩
  cases q : g env with
  | ok a => rw [q] at po; exact fun b H1 e r => hk a b H1 (st.grow e) r po
  | err c => rw [q] at po; exact fun H1 e => po P σ H1 (st.grow e).bare
  | stuck => rw [q] at po; exact po
/-- everything may be read, the answer leans on all -/
theorem eval_all {α β : Type} {Rel : Hp → β → α → Prop} {K : PySem.W.Frag} {g : Sl → Res α} {Hf B : Hp} {S : List Addr} {P : Nat → Addr} {env : Sl} {σ : L2.St} {H : Hp} {Q : β → Hp → Prop} {Dn : Ends} {k : α → Res Out}
    (st : StOk K Hf S B O P env σ H) (po : PostS K w Hf S B fr L O' Dn (toOut env ((g env).bind k))) (hk : ∀ a b H1, Ex H H1 → StOk K Hf S B O P env σ H1 → Rel (hid S H1) b a → PostS K w Hf S B fr L O' Dn (toOut env (k a)) → Q b H1) : tS Rel K w R g σ H Q := by
  refine ⟨S, env, st.subS, st.all, ?_⟩
  cases q : g env with
  | ok a => rw [q] at po; exact fun b H1 e r => hk a b H1 e (st.grow e) r po
  | err c => rw [q] at po; exact fun H1 e => po P σ H1 (st.grow e).bare
  | stuck => rw [q] at po; exact po
theorem evalF_at {K : PySem.W.Frag} {g : EL} {Hf B : Hp} {S : List Addr} {P : Nat → Addr} {env : Sl} {σ : L2.St} {H : Hp} {Q : VK} {Dn : Ends} {k : List D → Res Out} (hR : ∀ j ∈ R, j ∉ O)
    (st : StOk K Hf S B O P env σ H) (po : PostS K w Hf S B fr L O' Dn (toOut env ((g env).bind k))) (hk : ∀ ds p vs H1, H p = none → Ex H H1 → H1 p = some (.lst vs) → DenL K (hid (p :: (S ++ O.map P)) H1) vs ds → PostS K w Hf S B fr L O' Dn (toOut env (k ds)) → Q (.ref p) H1) : tF K w R g σ H Q := by
  refine ⟨S ++ O.map P, env, st.subT, st.rd hR, ?_⟩
  cases q : g env with
  | ok a => rw [q] at po; exact fun p vs H1 hp e h1 r => hk a p vs H1 hp e h1 r po
  | err c => rw [q] at po; exact fun H1 e => po P σ H1 (st.grow e).bare
  | stuck => rw [q] at po; exact po
theorem map_bind {α β : Type} (g : α → β) (r : Res α) : r.map g = r.bind fun a => .ok (g a) := by cases r <;> rfl
theorem ds_set (hR : ∀ j ∈ R, j ∉ O) (hi : i ∉ O) (hN : X.N.Nodup) (he : DE X w R e f) (hx : X.N[i]? = some x := by rfl) (hl : Loc X.env.scope x := by first | exact .inl rfl | exact .inr rfl) (hs : swapsWith e (some (.Name x pos')) pos.line X.env = pure false := by rfl) (hf : X.fn x = true ∨ X.env.scope.names.lookup x = some .local := by first | exact .inl rfl | exact .inr rfl) :
    DS X w fr L O O (.Assign [.Name x pos'] e pos) (sSet i f) := PS.weak (ps_set hN hx hl he hs hf) fun Dn σ H ⟨Hf, S, B, P, env, st, po⟩ => by
  unfold sSet at po
  rw [map_bind] at po
  exact eval_at hR st po fun d v H1 st1 dv po1 => po1 _ _ _ (st1.set hi dv)
theorem ds_setF (hi : i ∉ O) (hN : X.N.Nodup) (he : DE X w R e f) (hx : X.N[i]? = some x := by rfl) (hl : Loc X.env.scope x := by first | exact .inl rfl | exact .inr rfl) (hs : swapsWith e (some (.Name x pos')) pos.line X.env = pure false := by rfl) (hf : X.fn x = true ∨ X.env.scope.names.lookup x = some .local := by first | exact .inl rfl | exact .inr rfl) :
    DS X w fr L O O (.Assign [.Name x pos'] e pos) (sSetF i f) := PS.weak (ps_set hN hx hl he hs hf) fun Dn σ H ⟨Hf, S, B, P, env, st, po⟩ => by
  unfold sSetF at po
  refine eval_all (Rel := Den X.K) st po fun d v H1 _ st1 dv po1 => ?_
  by_cases hf : D.flat d = true
  · rw [if_pos hf] at po1
    exact po1 _ _ _ (st1.set hi (flat_any dv hf))
  · rw [if_neg hf] at po1
    exact po1.elim
theorem own_of {σ : L2.St} {H : Hp} {Dn : Ends} (hR : ∀ j ∈ R, j ∉ O) (hi : i ∉ O) (h : sS X.K w fr L O (i :: O) (sOwn i fl) Dn σ H) : tAsg (tF X.K w R fl) (gName i) Dn σ H := by
  obtain ⟨Hf, S, B, P, env, st, po⟩ := h
  unfold sOwn at po
  refine evalF_at hR st po fun ds p vs H1 hp e1 h1 r po1 => ?_
  by_cases hn : i < env.length
  · rw [if_pos hn] at po1
    exact po1 _ _ _ (st.new hi hn e1 hp h1 r)
  · rw [if_neg hn] at po1
    exact po1.elim
theorem ds_own (hR : ∀ j ∈ R, j ∉ O) (hi : i ∉ O) (hN : X.N.Nodup) (he : DL X w R e fl) (hx : X.N[i]? = some x := by rfl) (hl : Loc X.env.scope x := by first | exact .inl rfl | exact .inr rfl) (hs : swapsWith e (some (.Name x pos')) pos.line X.env = pure false := by rfl) (hf : X.fn x = true ∨ X.env.scope.names.lookup x = some .local := by first | exact .inl rfl | exact .inr rfl) :
    DS X w fr L O (i :: O) (.Assign [.Name x pos'] e pos) (sOwn i fl) := PS.weak (ps_set hN hx hl he hs hf) fun Dn σ H h => own_of hR hi h
theorem ds_ownLc {Ri Rt Re : List Nat} {elt tg iter : Expr} {ifs : List Expr} {scope : Scope} {own : List (Str × Nat)} {cpos : Pos} {items : EL} (tgt : Tgt) (hR : ∀ j ∈ Ri ++ (Rt ++ Re), j ∉ O) (hi : i ∉ O) (hc : X.calm = true) (hN : X.N.Nodup) (hit : DI X w Ri tg iter items) (ok : BlkOk X.N X.env.scope scope own) (hs : ∀ i ∈ tgt.slots, i ∈ own.map (·.2))
    (hg : ∀ (s : Shared) (H : Hp) (C : Addr) (cl : List (Str × Addr)) (fp : List Addr), PG (X.blk s H scope (compEnvC scope cl C X.env) fp) tg (gT X.K tgt))
    (ht : ∀ (s : Shared) (H : Hp) (C : Addr) (cl : List (Str × Addr)) (fp : List Addr), BT (X.blk s H scope (compEnvC scope cl C X.env) fp) w0 Rt ifs t)
    (he : ∀ (s : Shared) (H : Hp) (C : Addr) (cl : List (Str × Addr)) (fp : List Addr), DE (X.blk s H scope (compEnvC scope cl C X.env) fp) w0 Re elt f)
    (hy : X.N[i]? = some x := by rfl) (hyl : X.env.scope.names.lookup x = some .local := by rfl) (hsw : swapsWith (.ListComp elt [⟨tg, iter, ifs, 0⟩] scope cpos) (some (.Name x pos')) pos.line X.env = pure true := by exact sw_true rfl rfl rfl (by decide +kernel)) (hf : ∀ x, foldedSetIterable iter X.env x = pure x := by intro _; rfl) :
    DS X w fr L O (i :: O) (.Assign [.Name x pos'] (.ListComp elt [⟨tg, iter, ifs, 0⟩] scope cpos) pos) (sOwn i (eLc items tgt (own.map (·.2)) t f)) := PS.weak (ps_setLc hc hN hy hyl hsw hit ok hg ht he hf) fun Dn σ H h => by
  have q := own_of (R := Ri ++ (Rt ++ Re)) hR hi h
  exact lc_core_of hs q
theorem ds_ret (he : DE X w R e f) : DS X w false L O O' (.Return (some e) pos) (sRet f) := PS.weak (ps_ret he) fun Dn σ H ⟨Hf, S, B, P, env, st, po⟩ => by
  unfold sRet at po
  rw [map_bind] at po
  exact eval_all (Rel := Den X.K) st po fun d v H1 _ st1 dv po1 => po1 v H1 st1.exf dv
theorem ds_retL (he : DL X w R e fl) : DS X w true L O O' (.Return (some e) pos) (sRetL fl) := PS.weak (ps_ret he) fun Dn σ H ⟨Hf, S, B, P, env, st, po⟩ => by
  unfold sRetL at po
  rw [map_bind] at po
  have st := st.bare
  refine evalF_at (R := R) (O := []) (fun _ _ m => List.not_mem_nil m) st po fun ds p vs H1 hp e1 h1 r po1 => ?_
  rw [List.map_nil, List.append_nil] at r
  exact po1 _ H1 (st.exf.trans e1) ⟨p, vs, ds, rfl, rfl, ex_none st.exf hp, h1, r⟩
def sRetV (i : Nat) : Sl → Out := fun env => match env[i]? with
  | some (some d) => .ret d
  | _ => .stuck
theorem ds_retO (hi : i ∈ O) (hN : X.N[i]? = some x := by rfl) (hv : Vis X.env.scope x := by first | exact Or.inl rfl | exact Or.inr (Or.inl rfl)) (hd : (x == ("__debug__" : Str)) = false := by decide) (hcd : (x == ("__classdict__" : Str)) = false := by decide) :
    DS X w true L O O' (.Return (some (.Name x pos')) pos) (sRetV i) := PS.weak (ps_ret (pe_var hN hv hd hcd)) fun Dn σ H ⟨Hf, S, B, P, env, st, po⟩ => by
  obtain ⟨h0, vs, ds, h1, h2, h3, h4⟩ := st.own i hi
  unfold sRetV at po
  rw [h2] at po
  refine ⟨_, h1, po _ H st.exf ⟨P i, vs, ds, rfl, rfl, h0, h3, h4.mono (hid_sub fun a m => ?_)⟩⟩
  rcases List.mem_cons.mp m with z | z
  · rw [z]; exact List.mem_append_right _ (List.mem_map.mpr ⟨i, hi, rfl⟩)
  · exact List.mem_append_left _ z
theorem ds_retN : DS X w false L O O' (.Return none pos) (fun _ => .ret .non) := PS.weak ps_retN fun Dn σ H ⟨Hf, S, B, P, env, st, po⟩ => po .non H st.exf .non
theorem ds_drop (he : DE X w R e f) (hs : swapsWith e none pos.line X.env = pure false := by rfl) : DS X w fr L O O (.Expr e pos) (sDrop f) := PS.weak (ps_expr he hs) fun Dn σ H ⟨Hf, S, B, P, env, st, po⟩ => by
  unfold sDrop at po
  rw [map_bind] at po
  exact eval_all (Rel := Den X.K) st po fun d v H1 _ st1 dv po1 => po1 _ _ _ st1
theorem ds_pass : DS X w fr L O O (.Pass pos) sNext := PS.weak ps_pass fun Dn σ H ⟨Hf, S, B, P, env, st, po⟩ => po P σ H st
theorem ds_doc {z : Str} {k : Nat} : DS X w fr L O O (.Expr (.Constant (.str z) k pos) pos') sNext := PS.weak ps_doc fun Dn σ H ⟨Hf, S, B, P, env, st, po⟩ => po P σ H st
theorem ds_break : DS X w fr L L O' (.Break pos) .brk := PS.weak ps_break fun Dn σ H ⟨Hf, S, B, P, env, st, po⟩ => po P σ H st
theorem ds_continue : DS X w fr L L O' (.Continue pos) .cnt := PS.weak ps_continue fun Dn σ H ⟨Hf, S, B, P, env, st, po⟩ => po P σ H st
theorem ds_if (hc : DT X w Rc c t) (ha : DSs X w fr L O O' sa s1) (hb : DSs X w fr L O O' sb s2) : DS X w fr L O O' (.If c sa sb pos) (sIf t s1 s2) := PS.weak (ps_if hc ha hb) fun Dn σ H ⟨Hf, S, B, P, env, st, po⟩ => by
  refine ⟨S, env, st.subS, st.all, ?_⟩
  unfold sIf Res.branch at po
  cases q : t env with
  | ok b =>
    rw [q] at po
    intro b' H1 e1 hb'
    cases (show b' = b from hb')
    cases b with
    | true => exact ⟨Hf, S, B, P, env, st.grow e1, po⟩
    | false => exact ⟨Hf, S, B, P, env, st.grow e1, po⟩
  | err c => rw [q] at po; exact fun H1 e1 => po P σ H1 (st.grow e1).bare
  | stuck => rw [q] at po; exact po

/-! ### lists of one's own, changed -/
def sApp (i : Nat) (f : EE) : Sl → Out := fun env => toOut env ((f env).bind fun d => match env[i]? with
  | some (some (.lst ds)) => lim (ds.length + 1) (.ok (.nxt (env.set i (some (.lst (ds ++ [d]))))))
  | _ => .stuck)
def sAppF (i : Nat) (f : EE) : Sl → Out := fun env => toOut env ((f env).bind fun d => if D.flat d = true then (match env[i]? with
  | some (some (.lst ds)) => lim (ds.length + 1) (.ok (.nxt (env.set i (some (.lst (ds ++ [d]))))))
  | _ => .stuck) else .stuck)
theorem lim_out {n : Nat} {env : Sl} {o : Res Out} {K : PySem.W.Frag} {Hf B : Hp} {S : List Addr} {Dn : Ends} (h : PostS K w Hf S B fr L O Dn (toOut env (lim n o))) : n ≤ 100000 ∧ PostS K w Hf S B fr L O Dn (toOut env o) := by
  unfold lim at h
  split at h
  · exact ⟨by assumption, h⟩
  · exact h.elim
theorem app_of (hi : i ∈ O) {K : PySem.W.Frag} {te : TE} {σ : L2.St} {H : Hp} {Dn : Ends} {Hf B : Hp} {S : List Addr} {P : Nat → Addr} {env : Sl} (st : StOk K Hf S B O P env σ H)
    (hte : te σ H fun v H1 => ∃ d ds, StOk K Hf S B O P env σ H1 ∧ Den K (hid (S ++ O.map P) H1) v d ∧ env[i]? = some (some (.lst ds)) ∧ PostS K w Hf S B fr L O Dn (toOut env (lim (ds.length + 1) (.ok (.nxt (env.set i (some (.lst (ds ++ [d]))))))))) (mono : ∀ Q Q' : VK, (∀ v H1, Q v H1 → Q' v H1) → te σ H Q → te σ H Q') :
    tDrop (tBM K "list" rAppend (tVar i) (tCons te tNil)) Dn σ H := by
  obtain ⟨h0, vs, ds0, h1, h2, h3, h4⟩ := st.own i hi
  refine ⟨_, h1, .inl ⟨rfl, vs, .of h3⟩, mono _ _ (fun v H1 q => ?_) hte⟩
  obtain ⟨d, ds, st1, dv, hds, po⟩ := q
  obtain ⟨_, us, es, g1, g2, g3, g4⟩ := st1.own i hi
  rw [hds] at g2
  cases g2
  obtain ⟨hz, po⟩ := lim_out po
  exact ⟨P i, us, v, rfl, rfl, g3, Evl.sz_lt (by rw [g4.len]; omega), po _ _ _ (st1.upd hi (g4.append (.one dv)))⟩
theorem tS_mono {α β : Type} {Rel : Hp → β → α → Prop} {K : PySem.W.Frag} {g : Sl → Res α} {σ : L2.St} {H : Hp} {Q Q' : β → Hp → Prop} (hQ : ∀ b H1, Q b H1 → Q' b H1) (h : tS Rel K w R g σ H Q) : tS Rel K w R g σ H Q' := by
  obtain ⟨S, env, sub, ok, po⟩ := h
  refine ⟨S, env, sub, ok, ?_⟩
  cases q : g env with
  | ok a => rw [q] at po; exact fun b H1 e r => hQ _ _ (po b H1 e r)
  | err c => rw [q] at po; exact po
  | stuck => rw [q] at po; exact po
theorem ds_app (hi : i ∈ O) (hR : ∀ j ∈ R, j ∉ O) {p1 p2 p3 : Pos} (he : DE X w R e f) (hN : X.N[i]? = some x := by rfl) (hv : Vis X.env.scope x := by first | exact Or.inl rfl | exact Or.inr (Or.inl rfl)) (hd : (x == ("__debug__" : Str)) = false := by decide) (hcd : (x == ("__classdict__" : Str)) = false := by decide)
    (hs : swapsWith (.Call (.Attribute (.Name x p1) "append" p2) [e] [] p3) none pos.line X.env = pure false := by rfl) (hst : starEach [e] X.env = (false, eval e X.env) :: starEach [] X.env := by rfl)
    (hfew : ((backTo p3 (starEach [e] X.env)).all (fun x => !x.1) && (backToKw p3 (keywordEach [] X.env)).all (fun x => x.1.isSome) && decide ([e].length + ([] : List Keyword).length + (if ([] : List Keyword).isEmpty then 0 else 1) < 30)) = true := by rfl) (hline : (p2.endLine == p3.line) = true := by rfl)
    (hbase : attributeBase (.Name x p1) "append" X.env (eval (.Name x p1) X.env) = eval (.Name x p1) X.env := by rfl) :
    DS X w fr L O O (.Expr (.Call (.Attribute (.Name x p1) "append" p2) [e] [] p3) pos) (sApp i f) :=
  PS.weak (ps_expr (pe_bm PySem.F.plainAttrs_list PySem.F.slot_list_append PySem.F.type_list_append mt_append (pe_var hN hv hd hcd) (pa_cons he pa_nil hst) hbase hfew hline hst) hs) fun Dn σ H ⟨Hf, S, B, P, env, st, po⟩ => by
    refine app_of (w := w) (fr := fr) (L := L) hi st (eval_at hR st po fun d v H1 st1 dv po1 => ?_) fun Q Q' hQ h => tS_mono hQ h
    obtain ⟨h0, vs, ds, h1, h2, h3, h4⟩ := st.own i hi
    rw [h2] at po1
    exact ⟨d, ds, st1, dv, h2, po1⟩
theorem ds_appF (hi : i ∈ O) {p1 p2 p3 : Pos} (he : DE X w R e f) (hN : X.N[i]? = some x := by rfl) (hv : Vis X.env.scope x := by first | exact Or.inl rfl | exact Or.inr (Or.inl rfl)) (hd : (x == ("__debug__" : Str)) = false := by decide) (hcd : (x == ("__classdict__" : Str)) = false := by decide)
    (hs : swapsWith (.Call (.Attribute (.Name x p1) "append" p2) [e] [] p3) none pos.line X.env = pure false := by rfl) (hst : starEach [e] X.env = (false, eval e X.env) :: starEach [] X.env := by rfl)
    (hfew : ((backTo p3 (starEach [e] X.env)).all (fun x => !x.1) && (backToKw p3 (keywordEach [] X.env)).all (fun x => x.1.isSome) && decide ([e].length + ([] : List Keyword).length + (if ([] : List Keyword).isEmpty then 0 else 1) < 30)) = true := by rfl) (hline : (p2.endLine == p3.line) = true := by rfl)
    (hbase : attributeBase (.Name x p1) "append" X.env (eval (.Name x p1) X.env) = eval (.Name x p1) X.env := by rfl) :
    DS X w fr L O O (.Expr (.Call (.Attribute (.Name x p1) "append" p2) [e] [] p3) pos) (sAppF i f) :=
  PS.weak (ps_expr (pe_bm PySem.F.plainAttrs_list PySem.F.slot_list_append PySem.F.type_list_append mt_append (pe_var hN hv hd hcd) (pa_cons he pa_nil hst) hbase hfew hline hst) hs) fun Dn σ H ⟨Hf, S, B, P, env, st, po⟩ => by
    refine app_of (w := w) (fr := fr) (L := L) hi st (eval_all (Rel := Den X.K) st po fun d v H1 _ st1 dv po1 => ?_) fun Q Q' hQ h => tS_mono hQ h
    obtain ⟨h0, vs, ds, h1, h2, h3, h4⟩ := st.own i hi
    by_cases hf : D.flat d = true
    · rw [if_pos hf, h2] at po1
      exact ⟨d, ds, st1, flat_any dv hf, h2, po1⟩
    · rw [if_neg hf] at po1
      exact po1.elim
def sLst (g : List D → List D) (i : Nat) : Sl → Out := fun env => match env[i]? with
  | some (some (.lst ds)) => .nxt (env.set i (some (.lst (g ds))))
  | _ => .stuck
theorem ds_reverse (hi : i ∈ O) {p1 p2 p3 : Pos} (hN : X.N[i]? = some x := by rfl) (hv : Vis X.env.scope x := by first | exact Or.inl rfl | exact Or.inr (Or.inl rfl)) (hd : (x == ("__debug__" : Str)) = false := by decide) (hcd : (x == ("__classdict__" : Str)) = false := by decide)
    (hs : swapsWith (.Call (.Attribute (.Name x p1) "reverse" p2) [] [] p3) none pos.line X.env = pure false := by rfl) (hline : (p2.endLine == p3.line) = true := by rfl) (hbase : attributeBase (.Name x p1) "reverse" X.env (eval (.Name x p1) X.env) = eval (.Name x p1) X.env := by rfl) :
    DS X w fr L O O (.Expr (.Call (.Attribute (.Name x p1) "reverse" p2) [] [] p3) pos) (sLst List.reverse i) :=
  PS.weak (ps_expr (pe_bm0 PySem.F.plainAttrs_list PySem.F.slot_list_reverse PySem.F.type_list_reverse mt_reverse (pe_var hN hv hd hcd) hbase hline) hs) fun Dn σ H ⟨Hf, S, B, P, env, st, po⟩ => by
    obtain ⟨h0, vs, ds, h1, h2, h3, h4⟩ := st.own i hi
    unfold sLst at po
    rw [h2] at po
    exact ⟨_, h1, .inl ⟨rfl, vs, .of h3⟩, P i, vs, rfl, rfl, h3, po _ _ _ (st.upd hi h4.reverse)⟩
theorem ds_clear (hi : i ∈ O) {p1 p2 p3 : Pos} (hN : X.N[i]? = some x := by rfl) (hv : Vis X.env.scope x := by first | exact Or.inl rfl | exact Or.inr (Or.inl rfl)) (hd : (x == ("__debug__" : Str)) = false := by decide) (hcd : (x == ("__classdict__" : Str)) = false := by decide)
    (hs : swapsWith (.Call (.Attribute (.Name x p1) "clear" p2) [] [] p3) none pos.line X.env = pure false := by rfl) (hline : (p2.endLine == p3.line) = true := by rfl) (hbase : attributeBase (.Name x p1) "clear" X.env (eval (.Name x p1) X.env) = eval (.Name x p1) X.env := by rfl) :
    DS X w fr L O O (.Expr (.Call (.Attribute (.Name x p1) "clear" p2) [] [] p3) pos) (sLst (fun _ => []) i) :=
  PS.weak (ps_expr (pe_bm0 PySem.F.plainAttrs_list PySem.F.slot_list_clear PySem.F.type_list_clear mt_clear (pe_var hN hv hd hcd) hbase hline) hs) fun Dn σ H ⟨Hf, S, B, P, env, st, po⟩ => by
    obtain ⟨h0, vs, ds, h1, h2, h3, h4⟩ := st.own i hi
    unfold sLst at po
    rw [h2] at po
    exact ⟨_, h1, .inl ⟨rfl, vs, .of h3⟩, P i, vs, rfl, rfl, h3, po _ _ _ (st.upd hi .nil)⟩
end
end Dx
set_option Elab.async false
set_option linter.all false
set_option maxRecDepth 100000
set_option maxHeartbeats 4000000
namespace Dx
open PySem PySem.Spec PyProof.Rows L2
open Evl (Ex)
open RZ RT
open D (okd okdA py pyA)
section
variable {X : Cx} {w : Wi} {fr : Bool} {L O O' O1 O2 R Ra Rb Rc Ri : List Nat} {st : Stmt} {body rest sa sb : List Stmt} {a b c e tg iter : Expr} {es : List Expr} {f f1 f2 : EE} {fl items : EL} {t : EB} {s1 s2 sf : Sl → Out} {pos pos' : Pos} {i j : Nat} {x y : Str}

/-! ### a name changed by an operator -/
def sAug (i : Nat) (g : D → D → Res D) (f : EE) : Sl → Out := fun env => toOut env (match env[i]? with
  | some (some d) => (f env).bind fun c => (g d c).bind fun r => if D.flat r = true then .ok (.nxt (env.set i (some r))) else .stuck
  | _ => .stuck)
theorem pip_of {op : Operator} {r : R2} (h : OpR X (inplaceOp op) r) : PIp X op r := fun pins s σ H x y v u Q I rx ry q => h pins s σ H x y v u Q I rx ry q
theorem ds_aug {op : Operator} {r : R2} {g : D → D → Res D} (ho : OpR X (inplaceOp op) r) (hr : Op2 X.K w r g) (hi : i ∉ O) (hN : X.N.Nodup) (he : DE X w R e f) (hx : X.N[i]? = some x := by rfl) (hl : Loc X.env.scope x := by first | exact .inl rfl | exact .inr rfl)
    (hf : X.fn x = true ∨ X.env.scope.names.lookup x = some .local := by first | exact .inl rfl | exact .inr rfl) : DS X w fr L O O (.AugAssign (.Name x pos') op e pos) (sAug i g f) :=
  PS.weak (ps_aug hN hx hl he (pip_of ho) hf) fun Dn σ H ⟨Hf, S, B, P, env, st, po⟩ => by
    unfold sAug at po
    split at po
    · rename_i d hd
      obtain ⟨v, hv, dv⟩ := (st.all (R := [i])).get i (List.mem_singleton.mpr rfl) d hd
      refine ⟨v, hv, eval_all (Rel := Den X.K) st po fun c u H1 e1 st1 du po1 => ?_⟩
      refine hr S σ H1 v u d c _ st1.subS (dv.mono (hid_ex e1)) du ?_
      cases q : g d c with
      | ok z =>
        rw [q] at po1
        intro v' H2 e2 dv'
        by_cases hf : D.flat z = true
        · rw [bind_ok, if_pos hf] at po1
          exact po1 _ _ _ ((st1.grow e2).set hi (flat_any dv' hf))
        · rw [bind_ok, if_neg hf] at po1
          exact po1.elim
      | err c => rw [q] at po1; exact fun H2 e2 => po1 P σ H2 (st1.grow e2).bare
      | stuck => rw [q] at po1; exact po1
    · exact po.elim
theorem iop2_add : OpR X (inplaceOp .Add) (fun x y H Q => rI0 (fun i j => .int (i + j)) x y H Q ∨ ∃ i j, x = .str i ∧ y = .str j ∧ i.length + j.length ≤ sizeLine ∧ Q (.str (i ++ j)) H) := iop_add.or iop_add_str
namespace D
def iadd : D → D → Res D
  | .int i, .int j => .ok (.int (i + j))
  | .str x, .str y => lim (x.length + y.length) (.ok (.str (x ++ y)))
  | _, _ => .stuck
end D
theorem op2_iadd {K : PySem.W.Frag} : Op2 K w (fun x y H Q => rI0 (fun i j => .int (i + j)) x y H Q ∨ ∃ i j, x = .str i ∧ y = .str j ∧ i.length + j.length ≤ sizeLine ∧ Q (.str (i ++ j)) H) D.iadd := fun S σ H x y a b Q sub da db po => by
  cases a <;> cases b <;> first | exact po.elim | skip
  · exact .inl ⟨_, _, den_int da, den_int db, Post.okay (Rel := Den K) po (.int _)⟩
  · obtain ⟨h, po⟩ := Post.lim po
    exact .inr ⟨_, _, den_str da, den_str db, h, Post.okay (Rel := Den K) po (.str _)⟩

/-! ### an item stored, two names at once -/
def sSetI (i : Nat) (fi f : EE) (chk : D → Bool) : Sl → Out := fun env => toOut env ((f env).bind fun d => if chk d = true then (fi env).bind fun k => (match env[i]?, k with
  | some (some (.lst ds)), .int k => (match ixN ds.length k with
    | some j => .ok (.nxt (env.set i (some (.lst (ds.set j d)))))
    | none => .stuck)
  | _, _ => .stuck) else .stuck)
/-- xs[k] = e: e leans on none of one's own lists, or is flat -/
theorem ds_setI {p1 p2 : Pos} {e2 : Expr} {fi : EE} (hi : i ∈ O) (hR : ∀ j ∈ R, j ∉ O) (he : DE X w R e f) (hk : DE X w Rb e2 fi) (hN : X.N[i]? = some x := by rfl) (hv : Vis X.env.scope x := by first | exact Or.inl rfl | exact Or.inr (Or.inl rfl)) (hd : (x == ("__debug__" : Str)) = false := by decide) (hcd : (x == ("__classdict__" : Str)) = false := by decide)
    (hs : swapsWithSole [.Subscript (.Name x p1) e2 p2] e pos.line X.env = pure false := by rfl) (hw : swappedStores [.Subscript (.Name x p1) e2 p2] e X.env = pure none := by rfl)
    (h1 : (assignEach [.Subscript (.Name x p1) e2 p2] X.env).map (·.2) = [assign (.Subscript (.Name x p1) e2 p2) X.env] := by rfl)
    (ha : ∀ v, assign (.Subscript (.Name x p1) e2 p2) X.env v = (do
      let ov ← holding [v] (eval (.Name x p1) X.env)
      let iv ← holding [v, ov] (eval e2 X.env)
      standAt p2
      holding [v, ov, iv] (setItem ov iv v)
      release [v, ov, iv] []) := by intro _; rfl) : DS X w fr L O O (.Assign [.Subscript (.Name x p1) e2 p2] e pos) (sSetI i fi f fun _ => true) :=
  PS.weak (ps_asg he (pg_sub (pe_var hN hv hd hcd) hk set_list ha) hs hw h1) fun Dn σ H ⟨Hf, S, B, P, env, st, po⟩ => by
    unfold sSetI at po
    refine eval_at (Rel := Den X.K) hR st po fun d v H1 st1 dv po1 => ?_
    rw [if_pos rfl] at po1
    obtain ⟨h0, vs, ds, h1, h2, h3, h4⟩ := st1.own i hi
    refine ⟨_, h1, eval_all (Rel := Den X.K) st1 po1 fun k u H2 e2 st2 du po2 => ?_⟩
    rw [h2] at po2
    cases k <;> first | exact po2.elim | skip
    rename_i k
    rw [den_int du]
    obtain ⟨g0, us, es, g1, g2, g3, g4⟩ := st2.own i hi
    rw [h2] at g2
    cases g2
    dsimp only at po2
    split at po2
    · rename_i n hn
      exact ⟨P i, us, k, n, rfl, rfl, g3, by rw [g4.len]; exact hn, po2 _ _ _ (st2.upd hi (g4.set (dv.mono (hid_ex e2)) n))⟩
    · exact po2.elim
theorem ds_setIF {p1 p2 : Pos} {e2 : Expr} {fi : EE} (hi : i ∈ O) (he : DE X w R e f) (hk : DE X w Rb e2 fi) (hN : X.N[i]? = some x := by rfl) (hv : Vis X.env.scope x := by first | exact Or.inl rfl | exact Or.inr (Or.inl rfl)) (hd : (x == ("__debug__" : Str)) = false := by decide) (hcd : (x == ("__classdict__" : Str)) = false := by decide)
    (hs : swapsWithSole [.Subscript (.Name x p1) e2 p2] e pos.line X.env = pure false := by rfl) (hw : swappedStores [.Subscript (.Name x p1) e2 p2] e X.env = pure none := by rfl)
    (h1 : (assignEach [.Subscript (.Name x p1) e2 p2] X.env).map (·.2) = [assign (.Subscript (.Name x p1) e2 p2) X.env] := by rfl)
    (ha : ∀ v, assign (.Subscript (.Name x p1) e2 p2) X.env v = (do
      let ov ← holding [v] (eval (.Name x p1) X.env)
      let iv ← holding [v, ov] (eval e2 X.env)
      standAt p2
      holding [v, ov, iv] (setItem ov iv v)
      release [v, ov, iv] []) := by intro _; rfl) : DS X w fr L O O (.Assign [.Subscript (.Name x p1) e2 p2] e pos) (sSetI i fi f D.flat) :=
  PS.weak (ps_asg he (pg_sub (pe_var hN hv hd hcd) hk set_list ha) hs hw h1) fun Dn σ H ⟨Hf, S, B, P, env, st, po⟩ => by
    unfold sSetI at po
    refine eval_all (Rel := Den X.K) st po fun d v H1 _ st1 dv po1 => ?_
    by_cases hf : D.flat d = true
    · rw [if_pos hf] at po1
      obtain ⟨h0, vs, ds, h1, h2, h3, h4⟩ := st1.own i hi
      refine ⟨_, h1, eval_all (Rel := Den X.K) st1 po1 fun k u H2 e2 st2 du po2 => ?_⟩
      rw [h2] at po2
      cases k <;> first | exact po2.elim | skip
      rename_i k
      rw [den_int du]
      obtain ⟨g0, us, es, g1, g2, g3, g4⟩ := st2.own i hi
      rw [h2] at g2
      cases g2
      dsimp only at po2
      split at po2
      · rename_i n hn
        exact ⟨P i, us, k, n, rfl, rfl, g3, by rw [g4.len]; exact hn, po2 _ _ _ (st2.upd hi (g4.set (flat_any dv hf) n))⟩
      · exact po2.elim
    · rw [if_neg hf] at po1
      exact po1.elim
def sTgt (tg : Tgt) (f : EE) : Sl → Out := fun env => toOut env ((f env).bind fun d => (parts tg d).map fun ps => .nxt (setAll tg.slots ps env))
theorem ds_tgt {k : Nat} {es : List Expr} (tgt : Tgt) (hR : ∀ j ∈ R, j ∉ O) (hT : ∀ j ∈ tgt.slots, j ∉ O) (he : DE X w R e f) (hg : PG X (.Tuple es k pos') (gT X.K tgt)) (hs : swapsWithSole [.Tuple es k pos'] e pos.line X.env = pure false := by rfl) (hw : swappedStores [.Tuple es k pos'] e X.env = pure none := by rfl)
    (h1 : (assignEach [.Tuple es k pos'] X.env).map (·.2) = [assign (.Tuple es k pos') X.env] := by rfl) : DS X w fr L O O (.Assign [.Tuple es k pos'] e pos) (sTgt tgt f) :=
  PS.weak (ps_asg he hg hs hw h1) fun Dn σ H ⟨Hf, S, B, P, env, st, po⟩ => by
    unfold sTgt at po
    refine eval_at (Rel := Den X.K) hR st po fun d v H1 st1 dv po1 => ?_
    cases hp : parts tgt d with
    | ok ps =>
      rw [hp] at po1
      obtain ⟨us, dus, hset⟩ := gT_ok (K := X.K) hp dv
      exact hset _ _ (po1 _ _ _ (st1.setAll hT dus))
    | err c => exact absurd hp parts_noerr
    | stuck => rw [hp] at po1; exact po1.elim

/-! ### for -/
def Out.loop (o : Out) (k : Sl → Out) : Out := match o with
  | .nxt e => k e
  | .cnt e => k e
  | .brk e => .nxt e
  | .ret d => .ret d
  | .err c e => .err c e
  | .stuck => .stuck
def forGo (tg : Tgt) (s : Sl → Out) : List D → Sl → Out
  | [], env => .nxt env
  | d :: ds, env => match parts tg d with
    | .ok ps => (s (setAll tg.slots ps env)).loop (forGo tg s ds)
    | _ => .stuck
def Res.walk (r : Res (List D)) (env : Sl) (k : List D → Sl → Out) : Out := match r with
  | .ok ds => k ds env
  | .err c => .err c env
  | .stuck => .stuck
def sFor (items : EL) (tg : Tgt) (s : Sl → Out) : Sl → Out := fun env => (items env).walk env (forGo tg s)
theorem ds_for (tgt : Tgt) (hR : ∀ j ∈ Ri, j ∉ O) (hT : ∀ j ∈ tgt.slots, j ∉ O) (hp : PassesOwn (model X.prog X.w) X.A X.env X.xe) (hc : X.calm = true) (hi : DI X w Ri tg iter items) (hg : PG X tg (gT X.K tgt)) (hb : DSs X w fr O O O body sf)
    (hs : ∀ x, foldedSetIterable iter X.env x = pure x := by intro _; rfl) : DS X w fr L O O (.For tg iter body [] pos) (sFor items tgt sf) :=
  PS.weak (ps_for hp hc hi hg hb hs) fun Dn σ H ⟨Hf, S, B, P, env, st, po⟩ => by
    refine ⟨S ++ O.map P, env, st.subT, st.rd hR, ?_⟩
    unfold sFor Res.walk at po
    cases q : items env with
    | err c => rw [q] at po; exact fun H1 e => po P σ H1 (st.grow e).bare
    | stuck => rw [q] at po; exact po
    | ok ds =>
      rw [q] at po
      intro J H1 e1 wk
      have st1 := st.grow e1
      obtain ⟨B', hB'⟩ : ∃ b, b = hid (S ++ O.map P) H1 := ⟨_, rfl⟩
      rw [← hB'] at wk
      have exB : Ex B B' := by rw [hB']; exact st1.bas
      have st1' : StOk X.K Hf S B' O P env σ H1 := ⟨st1.len, st1.exf, st1.sub, by rw [hB']; exact Evl.Ex.refl _, st1.inj, st1.own, st1.oth⟩
      let W : Nat → L2.St → Hp → Prop := fun i σ' H' => i ≤ ds.length ∧ ∃ P' env', StOk X.K Hf S B' O P' env' σ' H' ∧ PostS X.K w Hf S B fr L O Dn (forGo tgt sf (ds.drop i) env')
      refine ⟨fun i m σ' H' => m = ds.length - i ∧ W i σ' H', ⟨ds.length, by simp, Nat.zero_le _, P, env, st1', by rw [List.drop_zero]; exact po⟩, ?_⟩
      rintro i m σ' H' ⟨rfl, hi, P', env', st', po'⟩
      by_cases hlt : i < ds.length
      · refine .inr ?_
        obtain ⟨d, hd⟩ : ∃ d, ds[i]? = some d := ⟨ds[i], by simp [hlt]⟩
        obtain ⟨hgo, hyld⟩ := (wk i H' (st'.bas.trans hid_le)).2 d hd
        refine ⟨hgo, W (i + 1), fun σ2 H2 q => ⟨ds.length - (i + 1), by omega, rfl, q⟩, fun v H'' hy => ?_⟩
        obtain ⟨e3, hden⟩ := hyld v H'' hy
        have dv := hden _ st'.subT st'.bas
        have hdrop : ds.drop i = d :: ds.drop (i + 1) := by
          obtain ⟨hl, he⟩ := List.getElem?_eq_some_iff.mp hd
          rw [← he]
          exact List.drop_eq_getElem_cons hl
        rw [hdrop] at po'
        unfold forGo Out.loop at po'
        cases hpt : parts tgt d with
        | stuck => rw [hpt] at po'; exact po'.elim
        | err c => exact absurd hpt parts_noerr
        | ok ps =>
          rw [hpt] at po'
          dsimp only at po'
          obtain ⟨us, dus, hset⟩ := gT_ok (K := X.K) hpt dv
          refine hset _ _ ⟨Hf, S, B', P', setAll tgt.slots ps env', (st'.grow e3).setAll hT dus, ?_⟩
          cases hs : sf (setAll tgt.slots ps env') with
          | nxt e =>
            rw [hs] at po'
            exact fun P2 σ2 H2 st2 => ⟨hlt, P2, e, st2, po'⟩
          | cnt e =>
            rw [hs] at po'
            exact fun P2 σ2 H2 st2 => ⟨hlt, P2, e, st2, po'⟩
          | brk e =>
            rw [hs] at po'
            exact fun P2 σ2 H2 st2 => po' P2 σ2 H2 (st2.rebase exB)
          | ret d => rw [hs] at po'; exact po'
          | err c e => rw [hs] at po'; exact fun P2 σ2 H2 st2 => po' P2 σ2 H2 (st2.rebase exB)
          | stuck => rw [hs] at po'; exact po'
      · have e : i = ds.length := by omega
        refine .inl ⟨(wk i H' (st'.bas.trans hid_le)).1 (by omega), ?_⟩
        rw [e, List.drop_length] at po'
        exact po' P' σ' H' (st'.rebase exB)
end

/-! ### a def -/
def outRes : Out → Res D
  | .nxt _ => .ok .non
  | .ret d => .ok d
  | .err c _ => .err c
  | _ => .stuck
/-- what a def hands back, by its body's data -/
def fnSem (n : Nat) (s : Sl → Out) : List D → Res D := fun ds => outRes (s (ds.map some ++ List.replicate (n - ds.length) none))
/-- the same of a def that hands back a list of its own -/
def outResL : Out → Res D
  | .ret d => .ok d
  | .err c _ => .err c
  | _ => .stuck
def fnSemL (n : Nat) (s : Sl → Out) : List D → Res D := fun ds => outResL (s (ds.map some ++ List.replicate (n - ds.length) none))
/-- a def's wish about exceptions -/
def wE (mg : Str → Option Value) (E : XK) : Wi := fun c _ H => ∀ u, mg c = some u → E u none H
theorem takesE {X : Cx} {mg : Str → Option Value} {E : XK} (h : Takes X (fun cls d _ H => E cls d H)) : Takes X (wx mg (wE mg E)) := h.imp fun c d σ H ⟨n, hn, hd, hw⟩ => by
  subst hd
  exact hw c hn
theorem takes_w0 {X : Cx} {mg : Str → Option Value} : Takes X (wx mg w0) := takes0.imp fun _ _ _ _ ⟨_, _, _, z⟩ => z
section
variable {P : Program} {w : World} {K : PySem.W.Frag} {mg : Str → Option Value} {base : Heap} {n : Nat}
theorem start_get {K : PySem.W.Frag} {H : Hp} {vs : List V} {ds : List D} (r : DenL K H vs ds) (m i : Nat) (d : D) (h : (ds.map some ++ List.replicate (m - ds.length) none)[i]? = some (some d)) : ∃ v, (vs.map some ++ List.replicate (m - vs.length) none)[i]? = some (some v) ∧ Den K H v d := by
  have hl := r.len
  by_cases hi : i < ds.length
  · rw [List.getElem?_append_left (by simpa using hi), List.getElem?_map] at h
    cases q : ds[i]? with
    | none => rw [q] at h; cases h
    | some c =>
      rw [q] at h
      cases h
      obtain ⟨v, hv, dv⟩ := r.get q
      exact ⟨v, by rw [List.getElem?_append_left (by simpa [hl] using hi), List.getElem?_map, hv]; rfl, dv⟩
  · rw [List.getElem?_append_right (by simpa using hi), List.getElem?_replicate] at h
    split at h <;> cases h
theorem fn_ok {x qual : Str} {st : Stmt} {f : Addr} {fd : FuncData} {N ps : List Str} {k : Nat} {O' : List Nat} {sf : Sl → Out} (F : Fun K x qual st f fd) (Sc : FnScope N ps (defScope st))
    (body : ∀ (cdv : Value) (A : Around) (outer : List Env) (s : Shared) (H : Hp) (E : XK), Room k (A.deeper (envOfC qual (defScope st) s.heap.objs.size f cdv)) →
      N.Nodup → Takes (cxOf (L2.CX P w) P w K mg base N qual (defScope st) f cdv A outer s H E) (wx mg (wE mg E)) → PassesOwn (model P w) (cxOf (L2.CX P w) P w K mg base N qual (defScope st) f cdv A outer s H E).A (cxOf (L2.CX P w) P w K mg base N qual (defScope st) f cdv A outer s H E).env (cxOf (L2.CX P w) P w K mg base N qual (defScope st) f cdv A outer s H E).xe →
      DSs (cxOf (L2.CX P w) P w K mg base N qual (defScope st) f cdv A outer s H E) (wE mg E) false [] [] O' (defBody st) sf) :
    FnOk P w K mg base (L2.CX P w) (k + 1) f fd ps (SpF K mg ps.length false (fnSem N.length sf)) := by
  refine F.okX Sc (fun vs H Q E h => h.1) fun cdv A outer s H vs Q E hr h => ⟨_, body cdv A outer s H E hr Sc.nd (takesE (takes_of rfl rfl rfl rfl)) (passes_of rfl), ?_⟩
  obtain ⟨hl, S, ds, sub, dv, po⟩ := h
  refine ⟨H, S, hid S H, fun _ => 0, ds.map some ++ List.replicate (N.length - ds.length) none, ⟨?_, Evl.Ex.refl _, sub, ?_, (fun _ m => nomatch m), (fun _ m => nomatch m), fun i _ d hd => ?_⟩, ?_⟩
  · show _ = (start N vs).length
    unfold L2.start
    simp [dv.len]
  · show Ex (hid S H) (hid (S ++ []) H)
    rw [List.append_nil]
    exact Evl.Ex.refl _
  · show ∃ v, (start N vs)[i]? = some (some v) ∧ Den K (hid (S ++ []) H) v d
    rw [List.append_nil]
    exact start_get dv N.length i d hd
  · unfold fnSem at po
    generalize sf (ds.map some ++ List.replicate (N.length - ds.length) none) = o at po
    cases o with
    | nxt e => exact fun P' σ' H' st => po .non H' st.exf .non
    | ret d => exact po
    | err c e => exact fun P' σ' H' st u hu => po H' u st.exf hu
    | brk e => exact po.elim
    | cnt e => exact po.elim
    | stuck => exact po.elim
theorem fn_okL {x qual : Str} {st : Stmt} {f : Addr} {fd : FuncData} {N ps : List Str} {k : Nat} {O' : List Nat} {sf : Sl → Out} (F : Fun K x qual st f fd) (Sc : FnScope N ps (defScope st))
    (body : ∀ (cdv : Value) (A : Around) (outer : List Env) (s : Shared) (H : Hp) (E : XK), Room k (A.deeper (envOfC qual (defScope st) s.heap.objs.size f cdv)) →
      N.Nodup → Takes (cxOf (L2.CX P w) P w K mg base N qual (defScope st) f cdv A outer s H E) (wx mg (wE mg E)) → PassesOwn (model P w) (cxOf (L2.CX P w) P w K mg base N qual (defScope st) f cdv A outer s H E).A (cxOf (L2.CX P w) P w K mg base N qual (defScope st) f cdv A outer s H E).env (cxOf (L2.CX P w) P w K mg base N qual (defScope st) f cdv A outer s H E).xe →
      DSs (cxOf (L2.CX P w) P w K mg base N qual (defScope st) f cdv A outer s H E) (wE mg E) true [] [] O' (defBody st) sf) :
    FnOk P w K mg base (L2.CX P w) (k + 1) f fd ps (SpF K mg ps.length true (fnSemL N.length sf)) := by
  refine F.okX Sc (fun vs H Q E h => h.1) fun cdv A outer s H vs Q E hr h => ⟨_, body cdv A outer s H E hr Sc.nd (takesE (takes_of rfl rfl rfl rfl)) (passes_of rfl), ?_⟩
  obtain ⟨hl, S, ds, sub, dv, po⟩ := h
  refine ⟨H, S, hid S H, fun _ => 0, ds.map some ++ List.replicate (N.length - ds.length) none, ⟨?_, Evl.Ex.refl _, sub, ?_, (fun _ m => nomatch m), (fun _ m => nomatch m), fun i _ d hd => ?_⟩, ?_⟩
  · show _ = (start N vs).length
    unfold L2.start
    simp [dv.len]
  · show Ex (hid S H) (hid (S ++ []) H)
    rw [List.append_nil]
    exact Evl.Ex.refl _
  · show ∃ v, (start N vs)[i]? = some (some v) ∧ Den K (hid (S ++ []) H) v d
    rw [List.append_nil]
    exact start_get dv N.length i d hd
  · unfold fnSemL at po
    generalize sf (ds.map some ++ List.replicate (N.length - ds.length) none) = o at po
    cases o with
    | nxt e => exact po.elim
    | ret d => exact po
    | err c e => exact fun P' σ' H' st u hu => po H' u st.exf hu
    | brk e => exact po.elim
    | cnt e => exact po.elim
    | stuck => exact po.elim
theorem callee_of {x : Str} {k n : Nat} {fr : Bool} {F : List D → Res D} {f : Addr} {fd : FuncData} {ps : List Str} (G : FnOk P w K mg base (L2.CX P w) k f fd ps (SpF K mg n fr F)) (hm : mg x = some (.ref f)) (hk : PySem.W.keepIn K (.ref f) = true) (hb : Binds K fd ps []) : Callee P w K mg base x k n fr F := ⟨f, fd, ps, G, hm, hk, hb⟩
end
end Dx
set_option Elab.async false
set_option linter.all false
set_option maxRecDepth 100000
set_option maxHeartbeats 4000000
/-! the data functions' equations, for simp -/
namespace Dx
open PySem L2
section
variable {i j : Nat} {a b d c : D} {f g h f1 f2 f3 : EE} {t u : EB} {l m : EL} {env e : Sl} {s s1 s2 : Sl → Out} {ds es : List D} {x y : Int} {k : Bool} {z : Str}
@[simp] theorem eVar_ap (h : env[i]? = some (some d)) : eVar i env = .ok d := by unfold eVar; rw [h]
@[simp] theorem eC_ap : eC d env = .ok d := rfl
@[simp] theorem eBin_ap {G : D → D → Res D} : eBin G f1 f2 env = (f1 env).bind fun x => (f2 env).bind fun y => G x y := rfl
@[simp] theorem eUn_ap {G : D → Res D} : eUn G f env = (f env).bind G := rfl
@[simp] theorem eTest_ap : eTest f env = (f env).bind D.isBl := rfl
@[simp] theorem eTruth_ap : eTruth f env = (f env).bind D.truth := rfl
@[simp] theorem eNotB_ap : eNotB t env = (t env).map (!·) := rfl
def andB (r : Res Bool) (q : Unit → Res Bool) : Res Bool := r.bind fun b => if b = true then q () else .ok false
def orB (r : Res Bool) (q : Unit → Res Bool) : Res Bool := r.bind fun b => if b = true then .ok true else q ()
@[simp] theorem eAndB_ap : eAndB t u env = andB (t env) fun _ => u env := rfl
@[simp] theorem eOrB_ap : eOrB t u env = orB (t env) fun _ => u env := rfl
@[simp] theorem andB_t {q : Unit → Res Bool} : andB (.ok true) q = q () := rfl
@[simp] theorem andB_f {q : Unit → Res Bool} : andB (.ok false) q = .ok false := rfl
@[simp] theorem orB_t {q : Unit → Res Bool} : orB (.ok true) q = .ok true := rfl
@[simp] theorem orB_f {q : Unit → Res Bool} : orB (.ok false) q = q () := rfl
theorem andB_ok {p q : Bool} : andB (.ok p) (fun _ => .ok q) = .ok (p && q) := by cases p <;> rfl
theorem orB_ok {p q : Bool} : orB (.ok p) (fun _ => .ok q) = .ok (p || q) := by cases p <;> rfl
def andV (r : Res D) (q : Unit → Res D) : Res D := r.bind fun d => (D.isBl d).bind fun b => if b = true then q () else .ok (.bl false)
def orV (r : Res D) (q : Unit → Res D) : Res D := r.bind fun d => (D.isBl d).bind fun b => if b = true then .ok (.bl true) else q ()
@[simp] theorem eAndV_ap : eAndV f g env = andV (f env) fun _ => g env := rfl
@[simp] theorem eOrV_ap : eOrV f g env = orV (f env) fun _ => g env := rfl
@[simp] theorem andV_t {q : Unit → Res D} : andV (.ok (.bl true)) q = q () := rfl
@[simp] theorem andV_f {q : Unit → Res D} : andV (.ok (.bl false)) q = .ok (.bl false) := rfl
@[simp] theorem orV_t {q : Unit → Res D} : orV (.ok (.bl true)) q = .ok (.bl true) := rfl
@[simp] theorem orV_f {q : Unit → Res D} : orV (.ok (.bl false)) q = q () := rfl
theorem andV_ok {p q : Bool} : andV (.ok (.bl p)) (fun _ => .ok (.bl q)) = .ok (.bl (p && q)) := by cases p <;> rfl
theorem orV_ok {p q : Bool} : orV (.ok (.bl p)) (fun _ => .ok (.bl q)) = .ok (.bl (p || q)) := by cases p <;> rfl
def ifR (r : Res Bool) (p q : Unit → Res D) : Res D := r.bind fun b => if b = true then p () else q ()
@[simp] theorem eIf_ap : eIf t f g env = ifR (t env) (fun _ => f env) (fun _ => g env) := rfl
@[simp] theorem ifR_t {p q : Unit → Res D} : ifR (.ok true) p q = p () := rfl
@[simp] theorem ifR_f {p q : Unit → Res D} : ifR (.ok false) p q = q () := rfl
def chainR (G : D → D → Res D) (r : Res D) (y : D) (q : Unit → Res D) : Res D := r.bind fun z => (D.isBl z).bind fun b => if b = true then (q ()).bind fun u => G y u else .ok (.bl false)
@[simp] theorem eChain_ap {G G' : D → D → Res D} : eChain G G' f1 f2 f3 env = (f1 env).bind fun x => (f2 env).bind fun y => chainR G' (G x y) y fun _ => f3 env := rfl
@[simp] theorem chainR_t {G : D → D → Res D} {q : Unit → Res D} : chainR G (.ok (.bl true)) a q = (q ()).bind fun u => G a u := rfl
@[simp] theorem chainR_f {G : D → D → Res D} {q : Unit → Res D} : chainR G (.ok (.bl false)) a q = .ok (.bl false) := rfl
@[simp] theorem eNil_ap : eNil env = .ok [] := rfl
@[simp] theorem eCons_ap : eCons f l env = (f env).bind fun d => (l env).map (d :: ·) := rfl
@[simp] theorem eTup_ap : eTup l env = (l env).map .tup := rfl
@[simp] theorem eL_ap : eL l env = (l env).map .lst := rfl
@[simp] theorem eCall_ap {F : List D → Res D} : eCall l F env = (l env).bind F := rfl
@[simp] theorem eCallL_ap {F : List D → Res (List D)} : eCallL l F env = (l env).bind F := rfl
@[simp] theorem eItems_ap : eItems f env = (f env).bind D.items := rfl
@[simp] theorem eRev_ap : eRev f env = (f env).bind D.rev := rfl
@[simp] theorem eYes_ap : eYes env = .ok true := rfl
def partI : D → Res (Option Int)
  | .int i => .ok (some i)
  | _ => .stuck
@[simp] theorem partI_int : partI (.int x) = .ok (some x) := rfl
@[simp] theorem ePart_ap : ePart f env = (f env).bind partI := by
  unfold ePart
  congr 1
@[simp] theorem eNoPart_ap : eNoPart env = .ok none := rfl
@[simp] theorem eSl_ap {lo hi : Sl → Res (Option Int)} : eSl f lo hi env = (f env).bind fun d => (lo env).bind fun p => (hi env).bind fun q => D.sl d p q := rfl
@[simp] theorem eSlL_ap {lo hi : Sl → Res (Option Int)} : eSlL f lo hi env = (f env).bind fun d => (lo env).bind fun p => (hi env).bind fun q => D.slL d p q := rfl
@[simp] theorem lim_lt {α : Type} {n : Nat} {r : Res α} (h : n ≤ 100000) : lim n r = r := lim_ok h
theorem eLc_ap {tg : Tgt} {own : List Nat} : eLc l tg own t f env = (l env).bind fun ds => lim ds.length (lcGo tg t f (wipeE env own) ds) := rfl
@[simp] theorem lcGo_nil {tg : Tgt} : lcGo tg t f env [] = .ok [] := rfl
def consR (r : Res Bool) (p : Unit → Res D) (q : Res (List D)) : Res (List D) := (noErr r).bind fun b => if b = true then (noErr (p ())).bind fun y => q.map (y :: ·) else q
theorem lcGo_one : lcGo (.one i) t f env (d :: ds) = consR (t (env.set i (some d))) (fun _ => f (env.set i (some d))) (lcGo (.one i) t f env ds) := rfl
theorem lcGo_two : lcGo (.two i j) t f env (.tup [a, b] :: ds) = consR (t ((env.set i (some a)).set j (some b))) (fun _ => f ((env.set i (some a)).set j (some b))) (lcGo (.two i j) t f env ds) := rfl
@[simp] theorem consR_t {q : Res (List D)} : consR (.ok true) (fun _ => .ok d) q = q.map (d :: ·) := rfl
@[simp] theorem consR_f {p : Unit → Res D} {q : Res (List D)} : consR (.ok false) p q = q := rfl
/-! values -/
@[simp] theorem isBl_bl : D.isBl (.bl k) = .ok k := rfl
@[simp] theorem truth_bl : D.truth (.bl k) = .ok k := rfl
@[simp] theorem truth_int : D.truth (.int x) = .ok (x != 0) := rfl
@[simp] theorem truth_non : D.truth .non = .ok false := rfl
@[simp] theorem nt_bl : D.nt (.bl k) = .ok (.bl !k) := rfl
@[simp] theorem add_int : D.add (.int x) (.int y) = .ok (.int (x + y)) := rfl
@[simp] theorem add_str {z' : Str} : D.add (.str z) (.str z') = lim (z.length + z'.length) (.ok (.str (z ++ z'))) := rfl
@[simp] theorem add_lst : D.add (.lst ds) (.lst es) = lim (ds.length + es.length) (.ok (.lst (ds ++ es))) := rfl
@[simp] theorem add_tup : D.add (.tup (d :: ds)) (.tup es) = lim ((d :: ds).length + es.length) (.ok (.tup (d :: ds ++ es))) := rfl
@[simp] theorem sub_int : D.sub (.int x) (.int y) = .ok (.int (x - y)) := rfl
@[simp] theorem neg_int : D.neg (.int x) = .ok (.int (-x)) := rfl
@[simp] theorem iadd_int : D.iadd (.int x) (.int y) = .ok (.int (x + y)) := rfl
@[simp] theorem iadd_str {z' : Str} : D.iadd (.str z) (.str z') = lim (z.length + z'.length) (.ok (.str (z ++ z'))) := rfl
@[simp] theorem mul_l (h : D.fits x = true) : D.mul (.int x) (.int y) = .ok (.int (x * y)) := by simp [D.mul, h]
@[simp] theorem mul_r (h : D.fits y = true) : D.mul (.int x) (.int y) = .ok (.int (x * y)) := by simp [D.mul, h]
theorem fits_of (h1 : -(2 ^ 64) < x) (h2 : x < 2 ^ 64) : D.fits x = true := by simp [D.fits]; omega
@[simp] theorem fdiv_int (h1 : 0 < y) (h2 : y < 1073741824) : D.fdiv (.int x) (.int y) = .ok (.int (x / y)) := by simp [D.fdiv, h1, h2]
@[simp] theorem mod_int (h1 : 0 < y) : D.mod (.int x) (.int y) = .ok (.int (x % y)) := by simp [D.mod, h1]
@[simp] theorem lt_int : D.lt (.int x) (.int y) = .ok (.bl (decide (x < y))) := rfl
@[simp] theorem le_int : D.le (.int x) (.int y) = .ok (.bl (decide (x ≤ y))) := rfl
@[simp] theorem gt_int : D.gt (.int x) (.int y) = .ok (.bl (decide (y < x))) := rfl
@[simp] theorem ge_int : D.ge (.int x) (.int y) = .ok (.bl (decide (y ≤ x))) := rfl
@[simp] theorem len_lst : D.len [.lst ds] = .ok (.int ds.length) := rfl
@[simp] theorem len_tup : D.len [.tup ds] = .ok (.int ds.length) := rfl
@[simp] theorem len_fz : D.len [.fz ds] = .ok (.int ds.length) := rfl
@[simp] theorem len_str : D.len [.str z] = lim z.length (.ok (.int z.length)) := rfl
@[simp] theorem listOf_lst : D.listOf [.lst ds] = .ok ds := rfl
@[simp] theorem listOf_tup : D.listOf [.tup ds] = .ok ds := rfl
@[simp] theorem listOf_fz : D.listOf [.fz ds] = .ok ds := rfl
@[simp] theorem tupOf_lst : D.tupOf [.lst ds] = .ok (.tup ds) := rfl
@[simp] theorem tupOf_tup : D.tupOf [.tup ds] = .ok (.tup ds) := rfl
@[simp] theorem int1_int : D.int1 [.int x] = .ok (.int x) := rfl
@[simp] theorem int1_bl : D.int1 [.bl k] = .ok (.int (if k then 1 else 0)) := rfl
@[simp] theorem abs1_int : D.abs1 [.int x] = .ok (.int (if x < 0 then -x else x)) := rfl
@[simp] theorem min2_int : D.min2 [.int x, .int y] = .ok (.int (if y < x then y else x)) := rfl
@[simp] theorem max2_int : D.max2 [.int x, .int y] = .ok (.int (if y > x then y else x)) := rfl
@[simp] theorem items_lst : D.items (.lst ds) = .ok ds := rfl
@[simp] theorem items_tup : D.items (.tup ds) = .ok ds := rfl
@[simp] theorem items_fz : D.items (.fz ds) = .ok ds := rfl
@[simp] theorem items_str : D.items (.str z) = .ok (z.cps.toList.map fun c => .str ⟨#[c]⟩) := rfl
@[simp] theorem rev_lst : D.rev (.lst ds) = .ok ds.reverse := rfl
@[simp] theorem rev_tup : D.rev (.tup ds) = .ok ds.reverse := rfl
@[simp] theorem zip2_lst : D.zip2 [.lst ds, .lst es] = .ok (zipD ds es) := rfl
@[simp] theorem zip2_tup : D.zip2 [.tup ds, .tup es] = .ok (zipD ds es) := rfl
theorem rng1_ok (h1 : -100000 ≤ x) (h2 : x ≤ 100000) : D.rng1 [.int x] = .ok ((List.range x.toNat).map fun (k : Nat) => .int k) := by simp [D.rng1, h1, h2]
theorem rng1_nat {n : Nat} (h : n ≤ 100000) : D.rng1 [.int n] = .ok ((List.range n).map fun (k : Nat) => .int k) := by rw [rng1_ok (by omega) (by omega)]; simp
@[simp] theorem unl_lst : unl (.lst ds) = .ok ds := rfl
@[simp] theorem parts_one : parts (.one i) d = .ok [d] := rfl
@[simp] theorem parts_two : parts (.two i j) (.tup [a, b]) = .ok [a, b] := rfl
@[simp] theorem flat_int : D.flat (.int x) = true := id rfl
@[simp] theorem flat_bl : D.flat (.bl k) = true := id rfl
@[simp] theorem flat_str : D.flat (.str z) = true := id rfl
@[simp] theorem flat_non : D.flat .non = true := id rfl
@[simp] theorem eq_int (i j : Int) : D.eq (.int i) (.int j) = .ok (.bl (i == j)) := by simp [D.eq, D.okq, D.okd, D.eqv, D.py, PyData.eqv]
@[simp] theorem ne_int (i j : Int) : D.ne (.int i) (.int j) = .ok (.bl (!(i == j))) := by simp [D.ne, D.okq, D.okd, D.eqv, D.py, PyData.eqv]
@[simp] theorem eq_str (i j : Str) : D.eq (.str i) (.str j) = .ok (.bl (i == j)) := by simp [D.eq, D.okq, D.eqv, D.py, PyData.eqv]
@[simp] theorem ne_str (i j : Str) : D.ne (.str i) (.str j) = .ok (.bl (!(i == j))) := by simp [D.ne, D.okq, D.eqv, D.py, PyData.eqv]
theorem eqv_self (h : D.okd 8 d = true) : D.eqv d d = true := PySem.SeqAt.eqv_refl _ (okd_lay 8 d h).1
theorem eq_self (h : D.okd 8 d = true) : D.eq d d = .ok (.bl true) := by
  unfold D.eq D.okq
  rw [h, eqv_self h]
  simp
theorem ne_self (h : D.okd 8 d = true) : D.ne d d = .ok (.bl false) := by
  unfold D.ne D.okq
  rw [h, eqv_self h]
  simp
@[simp] theorem isi_int_int : D.isi [.int x, .raw (.ty "int")] = .ok (.bl true) := rfl
@[simp] theorem isi_int_bool : D.isi [.int x, .raw (.ty "bool")] = .ok (.bl false) := rfl
@[simp] theorem isi_bl_int : D.isi [.bl k, .raw (.ty "int")] = .ok (.bl true) := rfl
@[simp] theorem isi_bl_bool : D.isi [.bl k, .raw (.ty "bool")] = .ok (.bl true) := rfl
@[simp] theorem isi_lst_list : D.isi [.lst ds, .raw (.ty "list")] = .ok (.bl true) := rfl
@[simp] theorem isi_tup_list : D.isi [.tup ds, .raw (.ty "list")] = .ok (.bl false) := rfl
@[simp] theorem isi_tup_tuple : D.isi [.tup ds, .raw (.ty "tuple")] = .ok (.bl true) := rfl
@[simp] theorem isi_lst_tuple : D.isi [.lst ds, .raw (.ty "tuple")] = .ok (.bl false) := rfl
@[simp] theorem isi_str_str : D.isi [.str z, .raw (.ty "str")] = .ok (.bl true) := rfl
/-! statements -/
@[simp] theorem toOut_ok {o : Out} : toOut env (.ok o) = o := rfl
@[simp] theorem sNext_ap : sNext env = .nxt env := rfl
@[simp] theorem andThen_nxt : (Out.nxt e).andThen s = s e := rfl
@[simp] theorem andThen_ret : (Out.ret d).andThen s = .ret d := rfl
@[simp] theorem andThen_brk : (Out.brk e).andThen s = .brk e := rfl
@[simp] theorem andThen_cnt : (Out.cnt e).andThen s = .cnt e := rfl
@[simp] theorem andThen_err : (Out.err z e).andThen s = .err z e := rfl
@[simp] theorem sSeq_ap : sSeq s1 s2 env = (s1 env).andThen s2 := rfl
@[simp] theorem sSet_ap : sSet i f env = toOut env ((f env).map fun d => .nxt (env.set i (some d))) := rfl
@[simp] theorem sSetF_ap (h : f env = .ok d) (h' : D.flat d = true) : sSetF i f env = .nxt (env.set i (some d)) := by unfold sSetF; rw [h, bind_ok, if_pos h']; rfl
@[simp] theorem sOwn_ap (hi : i < env.length) : sOwn i l env = toOut env ((l env).map fun ds => .nxt (env.set i (some (.lst ds)))) := by
  unfold sOwn
  simp only [hi, if_true]
  rw [map_bind]
@[simp] theorem sRet_ap : sRet f env = toOut env ((f env).map .ret) := rfl
@[simp] theorem sRetL_ap : sRetL l env = toOut env ((l env).map fun ds => .ret (.lst ds)) := rfl
@[simp] theorem sRetV_ap (h : env[i]? = some (some d)) : sRetV i env = .ret d := by unfold sRetV; rw [h]
@[simp] theorem sDrop_ap : sDrop f env = toOut env ((f env).map fun _ => .nxt env) := rfl
@[simp] theorem sIf_ap : sIf t s1 s2 env = (t env).branch env s1 s2 := rfl
@[simp] theorem branch_t : (Res.ok true).branch env s1 s2 = s1 env := rfl
@[simp] theorem branch_f : (Res.ok false).branch env s1 s2 = s2 env := rfl
theorem branch_ok : (Res.ok k).branch env s1 s2 = if k = true then s1 env else s2 env := rfl
@[simp] theorem sApp_ap (h : env[i]? = some (some (.lst ds))) (hl : ds.length < 100000) : sApp i f env = toOut env ((f env).map fun d => .nxt (env.set i (some (.lst (ds ++ [d]))))) := by
  unfold sApp
  rw [map_bind]
  congr 1
  congr 1
  funext d
  rw [h]
  exact lim_ok hl
@[simp] theorem sAppF_ap (h : env[i]? = some (some (.lst ds))) (hl : ds.length < 100000) (hf : f env = .ok d) (hd : D.flat d = true) : sAppF i f env = .nxt (env.set i (some (.lst (ds ++ [d])))) := by
  unfold sAppF
  rw [hf, bind_ok, if_pos hd, h]
  simp only [lim_ok (show ds.length + 1 ≤ 100000 from hl)]
  rfl
def augR (i : Nat) (env : Sl) (r : Res D) : Out := toOut env (r.bind fun r => if D.flat r = true then .ok (.nxt (env.set i (some r))) else .stuck)
@[simp] theorem sAug_ap {G : D → D → Res D} (h : env[i]? = some (some a)) : sAug i G f env = augR i env ((f env).bind fun c => G a c) := by
  unfold sAug augR
  rw [h]
  dsimp only
  cases f env <;> rfl
@[simp] theorem augR_ok (h : D.flat d = true) : augR i env (.ok d) = .nxt (env.set i (some d)) := by unfold augR; rw [bind_ok, if_pos h]; rfl
@[simp] theorem sLst_ap {G : List D → List D} (h : env[i]? = some (some (.lst ds))) : sLst G i env = .nxt (env.set i (some (.lst (G ds)))) := by unfold sLst; rw [h]
@[simp] theorem sTgt_ap {tg : Tgt} : sTgt tg f env = toOut env ((f env).bind fun d => (parts tg d).map fun ps => .nxt (setAll tg.slots ps env)) := rfl
@[simp] theorem sFor_ap {tg : Tgt} : sFor l tg s env = (l env).walk env (forGo tg s) := rfl
@[simp] theorem walk_ok {K : List D → Sl → Out} : (Res.ok ds).walk env K = K ds env := rfl
@[simp] theorem forGo_nil {tg : Tgt} : forGo tg s [] env = .nxt env := rfl
theorem forGo_one : forGo (.one i) s (d :: ds) env = (s (env.set i (some d))).loop (forGo (.one i) s ds) := rfl
theorem forGo_two : forGo (.two i j) s (.tup [a, b] :: ds) env = (s ((env.set i (some a)).set j (some b))).loop (forGo (.two i j) s ds) := rfl
@[simp] theorem loop_nxt {K : Sl → Out} : (Out.nxt e).loop K = K e := rfl
@[simp] theorem loop_cnt {K : Sl → Out} : (Out.cnt e).loop K = K e := rfl
@[simp] theorem loop_brk {K : Sl → Out} : (Out.brk e).loop K = .nxt e := rfl
@[simp] theorem loop_ret {K : Sl → Out} : (Out.ret d).loop K = .ret d := rfl
@[simp] theorem outRes_nxt : outRes (.nxt e) = .ok .non := rfl
@[simp] theorem outRes_ret : outRes (.ret d) = .ok d := rfl
@[simp] theorem outRes_err : outRes (.err z e) = .err z := rfl
@[simp] theorem outResL_ret : outResL (.ret d) = .ok d := rfl
@[simp] theorem outResL_err : outResL (.err z e) = .err z := rfl
theorem fnSem_ap {n : Nat} : fnSem n s ds = outRes (s (ds.map some ++ List.replicate (n - ds.length) none)) := rfl
theorem fnSemL_ap {n : Nat} : fnSemL n s ds = outResL (s (ds.map some ++ List.replicate (n - ds.length) none)) := rfl
end
/-! ### whole numbers as data -/
def dInts (ns : List Int) : List D := ns.map D.int
@[simp] theorem dInts_len (ns : List Int) : (dInts ns).length = ns.length := by simp [dInts]
@[simp] theorem dInts_nil : dInts [] = [] := rfl
@[simp] theorem dInts_cons (n : Int) (ns : List Int) : dInts (n :: ns) = .int n :: dInts ns := rfl
theorem dInts_append (ns ms : List Int) : dInts (ns ++ ms) = dInts ns ++ dInts ms := by simp [dInts]
theorem atI_dInts {ns : List Int} {k : Nat} (h : k < ns.length) : L2.atI (dInts ns) (k : Int) = some (.int (ns.getD k 0)) := by
  refine L2.atI_nat ?_
  simp [dInts, List.getElem?_map, List.getElem?_eq_getElem h, List.getD_eq_getElem?_getD]
theorem ix_fz {ns : List Int} {k : Nat} (h : k < ns.length) : D.ix (.fz (dInts ns)) (.int (k : Int)) = .ok (.int (ns.getD k 0)) := by
  unfold D.ix
  simp only [atI_dInts h]
theorem okdA_dInts (n : Nat) : ∀ ns : List Int, D.okdA n (dInts ns) = true
  | [] => rfl
  | m :: ns => by
    show (D.okd n (.int m) && D.okdA n (dInts ns)) = true
    rw [okdA_dInts n ns]
    cases n <;> rfl
theorem okd_dInts (ns : List Int) : D.okd 8 (.lst (dInts ns)) = true := okdA_dInts 7 ns
end Dx
set_option Elab.async false
set_option linter.all false
set_option maxRecDepth 100000
set_option maxHeartbeats 4000000
namespace My
open PySem PySem.Spec PyProof.Rows L2 Dx
open Evl (Ex)
def topS (i : Nat) : Stmt := PySem.Challenge.pw_tillbasket_k01_baskets_numbered.main.body.getD i (.Pass ⟨0, 0, 0, 0⟩)
section
variable {P : Program} {w : World} {K : PySem.W.Frag} {mg : Str → Option Value} {base : Heap}
abbrev s_l_cell_at : Stmt := topS 6
def n_l_cell_at : List Str := ["_law_script", "_law_k"]
theorem sc_l_cell_at : FnScope n_l_cell_at ["_law_script", "_law_k"] (defScope s_l_cell_at) := ⟨rfl, rfl, rfl, by decide +kernel, rfl, by decide +kernel, by decide +kernel⟩
def f_l_cell_at : Sl → Out :=
  sSeq (sIf (eTest (eBin D.lt (eVar 1) (eCall (eCons (eVar 0) (eNil)) D.len)))
  (sRet (eBin D.ix (eVar 0) (eVar 1)))
  (sNext))
  (sRet (eC (.int 0)))
def F_l_cell_at : List D → Res D := fnSem 2 f_l_cell_at
theorem ok_l_cell_at {f : Addr} {fd : FuncData} (F : Fun K "_law_cell_at" "_law_cell_at" s_l_cell_at f fd) (z_len : mg "len" = none) : FnOk P w K mg base (L2.CX P w) 1 f fd ["_law_script", "_law_k"] (SpF K mg 2 false F_l_cell_at) := by
  exact fn_ok (N := n_l_cell_at) F sc_l_cell_at (O' := []) fun cdv A outer s H E hr nd tk hp =>
    dss_cons (ds_if (dt_lt (de_var 1) (de_len z_len (da_cons (de_var 0) (da_nil))))
      (dss_one (ds_ret (de_ix (de_var 0) (de_var 1))))
      (dss_nil))
      (dss_one (ds_ret (de_int)))

abbrev s_l_counts : Stmt := topS 10
def n_l_counts : List Str := ["_law_basket", "_law_number_here", "_law_counts_here", "_law_most"]
theorem sc_l_counts : FnScope n_l_counts ["_law_basket", "_law_number_here"] (defScope s_l_counts) := ⟨rfl, rfl, rfl, by decide +kernel, rfl, by decide +kernel, by decide +kernel⟩
def f_l_counts : Sl → Out :=
  sSeq (sOwn 2 (eNil))
  (sSeq (sFor (eItems (eVar 0)) (.one 3)
  (sSeq (sApp 2 (eBin D.mod (eVar 1) (eBin D.add (eVar 3) (eC (.int 1)))))
  (sSet 1 (eBin D.fdiv (eVar 1) (eBin D.add (eVar 3) (eC (.int 1)))))))
  (sRet (eVar 2)))
def F_l_counts : List D → Res D := fnSem 4 f_l_counts
theorem ok_l_counts {f : Addr} {fd : FuncData} (F : Fun K "_law_counts" "_law_counts" s_l_counts f fd) : FnOk P w K mg base (L2.CX P w) 1 f fd ["_law_basket", "_law_number_here"] (SpF K mg 2 false F_l_counts) := by
  exact fn_ok (N := n_l_counts) F sc_l_counts (O' := []) fun cdv A outer s H E hr nd tk hp =>
    dss_cons (ds_own (i := 2) (by decide) (by decide) nd (dl_lst (da_nil)))
      (dss_cons (ds_for (.one 3) (by decide) (by decide) hp rfl (di_any (de_var 0)) (pg_one 3 nd)
      (dss_cons (ds_app (i := 2) (by decide) (by decide) (de_mod (de_var 1) (de_add (de_var 3) (de_int))))
      (dss_one (ds_set (i := 1) (by decide) (by decide) nd (de_fdiv (de_var 1) (de_add (de_var 3) (de_int)))))))
      (dss_one (ds_ret (de_var 2))))

abbrev s_l_whole : Stmt := topS 8
def n_l_whole : List Str := ["_law_found"]
theorem sc_l_whole : FnScope n_l_whole ["_law_found"] (defScope s_l_whole) := ⟨rfl, rfl, rfl, by decide +kernel, rfl, by decide +kernel, by decide +kernel⟩
def f_l_whole : Sl → Out :=
  sRet (eAndV (eCall (eCons (eVar 0) (eCons (eC (.raw (.ty "int"))) (eNil))) D.isi) (eUn D.nt (eCall (eCons (eVar 0) (eCons (eC (.raw (.ty "bool"))) (eNil))) D.isi)))
def F_l_whole : List D → Res D := fnSem 1 f_l_whole
theorem ok_l_whole {f : Addr} {fd : FuncData} (F : Fun K "_law_whole" "_law_whole" s_l_whole f fd) (z_bool : mg "bool" = none) (z_int : mg "int" = none) (z_isinstance : mg "isinstance" = none) : FnOk P w K mg base (L2.CX P w) 1 f fd ["_law_found"] (SpF K mg 1 false F_l_whole) := by
  exact fn_ok (N := n_l_whole) F sc_l_whole (O' := []) fun cdv A outer s H E hr nd tk hp =>
    dss_one (ds_ret (de_and (de_isi z_isinstance (da_cons (de_var 0) (da_cons (de_ty z_int) (da_nil)))) (de_one (de_not (de_isi z_isinstance (da_cons (de_var 0) (da_cons (de_ty z_bool) (da_nil))))))))

abbrev s_l_listed : Stmt := topS 9
def n_l_listed : List Str := ["_law_found", "_law_due", "_law_one"]
theorem sc_l_listed : FnScope n_l_listed ["_law_found", "_law_due"] (defScope s_l_listed) := ⟨rfl, rfl, rfl, by decide +kernel, rfl, by decide +kernel, by decide +kernel⟩
def f_l_listed : Sl → Out :=
  sSeq (sIf (eOrB (eNotB (eTruth (eCall (eCons (eVar 0) (eCons (eC (.raw (.ty "list"))) (eNil))) D.isi))) (eTest (eBin D.ne (eCall (eCons (eVar 0) (eNil)) D.len) (eCall (eCons (eVar 1) (eNil)) D.len))))
  (sRet (eC (.bl false)))
  (sNext))
  (sSeq (sFor (eItems (eVar 0)) (.one 2)
  (sIf (eNotB (eTruth (eCall (eCons (eVar 2) (eNil)) F_l_whole)))
  (sRet (eC (.bl false)))
  (sNext)))
  (sRet (eBin D.eq (eVar 0) (eVar 1))))
def F_l_listed : List D → Res D := fnSem 3 f_l_listed
theorem ok_l_listed {f : Addr} {fd : FuncData} (F : Fun K "_law_listed" "_law_listed" s_l_listed f fd) (c_l_whole : Callee P w K mg base "_law_whole" 1 1 false F_l_whole) (z_isinstance : mg "isinstance" = none) (z_len : mg "len" = none) (z_list : mg "list" = none) : FnOk P w K mg base (L2.CX P w) 2 f fd ["_law_found", "_law_due"] (SpF K mg 2 false F_l_listed) := by
  exact fn_ok (N := n_l_listed) F sc_l_listed (O' := []) fun cdv A outer s H E hr nd tk hp =>
    dss_cons (ds_if (dt_bool (dw_or (dt_not (dt_truth (de_isi z_isinstance (da_cons (de_var 0) (da_cons (de_ty z_list) (da_nil)))))) (dw_or1 (dt_ne hr (de_len z_len (da_cons (de_var 0) (da_nil))) (de_len z_len (da_cons (de_var 1) (da_nil)))))))
      (dss_one (ds_ret (de_bl)))
      (dss_nil))
      (dss_cons (ds_for (.one 2) (by decide) (by decide) hp rfl (di_any (de_var 0)) (pg_one 2 nd)
      (dss_one (ds_if (dt_not (dt_truth (de_call c_l_whole hr tk (da_cons (de_var 2) (da_nil)))))
      (dss_one (ds_ret (de_bl)))
      (dss_nil))))
      (dss_one (ds_ret (de_eq hr (de_var 0) (de_var 1)))))

abbrev s_l_many : Stmt := topS 11
def n_l_many : List Str := ["_law_basket", "_law_many_here", "_law_most"]
theorem sc_l_many : FnScope n_l_many ["_law_basket"] (defScope s_l_many) := ⟨rfl, rfl, rfl, by decide +kernel, rfl, by decide +kernel, by decide +kernel⟩
def f_l_many : Sl → Out :=
  sSeq (sSet 1 (eC (.int 1)))
  (sSeq (sFor (eItems (eVar 0)) (.one 2)
  (sSet 1 (eBin D.mul (eVar 1) (eBin D.add (eVar 2) (eC (.int 1))))))
  (sRet (eVar 1)))
def F_l_many : List D → Res D := fnSem 3 f_l_many
theorem ok_l_many {f : Addr} {fd : FuncData} (F : Fun K "_law_many" "_law_many" s_l_many f fd) : FnOk P w K mg base (L2.CX P w) 1 f fd ["_law_basket"] (SpF K mg 1 false F_l_many) := by
  exact fn_ok (N := n_l_many) F sc_l_many (O' := []) fun cdv A outer s H E hr nd tk hp =>
    dss_cons (ds_set (i := 1) (by decide) (by decide) nd (de_int))
      (dss_cons (ds_for (.one 2) (by decide) (by decide) hp rfl (di_any (de_var 0)) (pg_one 2 nd)
      (dss_one (ds_set (i := 1) (by decide) (by decide) nd (de_mul (de_var 1) (de_add (de_var 2) (de_int))))))
      (dss_one (ds_ret (de_var 1))))

abbrev s_l_number : Stmt := topS 7
def n_l_number : List Str := ["_law_script", "_law_k", "_law_base"]
theorem sc_l_number : FnScope n_l_number ["_law_script", "_law_k"] (defScope s_l_number) := ⟨rfl, rfl, rfl, by decide +kernel, rfl, by decide +kernel, by decide +kernel⟩
def f_l_number : Sl → Out :=
  sSeq (sIf (eTest (eBin D.eq (eCall (eCons (eVar 0) (eNil)) D.len) (eC (.int 0))))
  (sRet (eBin D.mul (eC (.int 5003)) (eVar 1)))
  (sNext))
  (sSeq (sSet 2 (eBin D.add (eBin D.add (eBin D.ix (eVar 0) (eBin D.mod (eVar 1) (eCall (eCons (eVar 0) (eNil)) D.len))) (eBin D.mul (eC (.int 7919)) (eBin D.fdiv (eVar 1) (eCall (eCons (eVar 0) (eNil)) D.len)))) (eBin D.mul (eC (.int 101)) (eVar 1))))
  (sRet (eBin D.mod (eBin D.mul (eVar 2) (eC (.int 48271))) (eC (.int 2147483647)))))
def F_l_number : List D → Res D := fnSem 3 f_l_number
theorem ok_l_number {f : Addr} {fd : FuncData} (F : Fun K "_law_number" "_law_number" s_l_number f fd) (z_len : mg "len" = none) : FnOk P w K mg base (L2.CX P w) 1 f fd ["_law_script", "_law_k"] (SpF K mg 2 false F_l_number) := by
  exact fn_ok (N := n_l_number) F sc_l_number (O' := []) fun cdv A outer s H E hr nd tk hp =>
    dss_cons (ds_if (dt_eq hr (de_len z_len (da_cons (de_var 0) (da_nil))) (de_int))
      (dss_one (ds_ret (de_mul (de_int) (de_var 1))))
      (dss_nil))
      (dss_cons (ds_set (i := 2) (by decide) (by decide) nd (de_add (de_add (de_ix (de_var 0) (de_mod (de_var 1) (de_len z_len (da_cons (de_var 0) (da_nil))))) (de_mul (de_int) (de_fdiv (de_var 1) (de_len z_len (da_cons (de_var 0) (da_nil)))))) (de_mul (de_int) (de_var 1))))
      (dss_one (ds_ret (de_mod (de_mul (de_var 2) (de_int)) (de_int)))))

abbrev s_l_step : Stmt := topS 12
def n_l_step : List Str := ["_law_basket", "_law_wants", "_law_step_here", "_law_number_here", "_law_most", "_law_want"]
theorem sc_l_step : FnScope n_l_step ["_law_basket", "_law_wants"] (defScope s_l_step) := ⟨rfl, rfl, rfl, by decide +kernel, rfl, by decide +kernel, by decide +kernel⟩
def f_l_step : Sl → Out :=
  sSeq (sSet 2 (eC (.int 1)))
  (sSeq (sSet 3 (eC (.int 0)))
  (sSeq (sFor (eCallL (eCons (eVar 0) (eCons (eVar 1) (eNil))) D.zip2) (.two 4 5)
  (sSeq (sSet 3 (eBin D.add (eVar 3) (eBin D.mul (eVar 5) (eVar 2))))
  (sSet 2 (eBin D.mul (eVar 2) (eBin D.add (eVar 4) (eC (.int 1)))))))
  (sRet (eVar 3))))
def F_l_step : List D → Res D := fnSem 6 f_l_step
theorem ok_l_step {f : Addr} {fd : FuncData} (F : Fun K "_law_step" "_law_step" s_l_step f fd) (z_zip : mg "zip" = none) : FnOk P w K mg base (L2.CX P w) 1 f fd ["_law_basket", "_law_wants"] (SpF K mg 2 false F_l_step) := by
  exact fn_ok (N := n_l_step) F sc_l_step (O' := []) fun cdv A outer s H E hr nd tk hp =>
    dss_cons (ds_set (i := 2) (by decide) (by decide) nd (de_int))
      (dss_cons (ds_set (i := 3) (by decide) (by decide) nd (de_int))
      (dss_cons (ds_for (.two 4 5) (by decide) (by decide) hp rfl (di_zip z_zip (da_cons (de_var 0) (da_cons (de_var 1) (da_nil)))) (pg_two 4 5 rfl nd)
      (dss_cons (ds_set (i := 3) (by decide) (by decide) nd (de_add (de_var 3) (de_mul (de_var 5) (de_var 2))))
      (dss_one (ds_set (i := 2) (by decide) (by decide) nd (de_mul (de_var 2) (de_add (de_var 4) (de_int)))))))
      (dss_one (ds_ret (de_var 3)))))

abbrev s_p_counts_of : Stmt := topS 4
def n_p_counts_of : List Str := ["basket", "number", "counts", "rest", "most"]
theorem sc_p_counts_of : FnScope n_p_counts_of ["basket", "number"] (defScope s_p_counts_of) := ⟨rfl, rfl, rfl, by decide +kernel, rfl, by decide +kernel, by decide +kernel⟩
def f_p_counts_of : Sl → Out :=
  sSeq (sOwn 2 (eNil))
  (sSeq (sSet 3 (eVar 1))
  (sSeq (sFor (eItems (eVar 0)) (.one 4)
  (sSeq (sApp 2 (eBin D.mod (eVar 3) (eBin D.add (eVar 4) (eC (.int 1)))))
  (sAug 3 D.fdiv (eBin D.add (eVar 4) (eC (.int 1))))))
  (sRetV 2)))
def F_p_counts_of : List D → Res D := fnSemL 5 f_p_counts_of
theorem ok_p_counts_of {f : Addr} {fd : FuncData} (F : Fun K "counts_of" "counts_of" s_p_counts_of f fd) : FnOk P w K mg base (L2.CX P w) 1 f fd ["basket", "number"] (SpF K mg 2 true F_p_counts_of) := by
  exact fn_okL (N := n_p_counts_of) F sc_p_counts_of (O' := []) fun cdv A outer s H E hr nd tk hp =>
    dss_cons (ds_own (i := 2) (by decide) (by decide) nd (dl_lst (da_nil)))
      (dss_cons (ds_set (i := 3) (by decide) (by decide) nd (de_var 1))
      (dss_cons (ds_for (.one 4) (by decide) (by decide) hp rfl (di_any (de_var 0)) (pg_one 4 nd)
      (dss_cons (ds_app (i := 2) (by decide) (by decide) (de_mod (de_var 3) (de_add (de_var 4) (de_int))))
      (dss_one (ds_aug (i := 3) iop_fdiv op2_fdiv (by decide) nd (de_add (de_var 4) (de_int))))))
      (dss_one (ds_retO (i := 2) (by decide)))))

abbrev s_p_number_of : Stmt := topS 3
def n_p_number_of : List Str := ["basket", "inner", "number", "step", "most", "count"]
theorem sc_p_number_of : FnScope n_p_number_of ["basket", "inner"] (defScope s_p_number_of) := ⟨rfl, rfl, rfl, by decide +kernel, rfl, by decide +kernel, by decide +kernel⟩
def f_p_number_of : Sl → Out :=
  sSeq (sSet 2 (eC (.int 0)))
  (sSeq (sSet 3 (eC (.int 1)))
  (sSeq (sFor (eCallL (eCons (eVar 0) (eCons (eVar 1) (eNil))) D.zip2) (.two 4 5)
  (sSeq (sAug 2 D.iadd (eBin D.mul (eVar 5) (eVar 3)))
  (sAug 3 D.mul (eBin D.add (eVar 4) (eC (.int 1))))))
  (sRet (eVar 2))))
def F_p_number_of : List D → Res D := fnSem 6 f_p_number_of
theorem ok_p_number_of {f : Addr} {fd : FuncData} (F : Fun K "number_of" "number_of" s_p_number_of f fd) (z_zip : mg "zip" = none) : FnOk P w K mg base (L2.CX P w) 1 f fd ["basket", "inner"] (SpF K mg 2 false F_p_number_of) := by
  exact fn_ok (N := n_p_number_of) F sc_p_number_of (O' := []) fun cdv A outer s H E hr nd tk hp =>
    dss_cons (ds_set (i := 2) (by decide) (by decide) nd (de_int))
      (dss_cons (ds_set (i := 3) (by decide) (by decide) nd (de_int))
      (dss_cons (ds_for (.two 4 5) (by decide) (by decide) hp rfl (di_zip z_zip (da_cons (de_var 0) (da_cons (de_var 1) (da_nil)))) (pg_two 4 5 rfl nd)
      (dss_cons (ds_aug (i := 2) iop2_add op2_iadd (by decide) nd (de_mul (de_var 5) (de_var 3)))
      (dss_one (ds_aug (i := 3) iop_mul op2_mul (by decide) nd (de_add (de_var 4) (de_int))))))
      (dss_one (ds_ret (de_var 2)))))

abbrev s_p_within : Stmt := topS 2
def n_p_within : List Str := ["basket", "many", "count"]
theorem sc_p_within : FnScope n_p_within ["basket"] (defScope s_p_within) := ⟨rfl, rfl, rfl, by decide +kernel, rfl, by decide +kernel, by decide +kernel⟩
def f_p_within : Sl → Out :=
  sSeq (sSet 1 (eC (.int 1)))
  (sSeq (sFor (eItems (eVar 0)) (.one 2)
  (sAug 1 D.mul (eBin D.add (eVar 2) (eC (.int 1)))))
  (sRet (eVar 1)))
def F_p_within : List D → Res D := fnSem 3 f_p_within
theorem ok_p_within {f : Addr} {fd : FuncData} (F : Fun K "within" "within" s_p_within f fd) : FnOk P w K mg base (L2.CX P w) 1 f fd ["basket"] (SpF K mg 1 false F_p_within) := by
  exact fn_ok (N := n_p_within) F sc_p_within (O' := []) fun cdv A outer s H E hr nd tk hp =>
    dss_cons (ds_set (i := 1) (by decide) (by decide) nd (de_int))
      (dss_cons (ds_for (.one 2) (by decide) (by decide) hp rfl (di_any (de_var 0)) (pg_one 2 nd)
      (dss_one (ds_aug (i := 1) iop_mul op2_mul (by decide) nd (de_add (de_var 2) (de_int)))))
      (dss_one (ds_ret (de_var 1))))

abbrev s_p_law : Stmt := topS 14
def n_p_law : List Str := ["_law_script", "_law_basket", "_law_k", "_law_handed", "_law_many_here", "_law_number_here", "_law_due", "_law_early", "_law_counts_here", "_law_back"]
theorem sc_p_law : FnScope n_p_law ["_law_script"] (defScope s_p_law) := ⟨rfl, rfl, rfl, by decide +kernel, rfl, by decide +kernel, by decide +kernel⟩
def f_p_law : Sl → Out :=
  sSeq (sOwn 1 (eLc (eCallL (eCons (eBin D.add (eC (.int 1)) (eBin D.mod (eCall (eCons (eVar 0) (eCons (eC (.int 0)) (eNil))) F_l_cell_at) (eC (.int 5)))) (eNil)) D.rng1) (.one 2) [2] (eYes) (eBin D.mod (eBin D.fdiv (eCall (eCons (eVar 0) (eCons (eVar 2) (eNil))) F_l_number) (eC (.int 7))) (eC (.int 10)))))
  (sSeq (sSet 3 (eL (eCallL (eCons (eVar 1) (eNil)) D.listOf)))
  (sSeq (sSet 4 (eCall (eCons (eVar 3) (eNil)) F_p_within))
  (sSeq (sIf (eOrB (eNotB (eTruth (eCall (eCons (eVar 4) (eNil)) F_l_whole))) (eOrB (eTest (eBin D.ne (eVar 4) (eCall (eCons (eVar 1) (eNil)) F_l_many))) (eTest (eBin D.ne (eC (.int 300)) (eC (.int 300))))))
  (sRet (eC (.bl false)))
  (sNext))
  (sSeq (sFor (eItems (eTup (eCons (eC (.int 0)) (eCons (eBin D.sub (eVar 4) (eC (.int 1))) (eCons (eBin D.mod (eCall (eCons (eVar 0) (eCons (eC (.int 1)) (eNil))) F_l_cell_at) (eVar 4)) (eCons (eBin D.mod (eCall (eCons (eVar 0) (eCons (eC (.int 9)) (eNil))) F_l_number) (eVar 4)) (eNil))))))) (.one 5)
  (sSeq (sSet 6 (eCall (eCons (eVar 1) (eCons (eVar 5) (eNil))) F_l_counts))
  (sSeq (sOwn 7 (eCallL (eCons (eVar 3) (eCons (eVar 5) (eNil))) (fun ds => (F_p_counts_of ds).bind unl)))
  (sSeq (sApp 7 (eUn D.neg (eC (.int 1))))
  (sSeq (sSet 8 (eL (eCallL (eCons (eVar 3) (eCons (eVar 5) (eNil))) (fun ds => (F_p_counts_of ds).bind unl))))
  (sSeq (sIf (eTest (eBin D.ne (eVar 7) (eBin D.add (eVar 8) (eL (eCons (eUn D.neg (eC (.int 1))) (eNil))))))
  (sRet (eC (.bl false)))
  (sNext))
  (sSeq (sIf (eNotB (eTruth (eCall (eCons (eVar 8) (eCons (eVar 6) (eNil))) F_l_listed)))
  (sRet (eC (.bl false)))
  (sNext))
  (sSeq (sSet 9 (eCall (eCons (eVar 3) (eCons (eVar 8) (eNil))) F_p_number_of))
  (sIf (eOrB (eNotB (eTruth (eCall (eCons (eVar 9) (eNil)) F_l_whole))) (eOrB (eTest (eBin D.ne (eVar 9) (eVar 5))) (eOrB (eTest (eBin D.ne (eVar 8) (eVar 6))) (eTest (eBin D.ne (eVar 3) (eVar 1))))))
  (sRet (eC (.bl false)))
  (sNext))))))))))
  (sRet (eBin D.eq (eCall (eCons (eVar 1) (eCons (eVar 1) (eNil))) F_l_step) (eBin D.sub (eVar 4) (eC (.int 1)))))))))
def F_p_law : List D → Res D := fnSem 10 f_p_law
theorem ok_p_law {f : Addr} {fd : FuncData} (F : Fun K "law" "law" s_p_law f fd) (c_l_cell_at : Callee P w K mg base "_law_cell_at" 1 2 false F_l_cell_at) (c_l_counts : Callee P w K mg base "_law_counts" 1 2 false F_l_counts) (c_l_listed : Callee P w K mg base "_law_listed" 2 2 false F_l_listed) (c_l_many : Callee P w K mg base "_law_many" 1 1 false F_l_many) (c_l_number : Callee P w K mg base "_law_number" 1 2 false F_l_number) (c_l_step : Callee P w K mg base "_law_step" 1 2 false F_l_step) (c_l_whole : Callee P w K mg base "_law_whole" 1 1 false F_l_whole) (c_p_counts_of : Callee P w K mg base "counts_of" 1 2 true F_p_counts_of) (c_p_number_of : Callee P w K mg base "number_of" 1 2 false F_p_number_of) (c_p_within : Callee P w K mg base "within" 1 1 false F_p_within) (z_list : mg "list" = none) (z_range : mg "range" = none) (g_p_MOST : ∃ t, mg "MOST" = some (Value.int 300 t)) : FnOk P w K mg base (L2.CX P w) 3 f fd ["_law_script"] (SpF K mg 1 false F_p_law) := by
  obtain ⟨t_p_MOST, g_p_MOST⟩ := g_p_MOST
  exact fn_ok (N := n_p_law) F sc_p_law (O' := []) fun cdv A outer s H E hr nd tk hp =>
    dss_cons (ds_post (O1 := [1]) (by decide) (ds_ownLc (i := 1) (.one 2) (by decide) (by decide) rfl nd (di_range1 z_range (da_cons (de_add (de_int) (de_mod (de_call c_l_cell_at hr tk (da_cons (de_var 0) (da_cons (de_int) (da_nil)))) (de_int))) (da_nil))) (blkOk_by (N := n_p_law) (sc := defScope s_p_law) (own := [("_law_k", 2)]) (by decide +kernel)) (by decide) (fun _ _ _ _ _ => (pg_one 2 nd)) (fun _ _ _ _ _ => bt_nil) (fun _ _ _ _ _ => de_mod (de_fdiv (de_call c_l_number hr takes_w0 (da_cons (de_var 0) (da_cons (de_var 2) (da_nil)))) (de_int)) (de_int))))
      (dss_cons (ds_set (i := 3) (by decide) (by decide) nd (de_ofL (dl_list z_list (da_cons (de_var 1) (da_nil)))))
      (dss_cons (ds_set (i := 4) (by decide) (by decide) nd (de_call c_p_within hr tk (da_cons (de_var 3) (da_nil))))
      (dss_cons (ds_if (dt_bool (dw_or (dt_not (dt_truth (de_call c_l_whole hr tk (da_cons (de_var 4) (da_nil))))) (dw_or (dt_ne hr (de_var 4) (de_call c_l_many hr tk (da_cons (de_var 1) (da_nil)))) (dw_or1 (dt_ne hr (de_glob (v := .int 300) g_p_MOST ⟨_, rfl⟩ (fun _ => .int 300)) (de_int))))))
      (dss_one (ds_ret (de_bl)))
      (dss_nil))
      (dss_cons (ds_for (.one 5) (by decide) (by decide) hp rfl (di_any (de_tup (da_cons (de_int) (da_cons (de_sub (de_var 4) (de_int)) (da_cons (de_mod (de_call c_l_cell_at hr tk (da_cons (de_var 0) (da_cons (de_int) (da_nil)))) (de_var 4)) (da_cons (de_mod (de_call c_l_number hr tk (da_cons (de_var 0) (da_cons (de_int) (da_nil)))) (de_var 4)) (da_nil))))))) (pg_one 5 nd)
      (dss_post (O1 := [7]) (by decide) (dss_cons (ds_set (i := 6) (by decide) (by decide) nd (de_call c_l_counts hr tk (da_cons (de_var 1) (da_cons (de_var 5) (da_nil)))))
      (dss_cons (ds_own (i := 7) (by decide) (by decide) nd (dl_call c_p_counts_of hr tk (da_cons (de_var 3) (da_cons (de_var 5) (da_nil)))))
      (dss_cons (ds_app (i := 7) (by decide) (by decide) (de_neg (de_int)))
      (dss_cons (ds_set (i := 8) (by decide) (by decide) nd (de_ofL (dl_call c_p_counts_of hr tk (da_cons (de_var 3) (da_cons (de_var 5) (da_nil))))))
      (dss_cons (ds_if (dt_ne hr (de_var 7) (de_add (de_var 8) (de_ofL (dl_lst (da_cons (de_neg (de_int)) (da_nil))))))
      (dss_one (ds_ret (de_bl)))
      (dss_nil))
      (dss_cons (ds_if (dt_not (dt_truth (de_call c_l_listed hr tk (da_cons (de_var 8) (da_cons (de_var 6) (da_nil))))))
      (dss_one (ds_ret (de_bl)))
      (dss_nil))
      (dss_cons (ds_set (i := 9) (by decide) (by decide) nd (de_call c_p_number_of hr tk (da_cons (de_var 3) (da_cons (de_var 8) (da_nil)))))
      (dss_one (ds_if (dt_bool (dw_or (dt_not (dt_truth (de_call c_l_whole hr tk (da_cons (de_var 9) (da_nil))))) (dw_or (dt_ne hr (de_var 9) (de_var 5)) (dw_or (dt_ne hr (de_var 8) (de_var 6)) (dw_or1 (dt_ne hr (de_var 3) (de_var 1)))))))
      (dss_one (ds_ret (de_bl)))
      (dss_nil))))))))))))
      (dss_one (ds_ret (de_eq hr (de_call c_l_step hr tk (da_cons (de_var 1) (da_cons (de_var 1) (da_nil)))) (de_sub (de_var 4) (de_int)))))))))
end
end My
set_option Elab.async false
set_option linter.all false
set_option maxRecDepth 100000
set_option maxHeartbeats 4000000
namespace My
open PySem PySem.Spec PyProof.Rows L2 Dx
open Evl (Ex)
/-! ### the script's numbers -/
def cellN (ns : List Int) (k : Nat) : Int := ns.getD k 0
theorem cell_at_ok (ns : List Int) (k : Nat) : F_l_cell_at [.fz (dInts ns), .int (k : Int)] = .ok (.int (cellN ns k)) := by
  by_cases h : k < ns.length
  · simp [F_l_cell_at, fnSem_ap, f_l_cell_at, h, ix_fz h, cellN]
  · simp [F_l_cell_at, fnSem_ap, f_l_cell_at, h, cellN, List.getD_eq_getElem?_getD, List.getElem?_eq_none (Nat.le_of_not_lt h)]
def numN (ns : List Int) (k : Nat) : Int := if ns.length = 0 then 5003 * k else (ns.getD (k % ns.length) 0 + 7919 * ((k / ns.length : Nat) : Int) + 101 * k) * 48271 % 2147483647
theorem number_ok (ns : List Int) (hl : ns.length ≤ 63) (k : Nat) : F_l_number [.fz (dInts ns), .int (k : Int)] = .ok (.int (numN ns k)) := by
  by_cases h : ns.length = 0
  · simp [F_l_number, fnSem_ap, f_l_number, h, numN, D.fits]
  · have hp : (0 : Int) < ns.length := by omega
    have hp2 : (ns.length : Int) < 1073741824 := by omega
    have hm : ((k : Int) % (ns.length : Int)) = ((k % ns.length : Nat) : Int) := by simp
    have lt : k % ns.length < ns.length := Nat.mod_lt _ (by omega)
    have e : ((ns.length : Int) == 0) = false := by
      rw [beq_eq_false_iff_ne]
      omega
    have hx : D.ix (.fz (dInts ns)) (.int ((k : Int) % (ns.length : Int))) = .ok (.int (ns.getD (k % ns.length) 0)) := by rw [hm]; exact ix_fz lt
    have h1 := mod_int (x := (k : Int)) hp
    have h2 := fdiv_int (x := (k : Int)) hp hp2
    simp [F_l_number, fnSem_ap, f_l_number, h, numN, D.fits, e, h1, h2, hx]
theorem whole_int (n : Int) : F_l_whole [.int n] = .ok (.bl true) := by
  simp [F_l_whole, fnSem_ap, f_l_whole]
/-! ### baskets -/
structure Bk (bs : List Int) : Prop where
  len : bs.length ≤ 5
  pos : ∀ b ∈ bs, 0 ≤ b ∧ b ≤ 9
def prodB : List Int → Int
  | [] => 1
  | b :: bs => (b + 1) * prodB bs
def countsB : List Int → Int → List Int
  | [], _ => []
  | b :: bs, n => n % (b + 1) :: countsB bs (n / (b + 1))
def numB : List Int → List Int → Int
  | b :: bs, c :: cs => c + (b + 1) * numB bs cs
  | _, _ => 0
theorem prodB_pos : ∀ {bs : List Int}, (∀ b ∈ bs, 0 ≤ b) → 1 ≤ prodB bs
  | [], _ => Int.le_refl _
  | b :: bs, h => by
    have h1 := h b List.mem_cons_self
    have h2 := prodB_pos (bs := bs) fun c m => h c (List.mem_cons_of_mem _ m)
    show 1 ≤ (b + 1) * prodB bs
    have : 0 ≤ b * prodB bs := Int.mul_nonneg h1 (by omega)
    rw [Int.add_mul]
    omega
theorem numB_counts : ∀ {bs : List Int} {n : Int}, (∀ b ∈ bs, 0 ≤ b) → 0 ≤ n → n < prodB bs → numB bs (countsB bs n) = n
  | [], n, _, h1, h2 => by
    have : n < 1 := h2
    show (0 : Int) = n
    omega
  | b :: bs, n, h, h1, h2 => by
    have hb := h b List.mem_cons_self
    have h2' : n < (b + 1) * prodB bs := h2
    show n % (b + 1) + (b + 1) * numB bs (countsB bs (n / (b + 1))) = n
    rw [numB_counts (fun c m => h c (List.mem_cons_of_mem _ m)) (Int.ediv_nonneg h1 (by omega)) (Int.ediv_lt_of_lt_mul (by omega) (by rw [Int.mul_comm]; exact h2'))]
    exact Int.emod_add_mul_ediv n (b + 1)
theorem numB_self : ∀ {bs : List Int}, numB bs bs = prodB bs - 1
  | [] => rfl
  | b :: bs => by
    show b + (b + 1) * numB bs bs = (b + 1) * prodB bs - 1
    rw [numB_self, Int.mul_sub, Int.mul_one]
    omega
theorem countsB_len : ∀ {bs : List Int} {n : Int}, (countsB bs n).length = bs.length
  | [], _ => rfl
  | b :: bs, n => by simp [countsB, countsB_len]
theorem countsB_mem : ∀ {bs : List Int} {n : Int}, (∀ b ∈ bs, 0 ≤ b ∧ b ≤ 9) → ∀ c ∈ countsB bs n, 0 ≤ c ∧ c ≤ 9
  | [], _, _, c, m => by cases m
  | b :: bs, n, h, c, m => by
    have hb := h b List.mem_cons_self
    rcases List.mem_cons.mp m with e | m
    · have h1 := Int.emod_nonneg n (b := b + 1) (by omega)
      have h2 := Int.emod_lt_of_pos n (b := b + 1) (by omega)
      omega
    · exact countsB_mem (fun c m => h c (List.mem_cons_of_mem _ m)) c m
/-- a product so far and what is to come -/
def upto (m : Int) (bs : List Int) : Prop := 1 ≤ m ∧ m * prodB bs ≤ 100000
theorem upto.fits {m : Int} {bs : List Int} (h : upto m bs) (hb : ∀ b ∈ bs, 0 ≤ b) : D.fits m = true := by
  have h1 := prodB_pos hb
  have : m ≤ m * prodB bs := by
    have := Int.mul_le_mul_of_nonneg_left h1 (by have := h.1; omega : (0 : Int) ≤ m)
    omega
  have := h.1
  have := h.2
  exact fits_of (by omega) (by omega)
theorem upto.next {m b : Int} {bs : List Int} (h : upto m (b :: bs)) (hb : 0 ≤ b) : upto (m * (b + 1)) bs := by
  refine ⟨?_, by rw [Int.mul_assoc]; exact h.2⟩
  have : 0 ≤ m * b := Int.mul_nonneg (by have := h.1; omega) hb
  have := h.1
  rw [Int.mul_add]
  omega
theorem prodB_le : ∀ {bs : List Int}, (∀ b ∈ bs, 0 ≤ b ∧ b ≤ 9) → prodB bs ≤ 10 ^ bs.length
  | [], _ => Int.le_refl _
  | b :: bs, h => by
    have hb := h b List.mem_cons_self
    have ih := prodB_le fun c m => h c (List.mem_cons_of_mem _ m)
    show (b + 1) * prodB bs ≤ 10 ^ (bs.length + 1)
    have h1 : (b + 1) * prodB bs ≤ (b + 1) * 10 ^ bs.length := Int.mul_le_mul_of_nonneg_left ih (by omega)
    have h2 : (0 : Int) ≤ 10 ^ bs.length := Int.pow_nonneg (by decide)
    have h3 : (b + 1) * (10 : Int) ^ bs.length ≤ 10 * 10 ^ bs.length := Int.mul_le_mul_of_nonneg_right (by omega) h2
    rw [Int.pow_succ, Int.mul_comm _ 10]
    omega
theorem Bk.upto {bs : List Int} (h : Bk bs) : My.upto 1 bs := by
  refine ⟨Int.le_refl _, ?_⟩
  have h1 := prodB_le h.pos
  have h2 : (10 : Int) ^ bs.length ≤ 10 ^ 5 := by
    have := h.len
    have : ∀ n : Nat, n ≤ 5 → (10 : Int) ^ n ≤ 10 ^ 5 := by decide
    exact this _ h.len
  omega
theorem Bk.nn {bs : List Int} (h : Bk bs) : ∀ b ∈ bs, 0 ≤ b := fun b m => (h.pos b m).1
/-! ### the program's defs -/
theorem within_loop (d : D) : ∀ (bs : List Int) (m : Int) (x : Option D), (∀ b ∈ bs, 0 ≤ b) → upto m bs →
    ∃ y, forGo (.one 2) (sAug 1 D.mul (eBin D.add (eVar 2) (eC (.int 1)))) (dInts bs) [some d, some (.int m), x] = .nxt [some d, some (.int (m * prodB bs)), y]
  | [], m, x, _, _ => ⟨x, by simp [prodB]⟩
  | b :: bs, m, x, hb, h => by
    have h1 := h.fits hb
    obtain ⟨y, hy⟩ := within_loop d bs (m * (b + 1)) (some (.int b)) (fun c q => hb c (List.mem_cons_of_mem _ q)) (h.next (hb b List.mem_cons_self))
    exact ⟨y, by simp [forGo_one, h1, hy, prodB, Int.mul_assoc]⟩
theorem within_ok {bs : List Int} (h : Bk bs) : F_p_within [.lst (dInts bs)] = .ok (.int (prodB bs)) := by
  obtain ⟨y, hy⟩ := within_loop (.lst (dInts bs)) bs 1 none h.nn h.upto
  simp [F_p_within, fnSem_ap, f_p_within, hy]
theorem many_loop (d : D) : ∀ (bs : List Int) (m : Int) (x : Option D), (∀ b ∈ bs, 0 ≤ b) → upto m bs →
    ∃ y, forGo (.one 2) (sSet 1 (eBin D.mul (eVar 1) (eBin D.add (eVar 2) (eC (.int 1))))) (dInts bs) [some d, some (.int m), x] = .nxt [some d, some (.int (m * prodB bs)), y]
  | [], m, x, _, _ => ⟨x, by simp [prodB]⟩
  | b :: bs, m, x, hb, h => by
    have h1 := h.fits hb
    obtain ⟨y, hy⟩ := many_loop d bs (m * (b + 1)) (some (.int b)) (fun c q => hb c (List.mem_cons_of_mem _ q)) (h.next (hb b List.mem_cons_self))
    exact ⟨y, by simp [forGo_one, h1, hy, prodB, Int.mul_assoc]⟩
theorem many_ok {bs : List Int} (h : Bk bs) : F_l_many [.lst (dInts bs)] = .ok (.int (prodB bs)) := by
  obtain ⟨y, hy⟩ := many_loop (.lst (dInts bs)) bs 1 none h.nn h.upto
  simp [F_l_many, fnSem_ap, f_l_many, hy]
theorem div_step {b n : Int} (hb : 0 ≤ b ∧ b ≤ 9) : D.mod (.int n) (.int (b + 1)) = .ok (.int (n % (b + 1))) ∧ D.fdiv (.int n) (.int (b + 1)) = .ok (.int (n / (b + 1))) := ⟨mod_int (by omega), fdiv_int (by omega) (by omega)⟩
theorem counts_of_loop (d d1 : D) : ∀ (bs : List Int) (n : Int) (acc : List Int) (x : Option D), (∀ b ∈ bs, 0 ≤ b ∧ b ≤ 9) → acc.length + bs.length ≤ 100 →
    ∃ n' y, forGo (.one 4) (sSeq (sApp 2 (eBin D.mod (eVar 3) (eBin D.add (eVar 4) (eC (.int 1))))) (sAug 3 D.fdiv (eBin D.add (eVar 4) (eC (.int 1))))) (dInts bs) [some d, some d1, some (.lst (dInts acc)), some (.int n), x] =
      .nxt [some d, some d1, some (.lst (dInts (acc ++ countsB bs n))), n', y]
  | [], n, acc, x, _, _ => ⟨_, x, by simp [countsB]; rfl⟩
  | b :: bs, n, acc, x, hb, hl => by
    obtain ⟨h1, h2⟩ := div_step (n := n) (hb b List.mem_cons_self)
    have hl' : acc.length + bs.length + 1 ≤ 100 := hl
    obtain ⟨n', y, hy⟩ := counts_of_loop d d1 bs (n / (b + 1)) (acc ++ [n % (b + 1)]) (some (.int b)) (fun c q => hb c (List.mem_cons_of_mem _ q)) (by simp; omega)
    have e : dInts acc ++ [D.int (n % (b + 1))] = dInts (acc ++ [n % (b + 1)]) := by simp [dInts_append]
    have hz : acc.length < 100000 := by omega
    refine ⟨n', y, ?_⟩
    simp [forGo_one, h1, h2, hz, e, hy, countsB]
theorem counts_of_ok {bs : List Int} (h : Bk bs) (n : Int) : F_p_counts_of [.lst (dInts bs), .int n] = .ok (.lst (dInts (countsB bs n))) := by
  obtain ⟨n', y, hy⟩ := counts_of_loop (.lst (dInts bs)) (.int n) bs n [] none h.pos (by have := h.len; simp; omega)
  simp at hy
  simp [F_p_counts_of, fnSemL_ap, f_p_counts_of, hy]
theorem counts_loop (d : D) : ∀ (bs : List Int) (n : Int) (acc : List Int) (x : Option D), (∀ b ∈ bs, 0 ≤ b ∧ b ≤ 9) → acc.length + bs.length ≤ 100 →
    ∃ n' y, forGo (.one 3) (sSeq (sApp 2 (eBin D.mod (eVar 1) (eBin D.add (eVar 3) (eC (.int 1))))) (sSet 1 (eBin D.fdiv (eVar 1) (eBin D.add (eVar 3) (eC (.int 1)))))) (dInts bs) [some d, some (.int n), some (.lst (dInts acc)), x] =
      .nxt [some d, n', some (.lst (dInts (acc ++ countsB bs n))), y]
  | [], n, acc, x, _, _ => ⟨_, x, by simp [countsB]; rfl⟩
  | b :: bs, n, acc, x, hb, hl => by
    obtain ⟨h1, h2⟩ := div_step (n := n) (hb b List.mem_cons_self)
    have hl' : acc.length + bs.length + 1 ≤ 100 := hl
    obtain ⟨n', y, hy⟩ := counts_loop d bs (n / (b + 1)) (acc ++ [n % (b + 1)]) (some (.int b)) (fun c q => hb c (List.mem_cons_of_mem _ q)) (by simp; omega)
    have e : dInts acc ++ [D.int (n % (b + 1))] = dInts (acc ++ [n % (b + 1)]) := by simp [dInts_append]
    have hz : acc.length < 100000 := by omega
    refine ⟨n', y, ?_⟩
    simp [forGo_one, h1, h2, hz, e, hy, countsB]
theorem counts_ok {bs : List Int} (h : Bk bs) (n : Int) : F_l_counts [.lst (dInts bs), .int n] = .ok (.lst (dInts (countsB bs n))) := by
  obtain ⟨n', y, hy⟩ := counts_loop (.lst (dInts bs)) bs n [] none h.pos (by have := h.len; simp; omega)
  simp at hy
  simp [F_l_counts, fnSem_ap, f_l_counts, hy]
theorem zipD_cons (a b : D) (as bs : List D) : zipD (a :: as) (b :: bs) = .tup [a, b] :: zipD as bs := rfl
theorem zipD_nil (bs : List D) : zipD [] bs = [] := by cases bs <;> rfl
theorem number_of_loop (d d1 : D) : ∀ (bs cs : List Int) (n s : Int) (x y : Option D), cs.length = bs.length → (∀ b ∈ bs, 0 ≤ b) → (∀ c ∈ cs, 0 ≤ c ∧ c ≤ 9) → upto s bs →
    ∃ s' x' y', forGo (.two 4 5) (sSeq (sAug 2 D.iadd (eBin D.mul (eVar 5) (eVar 3))) (sAug 3 D.mul (eBin D.add (eVar 4) (eC (.int 1))))) (zipD (dInts bs) (dInts cs)) [some d, some d1, some (.int n), some (.int s), x, y] =
      .nxt [some d, some d1, some (.int (n + s * numB bs cs)), s', x', y']
  | [], [], n, s, x, y, _, _, _, _ => ⟨_, x, y, by simp [zipD_nil, numB]; rfl⟩
  | b :: bs, c :: cs, n, s, x, y, hl, hb, hc, h => by
    have h1 := h.fits hb
    obtain ⟨s', x', y', hy⟩ := number_of_loop d d1 bs cs (n + c * s) (s * (b + 1)) (some (.int b)) (some (.int c)) (by simpa using hl) (fun c q => hb c (List.mem_cons_of_mem _ q)) (fun e q => hc e (List.mem_cons_of_mem _ q)) (h.next (hb b List.mem_cons_self))
    refine ⟨s', x', y', ?_⟩
    have e : n + c * s + s * (b + 1) * numB bs cs = n + s * (c + (b + 1) * numB bs cs) := by rw [Int.mul_add s c, Int.mul_assoc s (b + 1), Int.mul_comm c s, Int.add_assoc]
    simp [zipD_cons, forGo_two, h1, hy, numB, e]
theorem number_of_ok {bs cs : List Int} (h : Bk bs) (hl : cs.length = bs.length) (hc : ∀ c ∈ cs, 0 ≤ c ∧ c ≤ 9) : F_p_number_of [.lst (dInts bs), .lst (dInts cs)] = .ok (.int (numB bs cs)) := by
  obtain ⟨s', x', y', hy⟩ := number_of_loop (.lst (dInts bs)) (.lst (dInts cs)) bs cs 0 1 none none hl h.nn hc h.upto
  simp at hy
  simp [F_p_number_of, fnSem_ap, f_p_number_of, hy]
theorem step_loop (d d1 : D) : ∀ (bs cs : List Int) (n s : Int) (x y : Option D), cs.length = bs.length → (∀ b ∈ bs, 0 ≤ b) → (∀ c ∈ cs, 0 ≤ c ∧ c ≤ 9) → upto s bs →
    ∃ s' x' y', forGo (.two 4 5) (sSeq (sSet 3 (eBin D.add (eVar 3) (eBin D.mul (eVar 5) (eVar 2)))) (sSet 2 (eBin D.mul (eVar 2) (eBin D.add (eVar 4) (eC (.int 1)))))) (zipD (dInts bs) (dInts cs)) [some d, some d1, some (.int s), some (.int n), x, y] =
      .nxt [some d, some d1, s', some (.int (n + s * numB bs cs)), x', y']
  | [], [], n, s, x, y, _, _, _, _ => ⟨_, x, y, by simp [zipD_nil, numB]; rfl⟩
  | b :: bs, c :: cs, n, s, x, y, hl, hb, hc, h => by
    have h1 := h.fits hb
    obtain ⟨s', x', y', hy⟩ := step_loop d d1 bs cs (n + c * s) (s * (b + 1)) (some (.int b)) (some (.int c)) (by simpa using hl) (fun c q => hb c (List.mem_cons_of_mem _ q)) (fun e q => hc e (List.mem_cons_of_mem _ q)) (h.next (hb b List.mem_cons_self))
    refine ⟨s', x', y', ?_⟩
    have e : n + c * s + s * (b + 1) * numB bs cs = n + s * (c + (b + 1) * numB bs cs) := by rw [Int.mul_add s c, Int.mul_assoc s (b + 1), Int.mul_comm c s, Int.add_assoc]
    simp [zipD_cons, forGo_two, h1, hy, numB, e]
theorem step_ok {bs cs : List Int} (h : Bk bs) (hl : cs.length = bs.length) (hc : ∀ c ∈ cs, 0 ≤ c ∧ c ≤ 9) : F_l_step [.lst (dInts bs), .lst (dInts cs)] = .ok (.int (numB bs cs)) := by
  obtain ⟨s', x', y', hy⟩ := step_loop (.lst (dInts bs)) (.lst (dInts cs)) bs cs 0 1 none none hl h.nn hc h.upto
  simp at hy
  simp [F_l_step, fnSem_ap, f_l_step, hy]
theorem listed_loop (d d1 : D) : ∀ (ns : List Int) (x : Option D), ∃ y, forGo (.one 2) (sIf (eNotB (eTruth (eCall (eCons (eVar 2) (eNil)) F_l_whole))) (sRet (eC (.bl false))) (sNext)) (dInts ns) [some d, some d1, x] = .nxt [some d, some d1, y]
  | [], x => ⟨x, by simp⟩
  | n :: ns, x => by
    obtain ⟨y, hy⟩ := listed_loop d d1 ns (some (.int n))
    exact ⟨y, by simp [forGo_one, whole_int, hy]⟩
theorem listed_ok (ns : List Int) : F_l_listed [.lst (dInts ns), .lst (dInts ns)] = .ok (.bl true) := by
  obtain ⟨y, hy⟩ := listed_loop (.lst (dInts ns)) (.lst (dInts ns)) ns none
  simp [F_l_listed, fnSem_ap, f_l_listed, hy, Dx.eq_self (okd_dInts ns)]
/-! ### the law -/
theorem lcGo_map {i : Nat} {f : EE} {base : Sl} {g : D → D} : ∀ {ds : List D}, (∀ d ∈ ds, f (base.set i (some d)) = .ok (g d)) → lcGo (.one i) eYes f base ds = .ok (ds.map g)
  | [], _ => rfl
  | d :: ds, h => by
    rw [lcGo_one, h d List.mem_cons_self, eYes_ap, consR_t, lcGo_map fun c m => h c (List.mem_cons_of_mem _ m)]
    rfl
def basketL (ns : List Int) : List Int := (List.range (1 + cellN ns 0 % 5).toNat).map fun k => numN ns k / 7 % 10
theorem basketL_bk (ns : List Int) : Bk (basketL ns) := by
  have h1 := Int.emod_nonneg (cellN ns 0) (b := 5) (by decide)
  have h2 := Int.emod_lt_of_pos (cellN ns 0) (b := 5) (by decide)
  refine ⟨by simp [basketL]; omega, fun b m => ?_⟩
  obtain ⟨k, _, rfl⟩ := List.mem_map.mp m
  have h3 := Int.emod_nonneg (numN ns k / 7) (b := 10) (by decide)
  have h4 := Int.emod_lt_of_pos (numN ns k / 7) (b := 10) (by decide)
  omega
theorem law_basket (ns : List Int) (hl : ns.length ≤ 63) (es : Sl) :
    (eLc (eCallL (eCons (eBin D.add (eC (.int 1)) (eBin D.mod (eCall (eCons (eVar 0) (eCons (eC (.int 0)) (eNil))) F_l_cell_at) (eC (.int 5)))) (eNil)) D.rng1) (.one 2) [2] (eYes) (eBin D.mod (eBin D.fdiv (eCall (eCons (eVar 0) (eCons (eVar 2) (eNil))) F_l_number) (eC (.int 7))) (eC (.int 10)))) (some (.fz (dInts ns)) :: none :: none :: es) = .ok (dInts (basketL ns)) := by
  have h1 := Int.emod_nonneg (cellN ns 0) (b := 5) (by decide)
  have h2 := Int.emod_lt_of_pos (cellN ns 0) (b := 5) (by decide)
  have hc : F_l_cell_at [.fz (dInts ns), .int 0] = .ok (.int (cellN ns 0)) := cell_at_ok ns 0
  have hr := rng1_ok (x := 1 + cellN ns 0 % 5) (by omega) (by omega)
  rw [eLc_ap]
  simp [hc, hr]
  rw [lcGo_map (g := fun d => match d with | .int k => .int (numN ns k.toNat / 7 % 10) | _ => .non)]
  · rw [lim_ok (by omega)]
    simp [basketL, dInts]
  · intro d m
    obtain ⟨k, _, rfl⟩ := List.mem_map.mp m
    have hn := number_ok ns hl k
    simp [wipeE, hn]
structure Good (bs : List Int) (n : Int) : Prop where
  lo : 0 ≤ n
  hi : n < prodB bs
theorem turn_ok {bs : List Int} (hb : Bk bs) {n : Int} (hn : Good bs n) (d : D) (x : Option D) (m : Int) (y6 y7 y8 y9 : Option D) :
    ∃ z6 z7 z8 z9, (sSeq (sSet 6 (eCall (eCons (eVar 1) (eCons (eVar 5) (eNil))) F_l_counts))
      (sSeq (sOwn 7 (eCallL (eCons (eVar 3) (eCons (eVar 5) (eNil))) (fun ds => (F_p_counts_of ds).bind unl)))
      (sSeq (sApp 7 (eUn D.neg (eC (.int 1))))
      (sSeq (sSet 8 (eL (eCallL (eCons (eVar 3) (eCons (eVar 5) (eNil))) (fun ds => (F_p_counts_of ds).bind unl))))
      (sSeq (sIf (eTest (eBin D.ne (eVar 7) (eBin D.add (eVar 8) (eL (eCons (eUn D.neg (eC (.int 1))) (eNil)))))) (sRet (eC (.bl false))) (sNext))
      (sSeq (sIf (eNotB (eTruth (eCall (eCons (eVar 8) (eCons (eVar 6) (eNil))) F_l_listed))) (sRet (eC (.bl false))) (sNext))
      (sSeq (sSet 9 (eCall (eCons (eVar 3) (eCons (eVar 8) (eNil))) F_p_number_of))
      (sIf (eOrB (eNotB (eTruth (eCall (eCons (eVar 9) (eNil)) F_l_whole))) (eOrB (eTest (eBin D.ne (eVar 9) (eVar 5))) (eOrB (eTest (eBin D.ne (eVar 8) (eVar 6))) (eTest (eBin D.ne (eVar 3) (eVar 1)))))) (sRet (eC (.bl false))) (sNext))))))))) [some d, some (.lst (dInts bs)), x, some (.lst (dInts bs)), some (.int m), some (.int n), y6, y7, y8, y9] =
      .nxt [some d, some (.lst (dInts bs)), x, some (.lst (dInts bs)), some (.int m), some (.int n), z6, z7, z8, z9] := by
  have h1 := counts_ok hb n
  have h2 := counts_of_ok hb n
  have hl : (countsB bs n).length < 100000 := by rw [countsB_len]; have := hb.len; omega
  have h3 := number_of_ok hb countsB_len (countsB_mem (n := n) hb.pos)
  rw [numB_counts hb.nn hn.lo hn.hi] at h3
  have e : dInts (countsB bs n) ++ [D.int (-1)] = dInts (countsB bs n ++ [-1]) := by simp [dInts_append]
  have hs : (countsB bs n).length + 1 ≤ 100000 := hl
  refine ⟨some (.lst (dInts (countsB bs n))), some (.lst (dInts (countsB bs n ++ [-1]))), some (.lst (dInts (countsB bs n))), some (.int n), ?_⟩
  simp [h1, h2, hl, hs, e, h3, listed_ok, whole_int, Dx.ne_self (okd_dInts _)]
theorem law_loop {bs : List Int} (hb : Bk bs) (d : D) (x : Option D) (m : Int) : ∀ (qs : List Int) (y5 y6 y7 y8 y9 : Option D), (∀ n ∈ qs, Good bs n) →
    ∃ z5 z6 z7 z8 z9, forGo (.one 5) (sSeq (sSet 6 (eCall (eCons (eVar 1) (eCons (eVar 5) (eNil))) F_l_counts))
      (sSeq (sOwn 7 (eCallL (eCons (eVar 3) (eCons (eVar 5) (eNil))) (fun ds => (F_p_counts_of ds).bind unl)))
      (sSeq (sApp 7 (eUn D.neg (eC (.int 1))))
      (sSeq (sSet 8 (eL (eCallL (eCons (eVar 3) (eCons (eVar 5) (eNil))) (fun ds => (F_p_counts_of ds).bind unl))))
      (sSeq (sIf (eTest (eBin D.ne (eVar 7) (eBin D.add (eVar 8) (eL (eCons (eUn D.neg (eC (.int 1))) (eNil)))))) (sRet (eC (.bl false))) (sNext))
      (sSeq (sIf (eNotB (eTruth (eCall (eCons (eVar 8) (eCons (eVar 6) (eNil))) F_l_listed))) (sRet (eC (.bl false))) (sNext))
      (sSeq (sSet 9 (eCall (eCons (eVar 3) (eCons (eVar 8) (eNil))) F_p_number_of))
      (sIf (eOrB (eNotB (eTruth (eCall (eCons (eVar 9) (eNil)) F_l_whole))) (eOrB (eTest (eBin D.ne (eVar 9) (eVar 5))) (eOrB (eTest (eBin D.ne (eVar 8) (eVar 6))) (eTest (eBin D.ne (eVar 3) (eVar 1)))))) (sRet (eC (.bl false))) (sNext))))))))) (dInts qs) [some d, some (.lst (dInts bs)), x, some (.lst (dInts bs)), some (.int m), y5, y6, y7, y8, y9] =
      .nxt [some d, some (.lst (dInts bs)), x, some (.lst (dInts bs)), some (.int m), z5, z6, z7, z8, z9]
  | [], y5, y6, y7, y8, y9, _ => ⟨y5, y6, y7, y8, y9, rfl⟩
  | n :: qs, y5, y6, y7, y8, y9, h => by
    obtain ⟨z6, z7, z8, z9, hz⟩ := turn_ok hb (h n List.mem_cons_self) d x m y6 y7 y8 y9
    obtain ⟨u5, u6, u7, u8, u9, hu⟩ := law_loop hb d x m qs (some (.int n)) z6 z7 z8 z9 fun c q => h c (List.mem_cons_of_mem _ q)
    refine ⟨u5, u6, u7, u8, u9, ?_⟩
    rw [dInts_cons, forGo_one]
    show (Out.loop _ _) = _
    rw [show ([some d, some (.lst (dInts bs)), x, some (.lst (dInts bs)), some (.int m), y5, y6, y7, y8, y9] : Sl).set 5 (some (.int n)) = [some d, some (.lst (dInts bs)), x, some (.lst (dInts bs)), some (.int m), some (.int n), y6, y7, y8, y9] from rfl, hz]
    exact hu
theorem law_ok (ns : List Int) (hl : ns.length ≤ 63) : F_p_law [.fz (dInts ns)] = .ok (.bl true) := by
  have hb := basketL_bk ns
  have hw := within_ok hb
  have hm := many_ok hb
  have hp := prodB_pos hb.nn
  have hc1 : F_l_cell_at [.fz (dInts ns), .int 1] = .ok (.int (cellN ns 1)) := cell_at_ok ns 1
  have hn9 : F_l_number [.fz (dInts ns), .int 9] = .ok (.int (numN ns 9)) := number_ok ns hl 9
  have hst := step_ok hb (cs := basketL ns) rfl hb.pos
  rw [numB_self] at hst
  have m1 := mod_int (x := cellN ns 1) (y := prodB (basketL ns)) (by omega)
  have m2 := mod_int (x := numN ns 9) (y := prodB (basketL ns)) (by omega)
  obtain ⟨z5, z6, z7, z8, z9, hz⟩ := law_loop hb (.fz (dInts ns)) none (prodB (basketL ns)) [0, prodB (basketL ns) - 1, cellN ns 1 % prodB (basketL ns), numN ns 9 % prodB (basketL ns)] none none none none none (by
    intro n m
    have pos : 0 < prodB (basketL ns) := by omega
    rcases List.mem_cons.mp m with rfl | m
    · exact ⟨by omega, by omega⟩
    rcases List.mem_cons.mp m with rfl | m
    · exact ⟨by omega, by omega⟩
    rcases List.mem_cons.mp m with rfl | m
    · exact ⟨Int.emod_nonneg _ (by omega), Int.emod_lt_of_pos _ pos⟩
    rcases List.mem_cons.mp m with rfl | m
    · exact ⟨Int.emod_nonneg _ (by omega), Int.emod_lt_of_pos _ pos⟩
    cases m)
  simp only [dInts_cons, dInts_nil] at hz
  simp [F_p_law, fnSem_ap, f_p_law, law_basket ns hl, hw, hm, whole_int, hc1, hn9, m1, m2, hz, hst]
section
open PySem.W (findIn nsIn isFn keepIn codeIn fnOf subIn typeIn excIn)
/-- the law's promise: a list of at most 63 ints is handed in, True comes out -/
def spLaw (K : PySem.W.Frag) : Sp := fun vs H Q _ => ∃ (a : Addr) (ns : List Int), vs = [.ref a] ∧ SqL K H a (ns.map V.int) ∧ ns.length ≤ 63 ∧ ∀ H', Q (.bl true) H'
theorem denInts {K : PySem.W.Frag} {H : Hp} : ∀ ns : List Int, DenL K H (ns.map V.int) (dInts ns)
  | [] => .nil
  | n :: ns => .cons (.int n) (denInts ns)
theorem law_sp {K : PySem.W.Frag} {mg : Str → Option Value} : ∀ vs H Q E, spLaw K vs H Q E → SpF K mg 1 false F_p_law vs H Q E := fun vs H Q E h => by
  obtain ⟨a, ns, rfl, hs, hl, k⟩ := h
  refine ⟨rfl, [], [.fz (dInts ns)], (fun _ m => absurd m (List.not_mem_nil)), .one (.fz (Evl.ex_l (H := H) (fun a o h => by show (if a ∈ [] then none else H a) = some o; rw [if_neg (List.not_mem_nil)]; exact h) hs) (denInts ns)), ?_⟩
  rw [law_ok ns hl]
  intro v H1 _ hv
  rw [den_bl hv]
  exact k H1
theorem all_mk {l : PySem.W.OpenLaw} {w : World} {K : PySem.W.Frag} {h : Heap} {mg : Str → Option Value} {fa : Addr} {q0 : Addr} {od0 an0 : Option Addr} {sl0 : Array (Option Value)} {oc0 kV0 dc0 pm0 cd0 ct0 : Value} {q1 : Addr} {od1 an1 : Option Addr} {sl1 : Array (Option Value)} {oc1 kV1 dc1 pm1 cd1 ct1 : Value} {q2 : Addr} {od2 an2 : Option Addr} {sl2 : Array (Option Value)} {oc2 kV2 dc2 pm2 cd2 ct2 : Value} {q3 : Addr} {od3 an3 : Option Addr} {sl3 : Array (Option Value)} {oc3 kV3 dc3 pm3 cd3 ct3 : Value} {q4 : Addr} {od4 an4 : Option Addr} {sl4 : Array (Option Value)} {oc4 kV4 dc4 pm4 cd4 ct4 : Value} {q5 : Addr} {od5 an5 : Option Addr} {sl5 : Array (Option Value)} {oc5 kV5 dc5 pm5 cd5 ct5 : Value} {q6 : Addr} {od6 an6 : Option Addr} {sl6 : Array (Option Value)} {oc6 kV6 dc6 pm6 cd6 ct6 : Value} {q7 : Addr} {od7 an7 : Option Addr} {sl7 : Array (Option Value)} {oc7 kV7 dc7 pm7 cd7 ct7 : Value} {q8 : Addr} {od8 an8 : Option Addr} {sl8 : Array (Option Value)} {oc8 kV8 dc8 pm8 cd8 ct8 : Value} {q9 : Addr} {od9 an9 : Option Addr} {sl9 : Array (Option Value)} {oc9 kV9 dc9 pm9 cd9 ct9 : Value} {q10 : Addr} {od10 an10 : Option Addr} {sl10 : Array (Option Value)} {oc10 kV10 dc10 pm10 cd10 ct10 : Value} (X : K.In h) (G : h.Ns mainGlobals mg) (hfa : mg "law" = some (.ref fa))
    (a0 : nsIn K mainGlobals "_law_cell_at" = some (some (.ref q0))) (l0 : K.lookup q0 = some ⟨oc0, od0, .func (fnOf "_law_cell_at" "_law_cell_at" (defArgs s_l_cell_at) (defBody s_l_cell_at) (defScope s_l_cell_at) .none kV0 dc0 pm0 an0 cd0 ct0), sl0⟩) (c0 : codeIn K cd0 "_law_cell_at" = true) (k0 : keepIn K (.ref q0) = true)
    (a1 : nsIn K mainGlobals "_law_counts" = some (some (.ref q1))) (l1 : K.lookup q1 = some ⟨oc1, od1, .func (fnOf "_law_counts" "_law_counts" (defArgs s_l_counts) (defBody s_l_counts) (defScope s_l_counts) .none kV1 dc1 pm1 an1 cd1 ct1), sl1⟩) (c1 : codeIn K cd1 "_law_counts" = true) (k1 : keepIn K (.ref q1) = true)
    (a2 : nsIn K mainGlobals "_law_whole" = some (some (.ref q2))) (l2 : K.lookup q2 = some ⟨oc2, od2, .func (fnOf "_law_whole" "_law_whole" (defArgs s_l_whole) (defBody s_l_whole) (defScope s_l_whole) .none kV2 dc2 pm2 an2 cd2 ct2), sl2⟩) (c2 : codeIn K cd2 "_law_whole" = true) (k2 : keepIn K (.ref q2) = true)
    (a3 : nsIn K mainGlobals "_law_listed" = some (some (.ref q3))) (l3 : K.lookup q3 = some ⟨oc3, od3, .func (fnOf "_law_listed" "_law_listed" (defArgs s_l_listed) (defBody s_l_listed) (defScope s_l_listed) .none kV3 dc3 pm3 an3 cd3 ct3), sl3⟩) (c3 : codeIn K cd3 "_law_listed" = true) (k3 : keepIn K (.ref q3) = true)
    (a4 : nsIn K mainGlobals "_law_many" = some (some (.ref q4))) (l4 : K.lookup q4 = some ⟨oc4, od4, .func (fnOf "_law_many" "_law_many" (defArgs s_l_many) (defBody s_l_many) (defScope s_l_many) .none kV4 dc4 pm4 an4 cd4 ct4), sl4⟩) (c4 : codeIn K cd4 "_law_many" = true) (k4 : keepIn K (.ref q4) = true)
    (a5 : nsIn K mainGlobals "_law_number" = some (some (.ref q5))) (l5 : K.lookup q5 = some ⟨oc5, od5, .func (fnOf "_law_number" "_law_number" (defArgs s_l_number) (defBody s_l_number) (defScope s_l_number) .none kV5 dc5 pm5 an5 cd5 ct5), sl5⟩) (c5 : codeIn K cd5 "_law_number" = true) (k5 : keepIn K (.ref q5) = true)
    (a6 : nsIn K mainGlobals "_law_step" = some (some (.ref q6))) (l6 : K.lookup q6 = some ⟨oc6, od6, .func (fnOf "_law_step" "_law_step" (defArgs s_l_step) (defBody s_l_step) (defScope s_l_step) .none kV6 dc6 pm6 an6 cd6 ct6), sl6⟩) (c6 : codeIn K cd6 "_law_step" = true) (k6 : keepIn K (.ref q6) = true)
    (a7 : nsIn K mainGlobals "counts_of" = some (some (.ref q7))) (l7 : K.lookup q7 = some ⟨oc7, od7, .func (fnOf "counts_of" "counts_of" (defArgs s_p_counts_of) (defBody s_p_counts_of) (defScope s_p_counts_of) .none kV7 dc7 pm7 an7 cd7 ct7), sl7⟩) (c7 : codeIn K cd7 "counts_of" = true) (k7 : keepIn K (.ref q7) = true)
    (a8 : nsIn K mainGlobals "number_of" = some (some (.ref q8))) (l8 : K.lookup q8 = some ⟨oc8, od8, .func (fnOf "number_of" "number_of" (defArgs s_p_number_of) (defBody s_p_number_of) (defScope s_p_number_of) .none kV8 dc8 pm8 an8 cd8 ct8), sl8⟩) (c8 : codeIn K cd8 "number_of" = true) (k8 : keepIn K (.ref q8) = true)
    (a9 : nsIn K mainGlobals "within" = some (some (.ref q9))) (l9 : K.lookup q9 = some ⟨oc9, od9, .func (fnOf "within" "within" (defArgs s_p_within) (defBody s_p_within) (defScope s_p_within) .none kV9 dc9 pm9 an9 cd9 ct9), sl9⟩) (c9 : codeIn K cd9 "within" = true) (k9 : keepIn K (.ref q9) = true)
    (a10 : nsIn K mainGlobals "law" = some (some (.ref q10))) (l10 : K.lookup q10 = some ⟨oc10, od10, .func (fnOf "law" "law" (defArgs s_p_law) (defBody s_p_law) (defScope s_p_law) .none kV10 dc10 pm10 an10 cd10 ct10), sl10⟩) (c10 : codeIn K cd10 "law" = true) (k10 : keepIn K (.ref q10) = true)
    (z_bool : nsIn K mainGlobals "bool" = some none) (z_int : nsIn K mainGlobals "int" = some none) (z_isinstance : nsIn K mainGlobals "isinstance" = some none) (z_len : nsIn K mainGlobals "len" = some none) (z_list : nsIn K mainGlobals "list" = some none) (z_range : nsIn K mainGlobals "range" = some none) (z_zip : nsIn K mainGlobals "zip" = some none) {t_p_MOST : Tok} (g_p_MOST : nsIn K mainGlobals "MOST" = some (some (.int 300 t_p_MOST))) :
    ∃ fd : FuncData, (∀ (s : Shared) (v : Value), BindsTo s fd ⟨[v], []⟩ [("_law_script", v)]) ∧ ∀ base : Heap, K.In base → base.Ns mainGlobals mg → FnOk l.prog w K mg base (L2.CX l.prog w) 3 fa fd ["_law_script"] (spLaw K) := by
  have e := hfa.symm.trans (PySem.W.mg_of X G a10)
  cases e
  refine ⟨_, fun s v => ?_, fun base _ _ => FnOk.imp (?_ : FnOk l.prog w K mg base (L2.CX l.prog w) 3 fa (fnOf "law" "law" (defArgs s_p_law) (defBody s_p_law) (defScope s_p_law) .none kV10 dc10 pm10 an10 cd10 ct10) ["_law_script"] (SpF K mg 1 false F_p_law)) law_sp⟩
  · exact .of_eq rfl
  · have F0 := fun_mk (st := s_l_cell_at) l0 c0 k0
    have b0 := F0.binds (ps := ["_law_script", "_law_k"]) fun _ _ _ _ _ _ us hl => match us, hl with | [_, _], _ => rfl
    have C_l_cell_at := callee_of (base := base) (P := l.prog) (w := w) (ok_l_cell_at F0 (PySem.W.mg_none_of X G z_len)) (PySem.W.mg_of X G a0) k0 b0
    have F1 := fun_mk (st := s_l_counts) l1 c1 k1
    have b1 := F1.binds (ps := ["_law_basket", "_law_number_here"]) fun _ _ _ _ _ _ us hl => match us, hl with | [_, _], _ => rfl
    have C_l_counts := callee_of (base := base) (P := l.prog) (w := w) (ok_l_counts F1) (PySem.W.mg_of X G a1) k1 b1
    have F2 := fun_mk (st := s_l_whole) l2 c2 k2
    have b2 := F2.binds (ps := ["_law_found"]) fun _ _ _ _ _ _ us hl => match us, hl with | [_], _ => rfl
    have C_l_whole := callee_of (base := base) (P := l.prog) (w := w) (ok_l_whole F2 (PySem.W.mg_none_of X G z_bool) (PySem.W.mg_none_of X G z_int) (PySem.W.mg_none_of X G z_isinstance)) (PySem.W.mg_of X G a2) k2 b2
    have F3 := fun_mk (st := s_l_listed) l3 c3 k3
    have b3 := F3.binds (ps := ["_law_found", "_law_due"]) fun _ _ _ _ _ _ us hl => match us, hl with | [_, _], _ => rfl
    have C_l_listed := callee_of (base := base) (P := l.prog) (w := w) (ok_l_listed F3 C_l_whole (PySem.W.mg_none_of X G z_isinstance) (PySem.W.mg_none_of X G z_len) (PySem.W.mg_none_of X G z_list)) (PySem.W.mg_of X G a3) k3 b3
    have F4 := fun_mk (st := s_l_many) l4 c4 k4
    have b4 := F4.binds (ps := ["_law_basket"]) fun _ _ _ _ _ _ us hl => match us, hl with | [_], _ => rfl
    have C_l_many := callee_of (base := base) (P := l.prog) (w := w) (ok_l_many F4) (PySem.W.mg_of X G a4) k4 b4
    have F5 := fun_mk (st := s_l_number) l5 c5 k5
    have b5 := F5.binds (ps := ["_law_script", "_law_k"]) fun _ _ _ _ _ _ us hl => match us, hl with | [_, _], _ => rfl
    have C_l_number := callee_of (base := base) (P := l.prog) (w := w) (ok_l_number F5 (PySem.W.mg_none_of X G z_len)) (PySem.W.mg_of X G a5) k5 b5
    have F6 := fun_mk (st := s_l_step) l6 c6 k6
    have b6 := F6.binds (ps := ["_law_basket", "_law_wants"]) fun _ _ _ _ _ _ us hl => match us, hl with | [_, _], _ => rfl
    have C_l_step := callee_of (base := base) (P := l.prog) (w := w) (ok_l_step F6 (PySem.W.mg_none_of X G z_zip)) (PySem.W.mg_of X G a6) k6 b6
    have F7 := fun_mk (st := s_p_counts_of) l7 c7 k7
    have b7 := F7.binds (ps := ["basket", "number"]) fun _ _ _ _ _ _ us hl => match us, hl with | [_, _], _ => rfl
    have C_p_counts_of := callee_of (base := base) (P := l.prog) (w := w) (ok_p_counts_of F7) (PySem.W.mg_of X G a7) k7 b7
    have F8 := fun_mk (st := s_p_number_of) l8 c8 k8
    have b8 := F8.binds (ps := ["basket", "inner"]) fun _ _ _ _ _ _ us hl => match us, hl with | [_, _], _ => rfl
    have C_p_number_of := callee_of (base := base) (P := l.prog) (w := w) (ok_p_number_of F8 (PySem.W.mg_none_of X G z_zip)) (PySem.W.mg_of X G a8) k8 b8
    have F9 := fun_mk (st := s_p_within) l9 c9 k9
    have b9 := F9.binds (ps := ["basket"]) fun _ _ _ _ _ _ us hl => match us, hl with | [_], _ => rfl
    have C_p_within := callee_of (base := base) (P := l.prog) (w := w) (ok_p_within F9) (PySem.W.mg_of X G a9) k9 b9
    have F10 := fun_mk (st := s_p_law) l10 c10 k10
    exact ok_p_law F10 C_l_cell_at C_l_counts C_l_listed C_l_many C_l_number C_l_step C_l_whole C_p_counts_of C_p_number_of C_p_within (PySem.W.mg_none_of X G z_list) (PySem.W.mg_none_of X G z_range) ⟨_, PySem.W.mg_of X G g_p_MOST⟩
theorem walk {l : PySem.W.OpenLaw} {q : Program} {loose : List Str} {XP : (Str → Option Value) → Heap → Prop} {YP : World → Heap → Prop} {d : DefRec} {K : Params → PySem.W.Frag} (hn : l.most = some 63) (hdf : d.params.defaults = [])
    (hY : ∀ (w : World) (h : Heap), YP w h → (K w.params).In h)
    (F : ∀ (w : World) (mg : Str → Option Value) (fa : Addr) (h : Heap), (K w.params).In h → h.Ns mainGlobals mg → mg d.name = some (.ref fa) →
      ∃ fd : FuncData, (∀ (s : Shared) (u : Value), BindsTo s fd ⟨[u], []⟩ [("_law_script", u)]) ∧ ∀ base : Heap, (K w.params).In base → base.Ns mainGlobals mg → FnOk l.prog w (K w.params) mg base (L2.CX l.prog w) 3 fa fd ["_law_script"] (spLaw (K w.params))) :
    PySem.W.WalkO q loose XP YP l.row.toRowW d [] (fun f vs => PySem.call f vs) :=
  L2.walk_of (n := 63) (k := 3) (x := "_law_script") (CX := fun w => L2.CX l.prog w) (sp := fun w => spLaw (K w.params)) hn (by decide) hdf ⟨rfl, by decide, by decide⟩ hY F (fun _ _ a ns hl _ hS => ⟨a, ns, rfl, hS, hl, fun _ => rfl⟩) fun _ _ _ _ _ ⟨_, _, _, _, _, _, _, _, _, _, _, _, z⟩ => z
end
end My
open PySem PySem.W PyProof.Rows
set_option maxRecDepth 100000 in
set_option maxHeartbeats 0 in
theorem PySem.Challenge.cw_tillbasket_k01_baskets_numbered_holds : PySem.Challenge.rw_tillbasket_k01_baskets_numbered.Holds := by
  w_on; o_law; k_head; (case hw => w_witness2)
  k_fill
  refine My.walk (l := PySem.Challenge.rw_tillbasket_k01_baskets_numbered) rfl rfl (fun w h Y => PySem.W.kIn_of Y) ?F
  case F =>
    intro w mg fa h KX G hmg
    refine' My.all_mk KX G hmg ?a0 ?l0 ?c0 ?k0 ?a1 ?l1 ?c1 ?k1 ?a2 ?l2 ?c2 ?k2 ?a3 ?l3 ?c3 ?k3 ?a4 ?l4 ?c4 ?k4 ?a5 ?l5 ?c5 ?k5 ?a6 ?l6 ?c6 ?k6 ?a7 ?l7 ?c7 ?k7 ?a8 ?l8 ?c8 ?k8 ?a9 ?l9 ?c9 ?k9 ?a10 ?l10 ?c10 ?k10 ?z_bool ?z_int ?z_isinstance ?z_len ?z_list ?z_range ?z_zip ?g_p_MOST
    (case a0 => k_is)
    (case l0 => k_is)
    (case c0 => k_is)
    (case k0 => k_is)
    (case a1 => k_is)
    (case l1 => k_is)
    (case c1 => k_is)
    (case k1 => k_is)
    (case a2 => k_is)
    (case l2 => k_is)
    (case c2 => k_is)
    (case k2 => k_is)
    (case a3 => k_is)
    (case l3 => k_is)
    (case c3 => k_is)
    (case k3 => k_is)
    (case a4 => k_is)
    (case l4 => k_is)
    (case c4 => k_is)
    (case k4 => k_is)
    (case a5 => k_is)
    (case l5 => k_is)
    (case c5 => k_is)
    (case k5 => k_is)
    (case a6 => k_is)
    (case l6 => k_is)
    (case c6 => k_is)
    (case k6 => k_is)
    (case a7 => k_is)
    (case l7 => k_is)
    (case c7 => k_is)
    (case k7 => k_is)
    (case a8 => k_is)
    (case l8 => k_is)
    (case c8 => k_is)
    (case k8 => k_is)
    (case a9 => k_is)
    (case l9 => k_is)
    (case c9 => k_is)
    (case k9 => k_is)
    (case a10 => k_is)
    (case l10 => k_is)
    (case c10 => k_is)
    (case k10 => k_is)
    (case z_bool => k_is)
    (case z_int => k_is)
    (case z_isinstance => k_is)
    (case z_len => k_is)
    (case z_list => k_is)
    (case z_range => k_is)
    (case z_zip => k_is)
    (case g_p_MOST => k_is)
