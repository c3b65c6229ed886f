import PyProof.Rows.All
import Wide.All
import OpenK.AllK
import Wide.FinOn
import HandS.ForMost
import HandS.ForExc
import HandS.Evl
import HandS.Zip
import HandS.Rev
import HandS.IsInst
import HandS.AnyAll
import HandS.More
import HandS.Words
import HandS.WordsExc
import HandS.Defaults
import HandS.ExcOwn
import HandS.ExcIs
import HandS.HotCalls
import HandS.Conv
import HandS.SetFor
import HandS.Deep
import HandS.HeadHook1
import HandS.HeadHook2
import HandS.HeadHook4
import HandS.Head0
import HandS.Head1
import HandS.Head2
import HandS.HeadEnd
import HandS.HeadWalk
import HandS.EndTab
import PySem.Challenge.RW_tillbasket_k02_shops_refused
set_option Elab.async false
set_option linter.all false
set_option maxRecDepth 100000
set_option maxHeartbeats 4000000
namespace Dx
open PySem PySem.Spec PyProof.Rows L2
def Keep (o : HO) (r : Option HO) : Prop := match o with
  | .tbl ps => ∃ ps', r = some (.tbl ps') ∧ (TriplesOk ps.toList → TriplesOk ps'.toList)
  | o => r = some o
def Ex (H H' : Hp) : Prop := ∀ a o, H a = some o → Keep o (H' a)
theorem Keep.same (o : HO) : Keep o (some o) := by
  cases o with
  | tbl ps => exact ⟨ps, rfl, id⟩
  | _ => rfl
theorem Keep.there {o : HO} {r : Option HO} (h : Keep o r) : ∃ o', r = some o' := by
  cases o with
  | tbl ps => obtain ⟨ps', e, _⟩ := h; exact ⟨_, e⟩
  | _ => exact ⟨_, h⟩
theorem Keep.trans {o : HO} {r : Option HO} {H : Hp} {a : Addr} (h : Keep o (H a)) {H' : Hp} (e : Ex H H') : Keep o (H' a) := by
  cases o with
  | tbl ps =>
    obtain ⟨ps', q, t⟩ := h
    obtain ⟨ps2, q2, t2⟩ := e _ _ q
    exact ⟨ps2, q2, fun z => t2 (t z)⟩
  | _ => exact e _ _ h
namespace Ex
theorem refl (H : Hp) : Ex H H := fun a o h => by rw [h]; exact Keep.same o
theorem trans {H H1 H2 : Hp} (e : Ex H H1) (e2 : Ex H1 H2) : Ex H H2 := fun a o h => Keep.trans (r := none) (e a o h) e2
theorem of {H H' : Hp} (e : Evl.Ex H H') : Ex H H' := fun a o h => by rw [e a o h]; exact Keep.same o
theorem new {H : Hp} {p : Addr} {o : HO} (h : H p = none) : Ex H (upd H p o) := .of (Evl.Ex.new h)
theorem mutd {H H' : Hp} {p : Addr} {o : HO} (e : Ex H H') (h : H p = none) : Ex H (upd H' p o) := fun a q z => by
  have n : a ≠ p := fun c => by rw [c, h] at z; cases z
  rw [upd_ne n]; exact e a q z
theorem tab {H H' : Hp} {P : Addr} (e : Ex H H') (h : GxR.TabG H P) : GxR.TabG H' P := by
  obtain ⟨ps, h1, h2⟩ := h
  obtain ⟨ps', q, t⟩ := e _ _ h1
  exact ⟨ps', q, t h2⟩
end Ex
theorem ex_l {K : PySem.W.Frag} {H H' : Hp} {a : Addr} {xs : List V} (e : Ex H H') (h : SqL K H a xs) : SqL K H' a xs := by
  rcases h with (h | ⟨o, h⟩) | h
  · exact .inl (.inl (e _ _ h))
  · exact .inl (.inr ⟨o, e _ _ h⟩)
  · exact .inr h
theorem ex_t {K : PySem.W.Frag} {H H' : Hp} {a : Addr} {xs : List V} (e : Ex H H') (h : SqT K H a xs) : SqT K H' a xs := by
  rcases h with (h | ⟨o, h⟩) | h
  · exact .inl (.inl (e _ _ h))
  · exact .inl (.inr ⟨o, e _ _ h⟩)
  · exact .inr h
/-- plain data -/
inductive D where
  | non | bl (b : Bool) | int (i : Int) | str (x : Str)
  | lst (xs : List D) | tup (xs : List D) | fz (xs : List D)
  | obj (c : Str) (fs : List (Str × D)) | raw (v : V)
  deriving Inhabited
mutual
/-- how data lies in the heap -/
inductive Den (K : PySem.W.Frag) (H : Hp) : V → D → Prop
  | non : Den K H .non .non
  | bl (b : Bool) : Den K H (.bl b) (.bl b)
  | int (i : Int) : Den K H (.int i) (.int i)
  | str (x : Str) : Den K H (.str x) (.str x)
  | lst {a : Addr} {xs : List V} {ds : List D} (h : H a = some (.lst xs)) (r : DenL K H xs ds) : Den K H (.ref a) (.lst ds)
  | tup {a : Addr} {xs : List V} {ds : List D} (h : SqT K H a xs) (r : DenL K H xs ds) : Den K H (.ref a) (.tup ds)
  | fz {a : Addr} {xs : List V} {ds : List D} (h : SqL K H a xs) (r : DenL K H xs ds) : Den K H (.ref a) (.fz ds)
  | obj {c : Str} {a dx : Addr} {fs : List (Str × V)} {gs : List (Str × D)} (h : H a = some (.ins (He.ga K c) dx fs)) (r : DenF K H fs gs) : Den K H (.ref a) (.obj c gs)
  | raw (v : V) : Den K H v (.raw v)
inductive DenL (K : PySem.W.Frag) (H : Hp) : List V → List D → Prop
  | nil : DenL K H [] []
  | cons {v : V} {vs : List V} {d : D} {ds : List D} (h : Den K H v d) (r : DenL K H vs ds) : DenL K H (v :: vs) (d :: ds)
inductive DenF (K : PySem.W.Frag) (H : Hp) : List (Str × V) → List (Str × D) → Prop
  | nil : DenF K H [] []
  | cons {f : Str} {v : V} {fs : List (Str × V)} {d : D} {gs : List (Str × D)} (h : Den K H v d) (r : DenF K H fs gs) : DenF K H ((f, v) :: fs) ((f, d) :: gs)
end
section
variable {K : PySem.W.Frag} {H H' : Hp}
mutual
theorem Den.mono (e : Ex H H') : ∀ {v : V} {d : D}, Den K H v d → Den K H' v d
  | _, _, .non => .non
  | _, _, .bl b => .bl b
  | _, _, .int i => .int i
  | _, _, .str x => .str x
  | _, _, .lst h r => .lst (e _ _ h) (DenL.mono e r)
  | _, _, .tup h r => .tup (ex_t e h) (DenL.mono e r)
  | _, _, .fz h r => .fz (ex_l e h) (DenL.mono e r)
  | _, _, .obj h r => .obj (e _ _ h) (DenF.mono e r)
  | _, _, .raw v => .raw v
theorem DenL.mono (e : Ex H H') : ∀ {vs : List V} {ds : List D}, DenL K H vs ds → DenL K H' vs ds
  | _, _, .nil => .nil
  | _, _, .cons h r => .cons (Den.mono e h) (DenL.mono e r)
theorem DenF.mono (e : Ex H H') : ∀ {vs : List (Str × V)} {ds : List (Str × D)}, DenF K H vs ds → DenF K H' vs ds
  | _, _, .nil => .nil
  | _, _, .cons h r => .cons (Den.mono e h) (DenF.mono e r)
end
theorem DenL.len : ∀ {vs : List V} {ds : List D}, DenL K H vs ds → vs.length = ds.length
  | _, _, .nil => rfl
  | _, _, .cons _ r => congrArg Nat.succ (DenL.len r)
theorem DenL.get : ∀ {vs : List V} {ds : List D} {i : Nat} {d : D}, DenL K H vs ds → ds[i]? = some d → ∃ v, vs[i]? = some v ∧ Den K H v d
  | _, _, _, _, .nil, e => by simp at e
  | _, _, 0, _, .cons h _, e => by simp at e; subst e; exact ⟨_, rfl, h⟩
  | _, _, i + 1, _, .cons _ r, e => by
    obtain ⟨v, h1, h2⟩ := DenL.get (i := i) r (by simpa using e)
    exact ⟨v, by simpa using h1, h2⟩
theorem DenL.append : ∀ {vs ws : List V} {ds es : List D}, DenL K H vs ds → DenL K H ws es → DenL K H (vs ++ ws) (ds ++ es)
  | _, _, _, _, .nil, s => s
  | _, _, _, _, .cons h r, s => .cons h (DenL.append r s)
theorem DenL.one {v : V} {d : D} (h : Den K H v d) : DenL K H [v] [d] := .cons h .nil
theorem DenL.take : ∀ {vs : List V} {ds : List D} (n : Nat), DenL K H vs ds → DenL K H (vs.take n) (ds.take n)
  | _, _, 0, _ => .nil
  | _, _, _ + 1, .nil => .nil
  | _, _, n + 1, .cons h r => .cons h (DenL.take n r)
theorem DenL.drop : ∀ {vs : List V} {ds : List D} (n : Nat), DenL K H vs ds → DenL K H (vs.drop n) (ds.drop n)
  | _, _, 0, r => r
  | _, _, _ + 1, .nil => .nil
  | _, _, n + 1, .cons _ r => DenL.drop n r
theorem DenL.set {v : V} {d : D} (h : Den K H v d) : ∀ {vs : List V} {ds : List D} (n : Nat), DenL K H vs ds → DenL K H (vs.set n v) (ds.set n d)
  | _, _, _, .nil => .nil
  | _, _, 0, .cons _ r => .cons h r
  | _, _, n + 1, .cons q r => .cons q (DenL.set h n r)
theorem DenL.reverse : ∀ {vs : List V} {ds : List D}, DenL K H vs ds → DenL K H vs.reverse ds.reverse
  | _, _, .nil => .nil
  | _, _, .cons h r => by
    rw [List.reverse_cons, List.reverse_cons]
    exact DenL.append (DenL.reverse r) (.one h)
theorem DenF.look : ∀ {fs : List (Str × V)} {gs : List (Str × D)} {f : Str} {d : D}, DenF K H fs gs → gs.lookup f = some d → ∃ v, fs.lookup f = some v ∧ Den K H v d
  | _, _, f, _, .nil, e => by simp at e
  | _, _, f, d, .cons (f := g) h r, e => by
    rw [List.lookup_cons] at e ⊢
    cases q : f == g with
    | true => rw [q] at e; cases e; exact ⟨_, rfl, h⟩
    | false => rw [q] at e; exact DenF.look r e
end
def hid (S : List Addr) (H : Hp) : Hp := fun a => if a ∈ S then none else H a
def Sub (S : List Addr) (H : Hp) : Prop := ∀ a ∈ S, H a ≠ none
section
variable {S T : List Addr} {H H1 H2 : Hp}
theorem hid_in {a : Addr} (m : a ∈ S) : hid S H a = none := if_pos m
theorem hid_no {a : Addr} (m : a ∉ S) : hid S H a = H a := if_neg m
theorem hid_at {a : Addr} {o : HO} (n : a ∉ S) (h : H a = some o) : hid S H a = some o := by
  rw [hid_no n]; exact h
theorem hid_out {a : Addr} {o : HO} (h : hid S H a = some o) : a ∉ S ∧ H a = some o := by
  by_cases m : a ∈ S
  · rw [hid_in m] at h; cases h
  · rw [hid_no m] at h; exact ⟨m, h⟩
theorem hid_ex (e : Ex H H1) : Ex (hid S H) (hid S H1) := fun a o h => by
  obtain ⟨m, h⟩ := hid_out h
  rw [hid_no m]; exact e a o h
theorem hid_le : Ex (hid S H) H := fun a o h => by
  obtain ⟨m, h⟩ := hid_out h
  rw [h]; exact Keep.same o
theorem hid_sub (s : ∀ a ∈ T, a ∈ S) : Ex (hid S H) (hid T H) := fun a o h => by
  obtain ⟨m, h⟩ := hid_out h
  rw [hid_at (fun z => m (s a z)) h]; exact Keep.same o
theorem Sub.mono (s : Sub S H) (e : Ex H H1) : Sub S H1 := fun a m z => by
  cases q : H a with
  | none => exact s a m q
  | some o =>
    obtain ⟨o', h⟩ := (e a o q).there
    rw [h] at z; cases z
theorem Sub.new (s : Sub S H) {p : Addr} (n : H p = none) : p ∉ S := fun m => s p m n
theorem hid_fresh {p : Addr} (n : H p = none) (e : Ex H H1) : Ex (hid S H) (hid (p :: S) H1) := fun a o q => by
  obtain ⟨m, q⟩ := hid_out q
  rw [hid_no fun z => ?_]
  · exact e a o q
  · rcases List.mem_cons.mp z with z | z
    · rw [z, n] at q; cases q
    · exact m z
theorem ex_none (e : Ex H H1) {p : Addr} (h : H1 p = none) : H p = none := by
  cases q : H p with
  | none => rfl
  | some o =>
    obtain ⟨o', h'⟩ := (e p o q).there
    rw [h'] at h; cases h
end
inductive Res (α : Type) where
  | ok (a : α) | err (c : Str) | stuck
def Res.bind {α β : Type} : Res α → (α → Res β) → Res β
  | .ok a, f => f a
  | .err c, _ => .err c
  | .stuck, _ => .stuck
def Res.map {α β : Type} (f : α → β) : Res α → Res β
  | .ok a => .ok (f a)
  | .err c => .err c
  | .stuck => .stuck
instance : Monad Res where
  pure := .ok
  bind := Res.bind
@[simp] theorem bind_ok {α β : Type} (a : α) (f : α → Res β) : Res.bind (.ok a) f = f a := rfl
@[simp] theorem bind_err {α β : Type} (c : Str) (f : α → Res β) : Res.bind (.err c) f = .err c := rfl
@[simp] theorem bind_stuck {α β : Type} (f : α → Res β) : Res.bind (.stuck) f = .stuck := rfl
@[simp] theorem map_ok {α β : Type} (a : α) (f : α → β) : Res.map f (.ok a) = .ok (f a) := rfl
@[simp] theorem map_err {α β : Type} (c : Str) (f : α → β) : Res.map f (.err c) = .err c := rfl
@[simp] theorem map_stuck {α β : Type} (f : α → β) : Res.map f (.stuck) = .stuck := rfl
/-- the names' values, by slot -/
abbrev Sl := List (Option D)
/-- the wish about exceptions, by the class's name -/
structure Wi where
  f : Str → L2.St → Hp → Prop
  /-- the tables of the text's defs -/
  tb : List Addr
instance : CoeFun Wi (fun _ => Str → L2.St → Hp → Prop) := ⟨Wi.f⟩
abbrev EE := Sl → Res D
abbrev EB := Sl → Res Bool
abbrev EL := Sl → Res (List D)
structure EnvOk (K : PySem.W.Frag) (tb : List Addr) (R : List Nat) (env : Sl) (σ : L2.St) (H : Hp) : Prop where
  len : env.length = σ.length
  tab : ∀ P ∈ tb, GxR.TabG H P
  get : ∀ i ∈ R, ∀ d, env[i]? = some (some d) → ∃ v, σ[i]? = some (some v) ∧ Den K H v d
section
variable {K : PySem.W.Frag} {tb : List Addr} {R Ra Rb : List Nat} {env : Sl} {σ : L2.St} {H H1 : Hp}
theorem EnvOk.mono (o : EnvOk K tb R env σ H) (e : Ex H H1) : EnvOk K tb R env σ H1 := ⟨o.len, fun P m => e.tab (o.tab P m), fun i m d h => by
  obtain ⟨v, a, b⟩ := o.get i m d h
  exact ⟨v, a, b.mono e⟩⟩
theorem EnvOk.left (o : EnvOk K tb (Ra ++ Rb) env σ H) : EnvOk K tb Ra env σ H := ⟨o.len, o.tab, fun i m => o.get i (List.mem_append_left _ m)⟩
theorem EnvOk.right (o : EnvOk K tb (Ra ++ Rb) env σ H) : EnvOk K tb Rb env σ H := ⟨o.len, o.tab, fun i m => o.get i (List.mem_append_right _ m)⟩
end
def Post {α β : Type} (Rel : Hp → β → α → Prop) (w : Wi) (S : List Addr) (σ : L2.St) (H : Hp) (Q : β → Hp → Prop) : Res α → Prop
  | .ok a => ∀ b H1, Ex H H1 → Rel (hid S H1) b a → Q b H1
  | .err c => ∀ H1, Ex H H1 → w c σ H1
  | .stuck => False
section
variable {α β γ δ : Type} {Rel : Hp → β → α → Prop} {Rel2 : Hp → δ → γ → Prop} {w : Wi} {S : List Addr} {σ : L2.St} {H H1 : Hp} {Q : β → Hp → Prop} {Q2 : δ → Hp → Prop}
theorem Post.mono {r : Res α} (h : Post Rel w S σ H Q r) (e : Ex H H1) : Post Rel w S σ H1 Q r := by
  cases r with
  | ok a => exact fun b H2 e2 r => h b H2 (e.trans e2) r
  | err c => exact fun H2 e2 => h H2 (e.trans e2)
  | stuck => exact h
theorem Post.bind {r : Res α} {k : α → Res γ} (h : Post Rel2 w S σ H Q2 (r.bind k)) (hk : ∀ a, r = .ok a → ∀ b H1, Ex H H1 → Rel (hid S H1) b a → Post Rel2 w S σ H1 Q2 (k a) → Q b H1) : Post Rel w S σ H Q r := by
  cases r with
  | ok a => exact fun b H1 e r => hk a rfl b H1 e r (Post.mono (r := k a) h e)
  | err c => exact h
  | stuck => exact h
theorem Post.map {r : Res α} {k : α → γ} (h : Post Rel2 w S σ H Q2 (r.map k)) (hk : ∀ a, r = .ok a → ∀ b H1, Ex H H1 → Rel (hid S H1) b a → (∀ d H2, Ex H1 H2 → Rel2 (hid S H2) d (k a) → Q2 d H2) → Q b H1) : Post Rel w S σ H Q r := by
  cases r with
  | ok a => exact fun b H1 e r => hk a rfl b H1 e r fun d H2 e2 r2 => h d H2 (e.trans e2) r2
  | err c => exact h
  | stuck => exact h
theorem Post.okay {a : α} {b : β} (h : Post Rel w S σ H Q (.ok a)) (r : Rel (hid S H) b a) : Q b H := h b H (Ex.refl H) r
end
/-- the reading that data give -/
def tS {α β : Type} (Rel : Hp → β → α → Prop) (K : PySem.W.Frag) (w : Wi) (R : List Nat) (f : Sl → Res α) : L2.St → Hp → (β → Hp → Prop) → Prop :=
  fun σ H Q => ∃ (S : List Addr) (env : Sl), Sub S H ∧ EnvOk K w.tb R env σ (hid S H) ∧ Post Rel w S σ H Q (f env)
abbrev isB : Hp → Bool → Bool → Prop := fun _ b a => b = a
abbrev isO : Hp → Option Int → Option Int → Prop := fun _ b a => b = a
abbrev DE (X : Cx) (w : Wi) (R : List Nat) (e : Expr) (f : EE) : Prop := PE X e (tS (Den X.K) X.K w R f)
abbrev DT (X : Cx) (w : Wi) (R : List Nat) (e : Expr) (f : EB) : Prop := PT X e (tS isB X.K w R f)
abbrev DW (X : Cx) (w : Wi) (R : List Nat) (e : Expr) (f : EB) : Prop := PW X e (tS isB X.K w R f)
structure DA (X : Cx) (w : Wi) (R : List Nat) (es : List Expr) (f : EL) : Prop where
  pa : PA X es (tS (DenL X.K) X.K w R f)
  len : ∀ env ds, f env = .ok ds → ds.length = es.length
abbrev DP (X : Cx) (w : Wi) (R : List Nat) (e : Option Expr) (f : Sl → Res (Option Int)) : Prop := PO X e (tS isO X.K w R f)
/-- a new list -/
def PostF (K : PySem.W.Frag) (w : Wi) (S : List Addr) (σ : L2.St) (H : Hp) (Q : VK) : Res (List D) → Prop
  | .ok ds => ∀ p vs H1, H p = none → Ex H H1 → H1 p = some (.lst vs) → DenL K (hid (p :: S) H1) vs ds → Q (.ref p) H1
  | .err c => ∀ H1, Ex H H1 → w c σ H1
  | .stuck => False
def tF (K : PySem.W.Frag) (w : Wi) (R : List Nat) (f : EL) : TE := fun σ H Q => ∃ (S : List Addr) (env : Sl), Sub S H ∧ EnvOk K w.tb R env σ (hid S H) ∧ PostF K w S σ H Q (f env)
abbrev DL (X : Cx) (w : Wi) (R : List Nat) (e : Expr) (f : EL) : Prop := PE X e (tF X.K w R f)
theorem PE.weak {X : Cx} {e : Expr} {t t' : TE} (h : PE X e t) (i : ∀ σ H Q, t' σ H Q → t σ H Q) : PE X e t' := ⟨fun pins s σ H Q I q => h.run pins s σ H Q I (i σ H Q q)⟩
theorem PT.weak {X : Cx} {e : Expr} {t t' : TT} (h : PT X e t) (i : ∀ σ H Q, t' σ H Q → t σ H Q) : PT X e t' := ⟨fun pins s σ H Q I q => h.run pins s σ H Q I (i σ H Q q)⟩
theorem PW.weak {X : Cx} {e : Expr} {t t' : TT} (h : PW X e t) (i : ∀ σ H Q, t' σ H Q → t σ H Q) : PW X e t' := ⟨fun wh pins s σ H Q I q => h.run wh pins s σ H Q I (i σ H Q q)⟩
theorem PA.weak {X : Cx} {e : List Expr} {t t' : TA} (h : PA X e t) (i : ∀ σ H Q, t' σ H Q → t σ H Q) : PA X e t' := ⟨fun po pins s σ H Q I q => h.run po pins s σ H Q I (i σ H Q q)⟩
theorem PO.weak {X : Cx} {e : Option Expr} {t t' : TO} (h : PO X e t) (i : ∀ σ H Q, t' σ H Q → t σ H Q) : PO X e t' := ⟨fun pins s σ H Q I q => h.run pins s σ H Q I (i σ H Q q)⟩
theorem PS.weak {X : Cx} {e : Stmt} {t t' : TS} (h : PS X e t) (i : ∀ D σ H, t' D σ H → t D σ H) : PS X e t' := ⟨fun pins s σ H D I q => h.run pins s σ H D I (i D σ H q)⟩
theorem PSs.weak {X : Cx} {e : List Stmt} {t t' : TS} (h : PSs X e t) (i : ∀ D σ H, t' D σ H → t D σ H) : PSs X e t' := ⟨fun pins s σ H D I q => h.run pins s σ H D I (i D σ H q)⟩
end Dx
set_option Elab.async false
set_option linter.all false
set_option maxRecDepth 100000
set_option maxHeartbeats 4000000
namespace Dx
open PySem PySem.Spec PyProof.Rows L2
def eVar (i : Nat) : EE := fun env => match env[i]? with
  | some (some d) => .ok d
  | _ => .stuck
def eC (d : D) : EE := fun _ => .ok d
section
variable {X : Cx} {w : Wi} {R Ra Rb Rc : List Nat} {a b c e : Expr} {f f1 f2 f3 : EE} {pos : Pos}
theorem de_var (i : Nat) {x : Str} (hN : X.N[i]? = some x := by rfl) (hv : Vis X.env.scope x := by first | exact Or.inl rfl | exact Or.inr (Or.inl rfl) | exact Or.inr (Or.inr rfl)) (hd : (x == ("__debug__" : Str)) = false := by decide)
    (hcd : (x == ("__classdict__" : Str)) = false := by decide) : DE X w [i] (.Name x pos) (eVar i) :=
  PE.weak (pe_var hN hv hd hcd) fun σ H Q ⟨S, env, sub, ok, po⟩ => by
    unfold eVar at po
    split at po
    · rename_i d h
      obtain ⟨v, hv, dv⟩ := ok.get i (List.mem_singleton.mpr rfl) d h
      exact ⟨v, hv, po.okay dv⟩
    · exact po.elim
theorem const_of {v : V} {d : D} (h : PE X e (tC v)) (hd : ∀ H, Den X.K H v d) : DE X w [] e (eC d) := PE.weak h fun σ H Q ⟨S, env, sub, ok, po⟩ => Post.okay (Rel := Den X.K) po (hd _)
theorem de_int {i : Int} {j : Nat} : DE X w [] (.Constant (.int i) j pos) (eC (.int i)) := const_of pe_int fun _ => .int i
theorem de_bl {i : Bool} {j : Nat} : DE X w [] (.Constant (.bool i) j pos) (eC (.bl i)) := const_of pe_bl fun _ => .bl i
theorem de_non {j : Nat} : DE X w [] (.Constant .none j pos) (eC .non) := const_of pe_non fun _ => .non
theorem de_str {x : Str} {j : Nat} : DE X w [] (.Constant (.str x) j pos) (eC (.str x)) := const_of pe_str fun _ => .str x
theorem de_glob {x : Str} {v : V} {u : Value} {d : D} (hm : X.mg x = some u) (r : RelV v u) (hd : ∀ H, Den X.K H v d) (hg : Gl X x := by rfl) (hdb : (x == ("__debug__" : Str)) = false := by decide) : DE X w [] (.Name x pos) (eC d) := const_of (pe_glob hg hm r hdb) hd
def eBin (g : D → D → Res D) (f1 f2 : EE) : EE := fun env => (f1 env).bind fun x => (f2 env).bind fun y => g x y
def eUn (g : D → Res D) (f : EE) : EE := fun env => (f env).bind g
abbrev PostV (K : PySem.W.Frag) (w : Wi) (S : List Addr) (σ : L2.St) (H : Hp) (Q : VK) (r : Res D) : Prop := Post (Den K) w S σ H Q r
/-- an operator's rule by values gives its data -/
def Op2 (K : PySem.W.Frag) (w : Wi) (r : R2) (g : D → D → Res D) : Prop :=
  ∀ (S : List Addr) (σ : L2.St) (H : Hp) (x y : V) (a b : D) (Q : VK), Sub S H → Den K (hid S H) x a → Den K (hid S H) y b → PostV K w S σ H Q (g a b) → r x y H Q
def Op1 (K : PySem.W.Frag) (w : Wi) (r : V → Hp → VK → Prop) (g : D → Res D) : Prop :=
  ∀ (S : List Addr) (σ : L2.St) (H : Hp) (x : V) (a : D) (Q : VK), Sub S H → Den K (hid S H) x a → PostV K w S σ H Q (g a) → r x H Q
theorem bin_of {r : R2} {g : D → D → Res D} (hr : Op2 X.K w r g) {σ : L2.St} {H : Hp} {Q : VK} (h : tS (Den X.K) X.K w (Ra ++ Rb) (eBin g f1 f2) σ H Q) : tOp r (tS (Den X.K) X.K w Ra f1) (tS (Den X.K) X.K w Rb f2) σ H Q := by
  obtain ⟨S, env, sub, ok, po⟩ := h
  refine ⟨S, env, sub, ok.left, Post.bind (Rel2 := Den X.K) (k := fun x => (f2 env).bind fun y => g x y) po fun x _ v H1 e1 d1 po1 => ?_⟩
  refine ⟨S, env, sub.mono e1, ok.right.mono (hid_ex e1), Post.bind (Rel2 := Den X.K) (k := fun y => g x y) po1 fun y _ u H2 e2 d2 po2 => ?_⟩
  exact hr S σ H2 v u x y Q ((sub.mono e1).mono e2) (d1.mono (hid_ex e2)) d2 po2
theorem de_bin {op : Operator} {r : R2} {g : D → D → Res D} (ho : OpR X (binaryOp op) r) (hr : Op2 X.K w r g) (ha : DE X w Ra a f1) (hb : DE X w Rb b f2) : DE X w (Ra ++ Rb) (.BinOp a op b pos) (eBin g f1 f2) :=
  PE.weak (pe_op ho ha hb) fun _ _ _ h => bin_of hr h
theorem de_cmp {op : CmpOp} {r : R2} {g : D → D → Res D} (ho : OpR X (compareOp op) r) (hr : Op2 X.K w r g) (ha : DE X w Ra a f1) (hb : DE X w Rb b f2) (hm : behindInMarks op b = false) : DE X w (Ra ++ Rb) (.Compare a [op] [b] pos) (eBin g f1 f2) :=
  PE.weak (pe_cmpR ho ha hb hm) fun _ _ _ h => bin_of hr h
theorem de_un {op : UnaryOp} {r : V → Hp → VK → Prop} {g : D → Res D} (ho : UnR X (unaryOp op) r) (hr : Op1 X.K w r g) (ha : DE X w R a f) : DE X w R (.UnaryOp op a pos) (eUn g f) :=
  PE.weak (pe_un ho ha) fun σ H Q ⟨S, env, sub, ok, po⟩ => ⟨S, env, sub, ok, Post.bind (Rel2 := Den X.K) po fun x _ v H1 e1 d1 po1 => hr S σ H1 v x Q (sub.mono e1) d1 po1⟩
/-- how a value lies: what the data say -/
theorem den_int {K : PySem.W.Frag} {H : Hp} {v : V} {i : Int} (h : Den K H v (.int i)) : v = .int i := by cases h; rfl
theorem den_str {K : PySem.W.Frag} {H : Hp} {v : V} {i : Str} (h : Den K H v (.str i)) : v = .str i := by cases h; rfl
theorem den_bl {K : PySem.W.Frag} {H : Hp} {v : V} {i : Bool} (h : Den K H v (.bl i)) : v = .bl i := by cases h; rfl
theorem den_non {K : PySem.W.Frag} {H : Hp} {v : V} (h : Den K H v .non) : v = .non := by cases h; rfl
theorem den_lst {K : PySem.W.Frag} {H : Hp} {v : V} {ds : List D} (h : Den K H v (.lst ds)) : ∃ a xs, v = .ref a ∧ H a = some (.lst xs) ∧ DenL K H xs ds := by cases h with | lst h r => exact ⟨_, _, rfl, h, r⟩
theorem den_tup {K : PySem.W.Frag} {H : Hp} {v : V} {ds : List D} (h : Den K H v (.tup ds)) : ∃ a xs, v = .ref a ∧ SqT K H a xs ∧ DenL K H xs ds := by cases h with | tup h r => exact ⟨_, _, rfl, h, r⟩
theorem den_fz {K : PySem.W.Frag} {H : Hp} {v : V} {ds : List D} (h : Den K H v (.fz ds)) : ∃ a xs, v = .ref a ∧ SqL K H a xs ∧ DenL K H xs ds := by cases h with | fz h r => exact ⟨_, _, rfl, h, r⟩
theorem den_obj {K : PySem.W.Frag} {H : Hp} {v : V} {C : Str} {gs : List (Str × D)} (h : Den K H v (.obj C gs)) : ∃ a dx fs, v = .ref a ∧ H a = some (.ins (He.ga K C) dx fs) ∧ DenF K H fs gs := by cases h with | obj h r => exact ⟨_, _, _, rfl, h, r⟩
end
/-- a list or tuple, small enough to be joined, copied -/
def lim {α : Type} (n : Nat) (r : Res α) : Res α := if n ≤ 100000 then r else .stuck
theorem lim_ok {α : Type} {n : Nat} {r : Res α} (h : n ≤ 100000) : lim n r = r := if_pos h
theorem Post.lim {α β : Type} {Rel : Hp → β → α → Prop} {w : Wi} {S : List Addr} {σ : L2.St} {H : Hp} {Q : β → Hp → Prop} {n : Nat} {r : Res α} (h : Post Rel w S σ H Q (lim n r)) : n ≤ sizeLine ∧ Post Rel w S σ H Q r := by
  unfold Dx.lim at h
  split at h
  · exact ⟨Evl.sz_of (by assumption), h⟩
  · exact h.elim
namespace D
def add : D → D → Res D
  | .int i, .int j => .ok (.int (i + j))
  | .str x, .str y => lim (x.length + y.length) (.ok (.str (x ++ y)))
  | .lst x, .lst y => lim (x.length + y.length) (.ok (.lst (x ++ y)))
  | .tup x, .tup y => lim (x.length + y.length) (if x = [] then .stuck else .ok (.tup (x ++ y)))
  | _, _ => .stuck
def sub : D → D → Res D
  | .int i, .int j => .ok (.int (i - j))
  | _, _ => .stuck
/-- one factor below 2 ^ 64 -/
def fits (i : Int) : Bool := decide (-(2 ^ 64) < i) && decide (i < 2 ^ 64)
def mul : D → D → Res D
  | .int i, .int j => if fits i || fits j then .ok (.int (i * j)) else .stuck
  | _, _ => .stuck
def fdiv : D → D → Res D
  | .int i, .int j => if 0 < j ∧ j < 1073741824 then .ok (.int (i / j)) else .stuck
  | _, _ => .stuck
def mod : D → D → Res D
  | .int i, .int j => if 0 < j then .ok (.int (i % j)) else .stuck
  | _, _ => .stuck
def neg : D → Res D
  | .int i => .ok (.int (-i))
  | _ => .stuck
def lt : D → D → Res D
  | .int i, .int j => .ok (.bl (decide (i < j)))
  | .str i, .str j => .ok (.bl (decide (i.cps.toList < j.cps.toList)))
  | _, _ => .stuck
def le : D → D → Res D
  | .int i, .int j => .ok (.bl (decide (i ≤ j)))
  | .str i, .str j => .ok (.bl (!decide (j.cps.toList < i.cps.toList)))
  | _, _ => .stuck
def gt : D → D → Res D
  | .int i, .int j => .ok (.bl (decide (j < i)))
  | _, _ => .stuck
def ge : D → D → Res D
  | .int i, .int j => .ok (.bl (decide (j ≤ i)))
  | _, _ => .stuck
def flat : D → Bool
  | .non => true
  | .bl _ => true
  | .int _ => true
  | .str _ => true
  | _ => false
/-- == of flat data -/
def eqF : D → D → Bool
  | .non, .non => true
  | .bl a, .bl b => a == b
  | .bl a, .int b => (if a then 1 else 0) == b
  | .int a, .bl b => a == (if b then 1 else 0)
  | .int a, .int b => a == b
  | .str a, .str b => a == b
  | _, _ => false
def isIn (x : D) (ds : List D) : Res Bool := if flat x && ds.all flat then .ok (ds.any fun y => eqF y x) else .stuck
def mem : D → D → Res Bool
  | x, .lst ds => isIn x ds
  | x, .tup ds => isIn x ds
  | x, .fz ds => isIn x ds
  | .str x, .str z => .ok (!(Builtin.Str.occurrences z x 0 z.length 1).isEmpty)
  | _, _ => .stuck
def inn (a b : D) : Res D := (mem a b).map .bl
def nin (a b : D) : Res D := (mem a b).map fun k => .bl (!k)
mutual
/-- without objects, n levels deep at most -/
def okd : Nat → D → Bool
  | _, .non => true
  | _, .bl _ => true
  | _, .int _ => true
  | _, .str x => x.cps.all (· < 0x110000)
  | n + 1, .lst xs => okdA n xs
  | n + 1, .tup xs => okdA n xs
  | n + 1, .fz xs => okdA n xs
  | _, _ => false
def okdA : Nat → List D → Bool
  | _, [] => true
  | n, x :: xs => okd n x && okdA n xs
end
mutual
def py : D → PyData
  | .non => .none
  | .bl b => .bool b
  | .int i => .int i
  | .str x => .str x
  | .lst xs => .list (pyA xs)
  | .tup xs => .tuple (pyA xs)
  | .fz xs => .list (pyA xs)
  | _ => .none
def pyA : List D → List PyData
  | [] => []
  | x :: xs => py x :: pyA xs
end
/-- == of data -/
def eqv (a b : D) : Bool := PyData.eqv a.py b.py
/-- texts alone, or data of any form -/
def okq (a b : D) : Bool := (match a, b with | .str _, .str _ => true | _, _ => false) || (okd 8 a && okd 8 b)
def eq (a b : D) : Res D := if okq a b then .ok (.bl (eqv a b)) else .stuck
def ne (a b : D) : Res D := if okq a b then .ok (.bl (!eqv a b)) else .stuck
end D
open D (okd okdA py pyA)
mutual
theorem okd_lay : ∀ (n : Nat) (d : D), okd n d = true → (py d).canLay0 = true ∧ (py d).depth ≤ n
  | _, .non, _ => ⟨rfl, Nat.zero_le _⟩
  | _, .bl _, _ => ⟨rfl, Nat.zero_le _⟩
  | _, .int _, _ => ⟨rfl, Nat.zero_le _⟩
  | _, .str x, h => ⟨by simpa [okd, py, PyData.canLay0, PyData.strOk] using h, Nat.zero_le _⟩
  | n + 1, .lst xs, h => by
    obtain ⟨a, b⟩ := okdA_lay n xs (by simpa [okd] using h)
    exact ⟨by simpa [py, PyData.canLay0] using a, by simpa [py, PyData.depth] using Nat.succ_le_succ b⟩
  | n + 1, .tup xs, h => by
    obtain ⟨a, b⟩ := okdA_lay n xs (by simpa [okd] using h)
    exact ⟨by simpa [py, PyData.canLay0] using a, by simpa [py, PyData.depth] using Nat.succ_le_succ b⟩
  | n + 1, .fz xs, h => by
    obtain ⟨a, b⟩ := okdA_lay n xs (by simpa [okd] using h)
    exact ⟨by simpa [py, PyData.canLay0] using a, by simpa [py, PyData.depth] using Nat.succ_le_succ b⟩
  | 0, .lst _, h => by simp [okd] at h
  | 0, .tup _, h => by simp [okd] at h
  | 0, .fz _, h => by simp [okd] at h
  | 0, .obj _ _, h => by simp [okd] at h
  | 0, .raw _, h => by simp [okd] at h
  | _ + 1, .obj _ _, h => by simp [okd] at h
  | _ + 1, .raw _, h => by simp [okd] at h
theorem okdA_lay : ∀ (n : Nat) (ds : List D), okdA n ds = true → PyData.canLayAll0 (pyA ds) = true ∧ PyData.depthAll (pyA ds) ≤ n
  | _, [], _ => ⟨rfl, Nat.zero_le _⟩
  | n, d :: ds, h => by
    rw [okdA, Bool.and_eq_true] at h
    obtain ⟨a1, b1⟩ := okd_lay n d h.1
    obtain ⟨a2, b2⟩ := okdA_lay n ds h.2
    exact ⟨by simp [pyA, PyData.canLayAll0, a1, a2], by simpa [pyA, PyData.depthAll] using Nat.max_le.mpr ⟨b1, b2⟩⟩
end
theorem okd_shaped {d : D} (h : okd 8 d = true) : SeqAt.shaped (py d) = true := by
  obtain ⟨a, b⟩ := okd_lay 8 d h
  unfold SeqAt.shaped
  rw [a, Bool.true_and]
  exact decide_eq_true (by omega)
section
variable {K : PySem.W.Frag} {H : Hp}
mutual
theorem Den.dp : ∀ {n : Nat} {v : V} {d : D}, Den K H v d → okd n d = true → Dp K H v (py d)
  | _, _, _, .non, _ => .non
  | _, _, _, .bl b, _ => .bl b
  | _, _, _, .int i, _ => .int i
  | _, _, _, .str x, _ => .str x
  | n + 1, _, _, .lst h r, o => .lst (.of h) (DenL.dp (n := n) r (by simpa [okd] using o))
  | n + 1, _, _, .tup h r, o => .tup h (DenL.dp (n := n) r (by simpa [okd] using o))
  | n + 1, _, _, .fz h r, o => .lst h (DenL.dp (n := n) r (by simpa [okd] using o))
  | 0, _, _, .lst h r, o => by simp [okd] at o
  | 0, _, _, .tup h r, o => by simp [okd] at o
  | 0, _, _, .fz h r, o => by simp [okd] at o
  | n, _, _, .obj h r, o => by cases n <;> simp [okd] at o
  | n, _, _, .raw v, o => by cases n <;> simp [okd] at o
theorem DenL.dp : ∀ {n : Nat} {vs : List V} {ds : List D}, DenL K H vs ds → okdA n ds = true → DpAll K H vs (pyA ds)
  | _, _, _, .nil, _ => .nil
  | n, _, _, .cons h r, o => by
    rw [okdA, Bool.and_eq_true] at o
    exact .cons (Den.dp h o.1) (DenL.dp r o.2)
end
end
end Dx
set_option Elab.async false
set_option linter.all false
set_option maxRecDepth 100000
set_option maxHeartbeats 4000000
namespace Dx
open PySem PySem.Spec PyProof.Rows L2
open D (okd okdA py pyA)
section
variable {X : Cx} {w : Wi} {K : PySem.W.Frag}
def rAdd4 (K : PySem.W.Frag) : R2 := fun x y H Q => rI0 (fun i j => .int (i + j)) x y H Q ∨ (∃ i j, x = .str i ∧ y = .str j ∧ i.length + j.length ≤ sizeLine ∧ Q (.str (i ++ j)) H) ∨ rCat x y H Q ∨ rCatT K x y H Q
theorem opr_add : OpR X (binaryOp .Add) (rAdd4 X.K) := op_add.or (op_add_str.or (op_cat.or op_catT))
theorem op2_add : Op2 K w (rAdd4 K) D.add := fun S σ H x y a b Q sub da db po => by
  cases a <;> cases b <;> first | exact po.elim | skip
  · exact .inl ⟨_, _, den_int da, den_int db, Post.okay (Rel := Den K) po (.int _)⟩
  · obtain ⟨h, po⟩ := Post.lim po
    exact .inr (.inl ⟨_, _, den_str da, den_str db, h, Post.okay (Rel := Den K) po (.str _)⟩)
  · obtain ⟨h, po⟩ := Post.lim po
    obtain ⟨p, xs, rfl, hp, rp⟩ := den_lst da
    obtain ⟨q, ys, rfl, hq, rq⟩ := den_lst db
    refine .inr (.inr (.inl ⟨p, q, xs, ys, rfl, rfl, (hid_out hp).2, (hid_out hq).2, by rw [rp.len, rq.len]; exact h, fun l hl => ?_⟩))
    have e : Ex H (upd H l (.lst (xs ++ ys))) := Ex.new hl
    exact po _ _ e (.lst (hid_at (sub.new hl) upd_same) ((rp.append rq).mono (hid_ex e)))
  · obtain ⟨h, po⟩ := Post.lim po
    obtain ⟨p, xs, rfl, hp, rp⟩ := den_tup da
    obtain ⟨q, ys, rfl, hq, rq⟩ := den_tup db
    split at po
    · exact po.elim
    · rename_i ne
      refine .inr (.inr (.inr ⟨p, q, xs, ys, rfl, rfl, ex_t hid_le hp, ex_t hid_le hq, fun z => ?_, by rw [rp.len, rq.len]; exact h, fun z => ?_, fun _ l hl => ?_⟩))
      · subst z
        cases rp
        exact ne rfl
      · subst z
        cases rq
        rw [List.append_nil] at po
        exact Post.okay (Rel := Den K) po (.tup hp rp)
      · have e : Ex H (upd H l (.tup (xs ++ ys))) := Ex.new hl
        exact po _ _ e (.tup (.of (hid_at (sub.new hl) upd_same)) ((rp.append rq).mono (hid_ex e)))
theorem op2_sub : Op2 K w (rI0 fun i j => .int (i - j)) D.sub := fun S σ H x y a b Q sub da db po => by
  cases a <;> cases b <;> first | exact po.elim | exact ⟨_, _, den_int da, den_int db, Post.okay (Rel := Den K) po (.int _)⟩
theorem fits_ok {i : Int} (h : D.fits i = true) : -(2 ^ 64) < i ∧ i < 2 ^ 64 := by
  unfold D.fits at h
  rw [Bool.and_eq_true] at h
  exact ⟨of_decide_eq_true h.1, of_decide_eq_true h.2⟩
theorem op2_mul : Op2 K w (rI CMul fun i j => .int (i * j)) D.mul := fun S σ H x y a b Q sub da db po => by
  cases a <;> cases b <;> first | exact po.elim | skip
  rename_i i j
  unfold D.mul at po
  by_cases c : (D.fits i || D.fits j) = true
  · simp only [c, if_true] at po
    refine ⟨_, _, den_int da, den_int db, ?_, Post.okay (Rel := Den K) po (.int _)⟩
    rw [Bool.or_eq_true] at c
    exact c.imp fits_ok fits_ok
  · simp only [c] at po
    exact po.elim
theorem op2_fdiv : Op2 K w (rI CDiv fun i j => .int (i / j)) D.fdiv := fun S σ H x y a b Q sub da db po => by
  cases a <;> cases b <;> first | exact po.elim | skip
  unfold D.fdiv at po
  dsimp only at po
  split at po
  · rename_i c
    exact ⟨_, _, den_int da, den_int db, c, Post.okay (Rel := Den K) po (.int _)⟩
  · exact po.elim
theorem op2_mod : Op2 K w (rI (fun _ j => 0 < j) fun i j => .int (i % j)) D.mod := fun S σ H x y a b Q sub da db po => by
  cases a <;> cases b <;> first | exact po.elim | skip
  unfold D.mod at po
  dsimp only at po
  split at po
  · rename_i c
    exact ⟨_, _, den_int da, den_int db, c, Post.okay (Rel := Den K) po (.int _)⟩
  · exact po.elim
theorem op1_neg : Op1 K w (rU fun i => .int (-i)) D.neg := fun S σ H x a Q sub da po => by
  cases a <;> first | exact po.elim | exact ⟨_, den_int da, Post.okay (Rel := Den K) po (.int _)⟩
def rLt2 : R2 := fun x y H Q => rI0 (fun i j => .bl (decide (i < j))) x y H Q ∨ ∃ i j, x = .str i ∧ y = .str j ∧ Q (.bl (decide (i.cps.toList < j.cps.toList))) H
theorem opr_lt : OpR X (compareOp .Lt) rLt2 := op_lt.or op_lt_str
theorem op2_lt : Op2 K w rLt2 D.lt := fun S σ H x y a b Q sub da db po => by
  cases a <;> cases b <;> first | exact po.elim | exact .inl ⟨_, _, den_int da, den_int db, Post.okay (Rel := Den K) po (.bl _)⟩ | exact .inr ⟨_, _, den_str da, den_str db, Post.okay (Rel := Den K) po (.bl _)⟩
def rLe2 : R2 := fun x y H Q => rI0 (fun i j => .bl (decide (i ≤ j))) x y H Q ∨ ∃ i j, x = .str i ∧ y = .str j ∧ Q (.bl (!decide (j.cps.toList < i.cps.toList))) H
theorem opr_le : OpR X (compareOp .LtE) rLe2 := op_le.or op_le_str
theorem op2_le : Op2 K w rLe2 D.le := fun S σ H x y a b Q sub da db po => by
  cases a <;> cases b <;> first | exact po.elim | exact .inl ⟨_, _, den_int da, den_int db, Post.okay (Rel := Den K) po (.bl _)⟩ | exact .inr ⟨_, _, den_str da, den_str db, Post.okay (Rel := Den K) po (.bl _)⟩
theorem op2_gt : Op2 K w (rI0 fun i j => .bl (decide (j < i))) D.gt := fun S σ H x y a b Q sub da db po => by
  cases a <;> cases b <;> first | exact po.elim | exact ⟨_, _, den_int da, den_int db, Post.okay (Rel := Den K) po (.bl _)⟩
theorem flat_den {H : Hp} {v : V} {d : D} (h : Den K H v d) (f : D.flat d = true) : flatV v = true := by
  cases h <;> first | rfl | exact absurd f Bool.false_ne_true
theorem eqF_den {H : Hp} {v u : V} {d c : D} (h : Den K H v d) (f : D.flat d = true) (h' : Den K H u c) (f' : D.flat c = true) : eqV v u = D.eqF d c := by
  cases h <;> first | exact absurd f Bool.false_ne_true | (cases h' <;> first | exact absurd f' Bool.false_ne_true | rfl)
theorem flats_den {H : Hp} : ∀ {vs : List V} {ds : List D}, DenL K H vs ds → ds.all D.flat = true → vs.all flatV = true
  | _, _, .nil, _ => rfl
  | _, _, .cons h r, f => by
    rw [List.all_cons, Bool.and_eq_true] at f ⊢
    exact ⟨flat_den h f.1, flats_den r f.2⟩
theorem inV_den {H : Hp} {x : V} {a : D} (h : Den K H x a) (f : D.flat a = true) : ∀ {vs : List V} {ds : List D}, DenL K H vs ds → ds.all D.flat = true → inV x vs = ds.any fun y => D.eqF y a
  | _, _, .nil, _ => rfl
  | _, _, .cons h' r, g => by
    rw [List.all_cons, Bool.and_eq_true] at g
    show (eqV _ x || inV x _) = _
    rw [List.any_cons, eqF_den h' g.1 h f, inV_den h f r g.2]
def rIn2 (K : PySem.W.Frag) : R2 := fun x y H Q => rIn K false x y H Q ∨ ∃ i j, x = .str i ∧ y = .str j ∧ Q (.bl (!(Builtin.Str.occurrences j i 0 j.length 1).isEmpty)) H
def rNin2 (K : PySem.W.Frag) : R2 := fun x y H Q => rIn K true x y H Q ∨ ∃ i j, x = .str i ∧ y = .str j ∧ Q (.bl (!(!(Builtin.Str.occurrences j i 0 j.length 1).isEmpty))) H
theorem opr_in : OpR X (compareOp .In) (rIn2 X.K) := op_in_seq.or op_in_str
theorem opr_nin : OpR X (compareOp .NotIn) (rNin2 X.K) := op_notIn_seq.or op_notin_str
theorem seq_of {S : List Addr} {H : Hp} {y : V} {b : D} {ds : List D} (h : b = .lst ds ∨ b = .tup ds ∨ b = .fz ds) (db : Den K (hid S H) y b) : ∃ p xs, y = .ref p ∧ (SqL K H p xs ∨ SqT K H p xs) ∧ DenL K (hid S H) xs ds := by
  rcases h with rfl | rfl | rfl
  · obtain ⟨p, xs, rfl, hp, rp⟩ := den_lst db
    exact ⟨p, xs, rfl, .inl (.of (hid_out hp).2), rp⟩
  · obtain ⟨p, xs, rfl, hp, rp⟩ := den_tup db
    exact ⟨p, xs, rfl, .inr (ex_t hid_le hp), rp⟩
  · obtain ⟨p, xs, rfl, hp, rp⟩ := den_fz db
    exact ⟨p, xs, rfl, .inl (ex_l hid_le hp), rp⟩
theorem isIn_den {S : List Addr} {σ : L2.St} {H : Hp} {x y : V} {a b : D} {ds : List D} {Q : VK} {k : Bool → D} (h : b = .lst ds ∨ b = .tup ds ∨ b = .fz ds) (da : Den K (hid S H) x a) (db : Den K (hid S H) y b) (po : PostV K w S σ H Q ((D.isIn a ds).map k)) :
    ∃ p xs, y = .ref p ∧ (SqL K H p xs ∨ SqT K H p xs) ∧ flatV x = true ∧ xs.all flatV = true ∧ PostV K w S σ H Q (.ok (k (inV x xs))) := by
  obtain ⟨p, xs, rfl, hp, rp⟩ := seq_of h db
  unfold D.isIn at po
  by_cases c : (D.flat a && ds.all D.flat) = true
  · rw [if_pos c] at po
    rw [Bool.and_eq_true] at c
    exact ⟨p, xs, rfl, hp, flat_den da c.1, flats_den rp c.2, by rw [inV_den da c.1 rp c.2]; exact po⟩
  · rw [if_neg c] at po
    exact po.elim
theorem op2_in : Op2 K w (rIn2 K) D.inn := fun S σ H x y a b Q sub da db po => by
  have seq : ∀ ds, (b = .lst ds ∨ b = .tup ds ∨ b = .fz ds) → PostV K w S σ H Q ((D.isIn a ds).map .bl) → rIn2 K x y H Q := fun ds h po => by
    obtain ⟨p, xs, e, hp, f1, f2, po⟩ := isIn_den h da db po
    exact .inl ⟨p, xs, e, hp, f1, f2, Post.okay (Rel := Den K) po (.bl _)⟩
  cases b with
  | lst ds => exact seq ds (.inl rfl) (by cases a <;> exact po)
  | tup ds => exact seq ds (.inr (.inl rfl)) (by cases a <;> exact po)
  | fz ds => exact seq ds (.inr (.inr rfl)) (by cases a <;> exact po)
  | str z =>
    cases a <;> first | exact po.elim | skip
    exact .inr ⟨_, _, den_str da, den_str db, Post.okay (Rel := Den K) po (.bl _)⟩
  | _ => cases a <;> exact po.elim
theorem op2_nin : Op2 K w (rNin2 K) D.nin := fun S σ H x y a b Q sub da db po => by
  have seq : ∀ ds, (b = .lst ds ∨ b = .tup ds ∨ b = .fz ds) → PostV K w S σ H Q ((D.isIn a ds).map fun k => .bl (!k)) → rNin2 K x y H Q := fun ds h po => by
    obtain ⟨p, xs, e, hp, f1, f2, po⟩ := isIn_den h da db po
    exact .inl ⟨p, xs, e, hp, f1, f2, Post.okay (Rel := Den K) po (.bl _)⟩
  cases b with
  | lst ds => exact seq ds (.inl rfl) (by cases a <;> exact po)
  | tup ds => exact seq ds (.inr (.inl rfl)) (by cases a <;> exact po)
  | fz ds => exact seq ds (.inr (.inr rfl)) (by cases a <;> exact po)
  | str z =>
    cases a <;> first | exact po.elim | skip
    exact .inr ⟨_, _, den_str da, den_str db, Post.okay (Rel := Den K) po (.bl _)⟩
  | _ => cases a <;> exact po.elim
def rEq2 (K : PySem.W.Frag) : R2 := fun x y H Q => rEq x y H Q ∨ rEqD K x y H Q
def rNe2 (K : PySem.W.Frag) : R2 := fun x y H Q => rNe x y H Q ∨ rNeD K x y H Q
theorem opr_eq (hu : X.A.units + 64 < cLine) : OpR X (compareOp .Eq) (rEq2 X.K) := op_eq.or (op_eqD hu)
theorem opr_ne (hu : X.A.units + 64 < cLine) : OpR X (compareOp .NotEq) (rNe2 X.K) := op_ne.or (op_neD hu)
theorem okq_cases {a b : D} (h : D.okq a b = true) : (∃ x y, a = .str x ∧ b = .str y) ∨ (okd 8 a = true ∧ okd 8 b = true) := by
  unfold D.okq at h
  rw [Bool.or_eq_true, Bool.and_eq_true] at h
  rcases h with h | h
  · split at h
    · exact .inl ⟨_, _, rfl, rfl⟩
    · cases h
  · exact .inr h
theorem eqv_str (x y : Str) : D.eqv (.str x) (.str y) = (x == y) := by simp [D.eqv, D.py, PyData.eqv]
theorem op2_eq : Op2 K w (rEq2 K) D.eq := fun S σ H x y a b Q sub da db po => by
  unfold D.eq at po
  by_cases c : D.okq a b = true
  · rw [if_pos c] at po
    have q := Post.okay (Rel := Den K) po (.bl _)
    rcases okq_cases c with ⟨i, j, rfl, rfl⟩ | ⟨h1, h2⟩
    · refine .inl ?_
      rw [den_str da, den_str db]
      refine ⟨rfl, ?_⟩
      rw [dec_str, ← eqv_str]
      exact q
    · exact .inr ⟨_, _, Den.dp (da.mono hid_le) h1, Den.dp (db.mono hid_le) h2, okd_shaped h1, okd_shaped h2, q⟩
  · rw [if_neg c] at po
    exact po.elim
theorem op2_ne : Op2 K w (rNe2 K) D.ne := fun S σ H x y a b Q sub da db po => by
  unfold D.ne at po
  by_cases c : D.okq a b = true
  · rw [if_pos c] at po
    have q := Post.okay (Rel := Den K) po (.bl _)
    rcases okq_cases c with ⟨i, j, rfl, rfl⟩ | ⟨h1, h2⟩
    · refine .inl ?_
      rw [den_str da, den_str db]
      refine ⟨rfl, ?_⟩
      rw [dec_str, ← eqv_str]
      exact q
    · exact .inr ⟨_, _, Den.dp (da.mono hid_le) h1, Den.dp (db.mono hid_le) h2, okd_shaped h1, okd_shaped h2, q⟩
  · rw [if_neg c] at po
    exact po.elim
end
section
variable {X : Cx} {w : Wi} {Ra Rb : List Nat} {a b : Expr} {f f1 f2 : EE} {pos : Pos} {k : Nat}
theorem de_add (ha : DE X w Ra a f1) (hb : DE X w Rb b f2) : DE X w (Ra ++ Rb) (.BinOp a .Add b pos) (eBin D.add f1 f2) := de_bin opr_add op2_add ha hb
theorem de_sub (ha : DE X w Ra a f1) (hb : DE X w Rb b f2) : DE X w (Ra ++ Rb) (.BinOp a .Sub b pos) (eBin D.sub f1 f2) := de_bin op_sub op2_sub ha hb
theorem de_mul (ha : DE X w Ra a f1) (hb : DE X w Rb b f2) : DE X w (Ra ++ Rb) (.BinOp a .Mult b pos) (eBin D.mul f1 f2) := de_bin op_mul op2_mul ha hb
theorem de_fdiv (ha : DE X w Ra a f1) (hb : DE X w Rb b f2) : DE X w (Ra ++ Rb) (.BinOp a .FloorDiv b pos) (eBin D.fdiv f1 f2) := de_bin op_fdiv op2_fdiv ha hb
theorem de_mod (ha : DE X w Ra a f1) (hb : DE X w Rb b f2) : DE X w (Ra ++ Rb) (.BinOp a .Mod b pos) (eBin D.mod f1 f2) := de_bin op_mod op2_mod ha hb
theorem de_neg (ha : DE X w Ra a f) : DE X w Ra (.UnaryOp .USub a pos) (eUn D.neg f) := de_un un_neg op1_neg ha
theorem de_gt (ha : DE X w Ra a f1) (hb : DE X w Rb b f2) : DE X w (Ra ++ Rb) (.Compare a [.Gt] [b] pos) (eBin D.gt f1 f2) := de_cmp op_gt op2_gt ha hb (nomark _)
theorem de_eq (hr : Room k X.A) (ha : DE X w Ra a f1) (hb : DE X w Rb b f2) : DE X w (Ra ++ Rb) (.Compare a [.Eq] [b] pos) (eBin D.eq f1 f2) := de_cmp (opr_eq hr.units) op2_eq ha hb (nomark _)
end
end Dx
set_option Elab.async false
set_option linter.all false
set_option maxRecDepth 100000
set_option maxHeartbeats 4000000
namespace Dx
open PySem PySem.Spec PyProof.Rows L2
open D (okd okdA py pyA)
namespace D
def isBl : D → Res Bool
  | .bl b => .ok b
  | _ => .stuck
def truth : D → Res Bool
  | .non => .ok false
  | .bl b => .ok b
  | .int i => .ok (i != 0)
  | .str y => lim y.length (.ok ((y.length : Int) != 0))
  | .lst xs => .ok (!xs.isEmpty)
  | .tup xs => .ok (!xs.isEmpty)
  | .fz xs => .ok (!xs.isEmpty)
  | _ => .stuck
def nt : D → Res D
  | .bl b => .ok (.bl (!b))
  | _ => .stuck
end D
def eTest (f : EE) : EB := fun env => (f env).bind D.isBl
def eTruth (f : EE) : EB := fun env => (f env).bind D.truth
def eNotB (f : EB) : EB := fun env => (f env).map (!·)
def eAndB (f g : EB) : EB := fun env => (f env).bind fun b => if b = true then g env else .ok false
def eOrB (f g : EB) : EB := fun env => (f env).bind fun b => if b = true then .ok true else g env
def eAndV (f g : EE) : EE := fun env => (f env).bind fun d => (D.isBl d).bind fun b => if b = true then g env else .ok (.bl false)
def eOrV (f g : EE) : EE := fun env => (f env).bind fun d => (D.isBl d).bind fun b => if b = true then .ok (.bl true) else g env
def eIf (t : EB) (f g : EE) : EE := fun env => (t env).bind fun b => if b = true then f env else g env
def eChain (g g' : D → D → Res D) (f1 f2 f3 : EE) : EE := fun env => (f1 env).bind fun x => (f2 env).bind fun y => (g x y).bind fun z => (D.isBl z).bind fun b => if b = true then (f3 env).bind fun u => g' y u else .ok (.bl false)
section
variable {X : Cx} {w : Wi} {R Ra Rb Rc : List Nat} {a b c e : Expr} {rest : List Expr} {f f1 f2 f3 : EE} {t t1 t2 : EB} {pos : Pos} {k : Nat}
theorem isBl_ok {d : D} {γ δ : Type} {Rel : Hp → δ → γ → Prop} {w : Wi} {S : List Addr} {σ : L2.St} {H : Hp} {Q : δ → Hp → Prop} {k : Bool → Res γ} (po : Post Rel w S σ H Q ((D.isBl d).bind k)) : ∃ b, d = .bl b ∧ Post Rel w S σ H Q (k b) := by
  cases d <;> first | exact po.elim | exact ⟨_, rfl, po⟩
theorem dt_cmp {op : CmpOp} {r : R2} {g : D → D → Res D} (ho : OpR X (compareOp op) r) (hr : Op2 X.K w r g) (ha : DE X w Ra a f1) (hb : DE X w Rb b f2) (hm : behindInMarks op b = false) : DT X w (Ra ++ Rb) (.Compare a [op] [b] pos) (eTest (eBin g f1 f2)) :=
  PT.weak (pt_cmpR ho ha hb hm) fun σ H Q ⟨S, env, sub, ok, po⟩ => by
    refine bin_of hr ⟨S, env, sub, ok, Post.bind (Rel2 := isB) (k := D.isBl) po fun d _ v H1 e1 dv po1 => ?_⟩
    cases d <;> first | exact po1.elim | exact ⟨_, den_bl dv, Post.okay (Rel := isB) po1 rfl⟩
theorem dt_lt (ha : DE X w Ra a f1) (hb : DE X w Rb b f2) : DT X w (Ra ++ Rb) (.Compare a [.Lt] [b] pos) (eTest (eBin D.lt f1 f2)) := dt_cmp opr_lt op2_lt ha hb (nomark _)
theorem dt_gt (ha : DE X w Ra a f1) (hb : DE X w Rb b f2) : DT X w (Ra ++ Rb) (.Compare a [.Gt] [b] pos) (eTest (eBin D.gt f1 f2)) := dt_cmp op_gt op2_gt ha hb (nomark _)
theorem dt_in (ha : DE X w Ra a f1) (hb : DE X w Rb b f2) (hm : behindInMarks .In b = false := by rfl) : DT X w (Ra ++ Rb) (.Compare a [.In] [b] pos) (eTest (eBin D.inn f1 f2)) := dt_cmp opr_in op2_in ha hb hm
theorem dt_nin (ha : DE X w Ra a f1) (hb : DE X w Rb b f2) (hm : behindInMarks .NotIn b = false := by rfl) : DT X w (Ra ++ Rb) (.Compare a [.NotIn] [b] pos) (eTest (eBin D.nin f1 f2)) := dt_cmp opr_nin op2_nin ha hb hm
theorem dt_eq (hr : Room k X.A) (ha : DE X w Ra a f1) (hb : DE X w Rb b f2) : DT X w (Ra ++ Rb) (.Compare a [.Eq] [b] pos) (eTest (eBin D.eq f1 f2)) := dt_cmp (opr_eq hr.units) op2_eq ha hb (nomark _)
theorem dt_ne (hr : Room k X.A) (ha : DE X w Ra a f1) (hb : DE X w Rb b f2) : DT X w (Ra ++ Rb) (.Compare a [.NotEq] [b] pos) (eTest (eBin D.ne f1 f2)) := dt_cmp (opr_ne hr.units) op2_ne ha hb (nomark _)
/-- two comparisons in a row -/
theorem chain_of {r r' : R2} {g g' : D → D → Res D} (hr : Op2 X.K w r g) (hr' : Op2 X.K w r' g') {σ : L2.St} {H : Hp} {Q : VK} (h : tS (Den X.K) X.K w (Ra ++ (Rb ++ Rc)) (eChain g g' f1 f2 f3) σ H Q) :
    tChain r r' (tS (Den X.K) X.K w Ra f1) (tS (Den X.K) X.K w Rb f2) (tS (Den X.K) X.K w Rc f3) σ H Q := by
  obtain ⟨S, env, sub, ok, po⟩ := h
  unfold eChain at po
  refine ⟨S, env, sub, ok.left, Post.bind (Rel2 := Den X.K) po fun x _ v H1 e1 d1 po1 => ?_⟩
  refine ⟨S, env, sub.mono e1, ok.right.left.mono (hid_ex e1), Post.bind (Rel2 := Den X.K) po1 fun y _ u H2 e2 d2 po2 => ?_⟩
  have e12 := e1.trans e2
  refine hr S σ H2 v u x y _ ((sub.mono e1).mono e2) (d1.mono (hid_ex e2)) d2 (Post.bind (Rel2 := Den X.K) po2 fun z _ z' H3 e3 d3 po3 => ?_)
  obtain ⟨k, rfl, po3⟩ := isBl_ok po3
  refine ⟨k, den_bl d3, ?_⟩
  cases k with
  | false =>
    show Q (.bl false) H3
    exact Post.okay (Rel := Den X.K) po3 (.bl _)
  | true =>
    show tS (Den X.K) X.K w Rc f3 σ H3 _
    exact ⟨S, env, sub.mono (e12.trans e3), ok.right.right.mono (hid_ex (e12.trans e3)), Post.bind (Rel2 := Den X.K) po3 fun u' _ w' H4 e4 d4 po4 => hr' S σ H4 u w' y u' Q (sub.mono ((e12.trans e3).trans e4)) ((d2.mono (hid_ex e3)).mono (hid_ex e4)) d4 po4⟩
theorem de_chain {op op' : CmpOp} {r r' : R2} {g g' : D → D → Res D} (ho : OpR X (compareOp op) r) (ho' : OpR X (compareOp op') r') (hr : Op2 X.K w r g) (hr' : Op2 X.K w r' g') (ha : DE X w Ra a f1) (hb : DE X w Rb b f2) (hc : DE X w Rc c f3)
    (hm : lastMarks [op, op'] [b, c] = false := by with_unfolding_all rfl) : DE X w (Ra ++ (Rb ++ Rc)) (.Compare a [op, op'] [b, c] pos) (eChain g g' f1 f2 f3) :=
  PE.weak (pe_chain ho ho' ha hb hc hm) fun _ _ _ h => chain_of hr hr' h
theorem dt_chain {op op' : CmpOp} {r r' : R2} {g g' : D → D → Res D} (ho : OpR X (compareOp op) r) (ho' : OpR X (compareOp op') r') (hr : Op2 X.K w r g) (hr' : Op2 X.K w r' g') (ha : DE X w Ra a f1) (hb : DE X w Rb b f2) (hc : DE X w Rc c f3)
    (hm : lastMarks [op, op'] [b, c] = false := by with_unfolding_all rfl) : DT X w (Ra ++ (Rb ++ Rc)) (.Compare a [op, op'] [b, c] pos) (eTest (eChain g g' f1 f2 f3)) :=
  PT.weak (pt_chain ho ho' ha hb hc hm) fun σ H Q ⟨S, env, sub, ok, po⟩ => by
    refine chain_of hr hr' ⟨S, env, sub, ok, Post.bind (Rel2 := isB) (k := D.isBl) po fun d _ v H1 e1 dv po1 => ?_⟩
    cases d <;> first | exact po1.elim | exact ⟨_, den_bl dv, Post.okay (Rel := isB) po1 rfl⟩
theorem dt_truth (ha : DE X w R a f) (he : ∀ whole, isTrue a X.env whole = (do let v ← whole; standAt a.pos; holding [v] (truthy v)) := by intro _; rfl) : DT X w R a (eTruth f) :=
  PT.weak (pt_truth ha he) fun σ H Q ⟨S, env, sub, ok, po⟩ => by
    refine ⟨S, env, sub, ok, Post.bind (Rel2 := isB) (k := D.truth) po fun d _ v H1 e1 dv po1 => ?_⟩
    cases d with
    | non => exact ⟨_, by cases dv; rfl, Post.okay (Rel := isB) po1 rfl⟩
    | bl b => exact ⟨_, by cases dv; rfl, Post.okay (Rel := isB) po1 rfl⟩
    | int i => exact ⟨_, by cases dv; rfl, Post.okay (Rel := isB) po1 rfl⟩
    | str y =>
      obtain ⟨h, po1⟩ := Post.lim po1
      exact ⟨_, by cases dv; exact ⟨h, rfl⟩, Post.okay (Rel := isB) po1 rfl⟩
    | lst ds =>
      obtain ⟨p, xs, rfl, hp, rp⟩ := den_lst dv
      exact ⟨_, .inl ⟨xs, .of (hid_out hp).2, by cases rp <;> rfl⟩, Post.okay (Rel := isB) po1 rfl⟩
    | tup ds =>
      obtain ⟨p, xs, rfl, hp, rp⟩ := den_tup dv
      exact ⟨_, .inr (.inl ⟨xs, ex_t hid_le hp, by cases rp <;> rfl⟩), Post.okay (Rel := isB) po1 rfl⟩
    | fz ds =>
      obtain ⟨p, xs, rfl, hp, rp⟩ := den_fz dv
      exact ⟨_, .inl ⟨xs, ex_l hid_le hp, by cases rp <;> rfl⟩, Post.okay (Rel := isB) po1 rfl⟩
    | _ => exact po1.elim
theorem dt_not (h : DT X w R a t) : DT X w R (.UnaryOp .Not a pos) (eNotB t) := PT.weak (pt_not h) fun σ H Q ⟨S, env, sub, ok, po⟩ =>
  ⟨S, env, sub, ok, Post.map (Rel2 := isB) po fun b _ b' H1 e1 hb q => q (!b') H1 (Ex.refl _) (by rw [show b' = b from hb])⟩
theorem dw_or1 (h : DT X w R a t) : DW X w R (.BoolOp .Or [a] pos) t := pw_or1 h
theorem dw_or (ha : DT X w Ra a t1) (hb : DW X w Rb (.BoolOp .Or (b :: rest) pos) t2) : DW X w (Ra ++ Rb) (.BoolOp .Or (a :: b :: rest) pos) (eOrB t1 t2) := PW.weak (pw_or ha hb) fun σ H Q ⟨S, env, sub, ok, po⟩ =>
  ⟨S, env, sub, ok.left, Post.bind (Rel2 := isB) po fun b _ b' H1 e1 hb po1 => by
    cases (show b' = b from hb)
    cases b with
    | false => exact ⟨S, env, sub.mono e1, ok.right.mono (hid_ex e1), po1⟩
    | true => exact Post.okay (Rel := isB) po1 rfl⟩
theorem dt_bool (h : DW X w R e t) : DT X w R e t := PW.pt h
theorem de_one {op : BoolOp} (h : DE X w R a f) : DE X w R (.BoolOp op [a] pos) f := pe_one h
theorem de_and (ha : DE X w Ra a f1) (hb : DE X w Rb (.BoolOp .And (b :: rest) pos) f2) : DE X w (Ra ++ Rb) (.BoolOp .And (a :: b :: rest) pos) (eAndV f1 f2) := PE.weak (pe_and ha hb) fun σ H Q ⟨S, env, sub, ok, po⟩ =>
  ⟨S, env, sub, ok.left, Post.bind (Rel2 := Den X.K) po fun d _ v H1 e1 dv po1 => by
    obtain ⟨k, rfl, po1⟩ := isBl_ok po1
    refine ⟨k, den_bl dv, ?_⟩
    cases k with
    | true => exact ⟨S, env, sub.mono e1, ok.right.mono (hid_ex e1), po1⟩
    | false => exact Post.okay (Rel := Den X.K) po1 (.bl _)⟩
theorem de_not (ha : DE X w R a f) : DE X w R (.UnaryOp .Not a pos) (eUn D.nt f) := PE.weak (pe_not ha) fun σ H Q ⟨S, env, sub, ok, po⟩ =>
  ⟨S, env, sub, ok, Post.bind (Rel2 := Den X.K) po fun d _ v H1 e1 dv po1 => by
    cases d <;> first | exact po1.elim | exact ⟨_, den_bl dv, Post.okay (Rel := Den X.K) po1 (.bl _)⟩⟩
theorem de_if (hc : DT X w Rc c t) (ha : DE X w Ra a f1) (hb : DE X w Rb b f2) : DE X w (Rc ++ (Ra ++ Rb)) (.IfExp c a b pos) (eIf t f1 f2) := PE.weak (pe_ifExp hc ha hb) fun σ H Q ⟨S, env, sub, ok, po⟩ =>
  ⟨S, env, sub, ok.left, Post.bind (Rel2 := Den X.K) po fun k _ k' H1 e1 hk po1 => by
    cases (show k' = k from hk)
    cases k with
    | true => exact ⟨S, env, sub.mono e1, ok.right.left.mono (hid_ex e1), po1⟩
    | false => exact ⟨S, env, sub.mono e1, ok.right.right.mono (hid_ex e1), po1⟩⟩
end
def eNil : EL := fun _ => .ok []
def eCons (f : EE) (g : EL) : EL := fun env => (f env).bind fun d => (g env).map (d :: ·)
def eTup (g : EL) : EE := fun env => (g env).map .tup
def eL (g : EL) : EE := fun env => (g env).map .lst
section
variable {X : Cx} {w : Wi} {R Ra Rb : List Nat} {a b e : Expr} {es : List Expr} {f : EE} {g : EL} {pos : Pos} {σ : L2.St} {H : Hp} {S : List Addr} {K : PySem.W.Frag}
theorem da_nil : DA X w [] [] eNil := ⟨PA.weak pa_nil fun σ H Q ⟨S, env, sub, ok, po⟩ => Post.okay (Rel := DenL X.K) po .nil, fun _ _ h => by cases h; rfl⟩
theorem da_cons (ha : DE X w Ra e f) (hr : DA X w Rb es g) (hs : starEach (e :: es) X.env = (false, eval e X.env) :: starEach es X.env := by rfl) : DA X w (Ra ++ Rb) (e :: es) (eCons f g) :=
  ⟨PA.weak (pa_cons ha hr.pa hs) fun σ H Q ⟨S, env, sub, ok, po⟩ => ⟨S, env, sub, ok.left, Post.bind (Rel2 := DenL X.K) po fun d _ v H1 e1 dv po1 =>
    ⟨S, env, sub.mono e1, ok.right.mono (hid_ex e1), Post.map (Rel2 := DenL X.K) po1 fun ds _ vs H2 e2 dvs q => q _ H2 (Ex.refl _) (.cons (dv.mono (hid_ex e2)) dvs)⟩⟩, fun env ds h => by
    unfold eCons at h
    cases q : f env with
    | ok d =>
      rw [q, bind_ok] at h
      cases q2 : g env with
      | ok es' =>
        rw [q2, map_ok] at h
        cases h
        rw [List.length_cons, List.length_cons, hr.len env es' q2]
      | err c => rw [q2] at h; cases h
      | stuck => rw [q2] at h; cases h
    | err c => rw [q] at h; cases h
    | stuck => rw [q] at h; cases h⟩
theorem de_tup {x1} (h : DA X w R es g) (hz : es.length ≤ 100000 := by decide) : DE X w R (.Tuple es x1 pos) (eTup g) := PE.weak (pe_tup h.pa) fun σ H Q ⟨S, env, sub, ok, po⟩ =>
  ⟨S, env, sub, ok, Post.map (Rel2 := Den X.K) po fun ds hd vs H1 e1 dvs po1 => by
    refine ⟨by rw [dvs.len, h.len env ds hd]; exact Evl.sz_of hz, fun p hp => ?_⟩
    have e2 : Ex H1 (upd H1 p (.tup vs)) := Ex.new hp
    exact po1 _ _ e2 (.tup (.of (hid_at ((sub.mono e1).new hp) upd_same)) (dvs.mono (hid_ex e2)))⟩
theorem PostF.mono {H1 : Hp} {Q : VK} {r : Res (List D)} (h : PostF K w S σ H Q r) (e : Ex H H1) : PostF K w S σ H1 Q r := by
  cases r with
  | ok a => exact fun p vs H2 n e2 hp r => h p vs H2 (ex_none e n) (e.trans e2) hp r
  | err c => exact fun H2 e2 => h H2 (e.trans e2)
  | stuck => exact h
theorem PostF.bind {α β : Type} {Rel : Hp → β → α → Prop} {Q : VK} {Q' : β → Hp → Prop} {r : Res α} {k : α → Res (List D)} (h : PostF K w S σ H Q (r.bind k)) (hk : ∀ a, r = .ok a → ∀ b H1, Ex H H1 → Rel (hid S H1) b a → PostF K w S σ H1 Q (k a) → Q' b H1) : Post Rel w S σ H Q' r := by
  cases r with
  | ok a => exact fun b H1 e r => hk a rfl b H1 e r (PostF.mono (r := k a) h e)
  | err c => exact h
  | stuck => exact h
/-- a list just laid -/
theorem PostF.new {Q : VK} {ds : List D} {vs : List V} {p : Addr} (h : PostF K w S σ H Q (.ok ds)) (sub : Sub S H) (hp : H p = none) (r : DenL K (hid S H) vs ds) : Q (.ref p) (upd H p (.lst vs)) :=
  h p vs _ hp (Ex.new hp) upd_same (r.mono (hid_fresh hp (Ex.new hp)))
theorem dl_lst (h : DA X w R es g) (hz : es.length ≤ 100000 := by decide) : DL X w R (.List es pos) g := PE.weak (pe_lst h.pa) fun σ H Q ⟨S, env, sub, ok, po⟩ =>
  ⟨S, env, sub, ok, by
    cases q : g env with
    | ok ds =>
      rw [q] at po
      exact fun vs H1 e1 dvs => ⟨by rw [dvs.len, h.len env ds q]; exact Evl.sz_of hz, fun p hp => PostF.new (po.mono e1) (sub.mono e1) hp dvs⟩
    | err c => rw [q] at po; exact po
    | stuck => rw [q] at po; exact po⟩
/-- a new list as a value -/
theorem de_ofL (h : DL X w R e g) : DE X w R e (eL g) := PE.weak h fun σ H Q ⟨S, env, sub, ok, po⟩ => ⟨S, env, sub, ok, by
  unfold eL at po
  cases q : g env with
  | ok ds =>
    rw [q] at po
    intro p vs H1 hp e1 h1 r
    refine po _ H1 e1 (.lst (hid_at (sub.new hp) h1) (r.mono (hid_sub fun a m => List.mem_cons_of_mem _ m)))
  | err c => rw [q] at po; exact po
  | stuck => rw [q] at po; exact po⟩
end
namespace D
def ix : D → D → Res D
  | .lst ds, .int i => match atI ds i with | some d => .ok d | none => .stuck
  | .tup ds, .int i => match atI ds i with | some d => .ok d | none => .stuck
  | .fz ds, .int i => match atI ds i with | some d => .ok d | none => .stuck
  | .str z, .int i => lim z.length (match atI z.cps.toList i with | some c => .ok (.str ⟨#[c]⟩) | none => .stuck)
  | _, _ => .stuck
def cutD (xs : List D) (lo hi : Option Int) : List D := (xs.drop (HT.sIx xs.length 0 lo)).take (HT.sIx xs.length xs.length hi - HT.sIx xs.length 0 lo)
def sl : D → Option Int → Option Int → Res D
  | .str z, lo, hi => lim z.length (.ok (.str (cutS z lo hi)))
  | .tup xs, lo, hi => if HT.sIx xs.length 0 lo = 0 ∧ HT.sIx xs.length xs.length hi = xs.length then .stuck else .ok (.tup (cutD xs lo hi))
  | .lst xs, lo, hi => .ok (.lst (cutD xs lo hi))
  | .fz xs, lo, hi => .ok (.lst (cutD xs lo hi))
  | _, _, _ => .stuck
def slL : D → Option Int → Option Int → Res (List D)
  | .lst xs, lo, hi => .ok (cutD xs lo hi)
  | .fz xs, lo, hi => .ok (cutD xs lo hi)
  | _, _, _ => .stuck
def fld (C0 : Str) (f : Str) : D → Res D
  | .obj C gs => if C = C0 then (match gs.lookup f with | some d => .ok d | none => .stuck) else .stuck
  | _ => .stuck
end D
def ePart (f : EE) : Sl → Res (Option Int) := fun env => (f env).bind fun d => match d with
  | .int i => .ok (some i)
  | _ => .stuck
def eNoPart : Sl → Res (Option Int) := fun _ => .ok none
def eSl (f : EE) (l h : Sl → Res (Option Int)) : EE := fun env => (f env).bind fun d => (l env).bind fun lo => (h env).bind fun hi => D.sl d lo hi
def eSlL (f : EE) (l h : Sl → Res (Option Int)) : EL := fun env => (f env).bind fun d => (l env).bind fun lo => (h env).bind fun hi => D.slL d lo hi
section
variable {X : Cx} {w : Wi} {R Ra Rb Rc : List Nat} {a b e : Expr} {f f1 f2 : EE} {l h : Sl → Res (Option Int)} {lo hi : Option Expr} {pos p2 : Pos} {K : PySem.W.Frag}
theorem atI_den {H : Hp} {vs : List V} {ds : List D} {i : Int} {d : D} (r : DenL K H vs ds) (e : atI ds i = some d) : ∃ v, atI vs i = some v ∧ Den K H v d := by
  unfold atI at e ⊢
  rw [← r.len] at e
  cases q : ixN vs.length i with
  | none => rw [q] at e; cases e
  | some j =>
    rw [q] at e
    exact r.get e
theorem op2_ix : Op2 K w (rIx K) D.ix := fun S σ H x y a b Q sub da db po => by
  cases b <;> first | (cases a <;> exact po.elim) | skip
  rename_i i
  rw [den_int db]
  cases a <;> first | exact po.elim | skip
  · rename_i z
    obtain ⟨h, po⟩ := Post.lim po
    split at po
    · rename_i c e
      exact .inr (.inr ⟨z, i, c, den_str da, rfl, h, e, Post.okay (Rel := Den K) po (.str _)⟩)
    · exact po.elim
  · obtain ⟨p, xs, rfl, hp, rp⟩ := den_lst da
    unfold D.ix at po
    dsimp only at po
    split at po
    · rename_i d e
      obtain ⟨v, hv, dv⟩ := atI_den rp e
      exact .inl ⟨p, xs, i, v, rfl, rfl, .of (hid_out hp).2, hv, Post.okay (Rel := Den K) po dv⟩
    · exact po.elim
  · obtain ⟨p, xs, rfl, hp, rp⟩ := den_tup da
    unfold D.ix at po
    dsimp only at po
    split at po
    · rename_i d e
      obtain ⟨v, hv, dv⟩ := atI_den rp e
      exact .inr (.inl ⟨p, xs, i, v, rfl, rfl, ex_t hid_le hp, hv, Post.okay (Rel := Den K) po dv⟩)
    · exact po.elim
  · obtain ⟨p, xs, rfl, hp, rp⟩ := den_fz da
    unfold D.ix at po
    dsimp only at po
    split at po
    · rename_i d e
      obtain ⟨v, hv, dv⟩ := atI_den rp e
      exact .inl ⟨p, xs, i, v, rfl, rfl, ex_l hid_le hp, hv, Post.okay (Rel := Den K) po dv⟩
    · exact po.elim
theorem de_ix (ha : DE X w Ra a f1) (hb : DE X w Rb b f2) (hs : PlainIx b := by exact fun _ _ => rfl) : DE X w (Ra ++ Rb) (.Subscript a b pos) (eBin D.ix f1 f2) := PE.weak (pe_ix ix_seq ha hb hs) fun _ _ _ h => bin_of op2_ix h
theorem dp_none : DP X w [] none eNoPart := PO.weak po_none fun σ H Q ⟨S, env, sub, ok, po⟩ => Post.okay (Rel := isO) po rfl
theorem dp_some (he : DE X w R e f) : DP X w R (some e) (ePart f) := PO.weak (po_some he) fun σ H Q ⟨S, env, sub, ok, po⟩ => ⟨S, env, sub, ok, Post.bind (Rel2 := isO) po fun d _ v H1 e1 dv po1 => by
  cases d <;> first | exact po1.elim | exact ⟨_, den_int dv, Post.okay (Rel := isO) po1 rfl⟩⟩
theorem cut_den {H : Hp} {vs : List V} {ds : List D} {lo hi : Option Int} (r : DenL K H vs ds) : DenL K H (cutV vs lo hi) (D.cutD ds lo hi) := by
  unfold cutV D.cutD
  rw [r.len]
  exact (r.drop _).take _
def rSl3 (K : PySem.W.Frag) : V → Option Int → Option Int → Hp → VK → Prop := fun x lo hi H Q => rSlS x lo hi H Q ∨ rSlT K x lo hi H Q ∨ rSlL K x lo hi H Q
theorem slr3 : SlR X (rSl3 X.K) := sl_str.or (sl_tup.or sl_list)
theorem de_sl (he : DE X w Ra e f) (hl : DP X w Rb lo l) (hh : DP X w Rc hi h) : DE X w (Ra ++ (Rb ++ Rc)) (.Subscript e (.Slice lo hi none p2) pos) (eSl f l h) := PE.weak (pe_slice slr3 he hl hh) fun σ H Q ⟨S, env, sub, ok, po⟩ => by
  unfold eSl at po
  refine ⟨S, env, sub, ok.left, Post.bind (Rel2 := Den X.K) po fun d _ v H1 e1 dv po1 => ?_⟩
  refine ⟨S, env, sub.mono e1, ok.right.left.mono (hid_ex e1), Post.bind (Rel2 := Den X.K) po1 fun i _ i' H2 e2 hi po2 => ?_⟩
  cases (show i' = i from hi)
  refine ⟨S, env, (sub.mono e1).mono e2, ok.right.right.mono (hid_ex (e1.trans e2)), Post.bind (Rel2 := Den X.K) po2 fun j _ j' H3 e3 hj po3 => ?_⟩
  cases (show j' = j from hj)
  have dv := dv.mono (hid_ex (e2.trans e3))
  have sub3 := sub.mono ((e1.trans e2).trans e3)
  cases d <;> first | exact po3.elim | skip
  · obtain ⟨hz, po3⟩ := Post.lim po3
    exact .inl ⟨_, den_str dv, hz, Post.okay (Rel := Den X.K) po3 (.str _)⟩
  · obtain ⟨p, xs, rfl, hp, rp⟩ := den_lst dv
    refine .inr (.inr ⟨p, xs, rfl, .of (hid_out hp).2, fun q hq => ?_⟩)
    have e4 : Ex H3 (upd H3 q (.lst (cutV xs i j))) := Ex.new hq
    exact po3 _ _ e4 (.lst (hid_at (sub3.new hq) upd_same) ((cut_den rp).mono (hid_ex e4)))
  · obtain ⟨p, xs, rfl, hp, rp⟩ := den_tup dv
    unfold D.sl at po3
    dsimp only at po3
    split at po3
    · exact po3.elim
    · rename_i nw
      refine .inr (.inl ⟨p, xs, rfl, ex_t hid_le hp, by rw [rp.len]; exact nw, fun q hq => ?_⟩)
      have e4 : Ex H3 (upd H3 q (.tup (cutV xs i j))) := Ex.new hq
      exact po3 _ _ e4 (.tup (.of (hid_at (sub3.new hq) upd_same)) ((cut_den rp).mono (hid_ex e4)))
  · obtain ⟨p, xs, rfl, hp, rp⟩ := den_fz dv
    refine .inr (.inr ⟨p, xs, rfl, ex_l hid_le hp, fun q hq => ?_⟩)
    have e4 : Ex H3 (upd H3 q (.lst (cutV xs i j))) := Ex.new hq
    exact po3 _ _ e4 (.lst (hid_at (sub3.new hq) upd_same) ((cut_den rp).mono (hid_ex e4)))
theorem de_fld {n C0 : Str} (he : DE X w R e f) (cl : Cls X.K (He.ga X.K C0)) (na : NoAttr X.K (He.ga X.K C0) n) (hb : attributeBase e n X.env (eval e X.env) = eval e X.env := by rfl) : DE X w R (.Attribute e n pos) (eUn (D.fld C0 n) f) := PE.weak (pe_fld he hb) fun σ H Q ⟨S, env, sub, ok, po⟩ =>
  ⟨S, env, sub, ok, Post.bind (Rel2 := Den X.K) po fun d _ v H1 e1 dv po1 => by
    cases d <;> first | exact po1.elim | skip
    rename_i C gs
    obtain ⟨p, dx, fs, rfl, hp, rp⟩ := den_obj dv
    unfold D.fld at po1
    dsimp only at po1
    split at po1
    · rename_i ec
      subst ec
      split at po1
      · rename_i d hd
        obtain ⟨v, hv, dv⟩ := rp.look hd
        exact ⟨p, _, dx, fs, v, rfl, (hid_out hp).2, cl, na, hv, Post.okay (Rel := Den X.K) po1 dv⟩
      · exact po1.elim
    · exact po1.elim⟩
end
end Dx
set_option Elab.async false
set_option linter.all false
set_option maxRecDepth 100000
set_option maxHeartbeats 4000000
namespace Dx
open PySem PySem.Spec PyProof.Rows L2
open D (okd okdA py pyA)
def eCall (g : EL) (F : List D → Res D) : EE := fun env => (g env).bind F
def eCallL (g : EL) (F : List D → Res (List D)) : EL := fun env => (g env).bind F
/-- a call's rule by values gives its data -/
def CallD (K : PySem.W.Frag) (w : Wi) (r : List V → Hp → VK → Prop) (F : List D → Res D) : Prop :=
  ∀ (S : List Addr) (σ : L2.St) (H : Hp) (vs : List V) (ds : List D) (Q : VK), Sub S H → DenL K (hid S H) vs ds → PostV K w S σ H Q (F ds) → r vs H Q
def CallDL (K : PySem.W.Frag) (w : Wi) (r : List V → Hp → VK → Prop) (F : List D → Res (List D)) : Prop :=
  ∀ (S : List Addr) (σ : L2.St) (H : Hp) (vs : List V) (ds : List D) (Q : VK), Sub S H → DenL K (hid S H) vs ds → PostF K w S σ H Q (F ds) → r vs H Q
section
variable {X : Cx} {w : Wi} {R : List Nat} {e : Expr} {es : List Expr} {g : EL} {F : List D → Res D} {G : List D → Res (List D)} {x : Str} {p pos : Pos} {r : List V → Hp → VK → Prop} {id T : String}
theorem cb_of (hr : CallD X.K w r F) {σ : L2.St} {H : Hp} {Q : VK} (h : tS (Den X.K) X.K w R (eCall g F) σ H Q) : tCB r (tS (DenL X.K) X.K w R g) σ H Q := by
  obtain ⟨S, env, sub, ok, po⟩ := h
  exact ⟨S, env, sub, ok, Post.bind (Rel2 := Den X.K) po fun ds _ vs H1 e1 dv po1 => hr S σ H1 vs ds Q (sub.mono e1) dv po1⟩
theorem cbL_of (hr : CallDL X.K w r G) {σ : L2.St} {H : Hp} {Q : VK} (h : tF X.K w R (eCallL g G) σ H Q) : tCB r (tS (DenL X.K) X.K w R g) σ H Q := by
  obtain ⟨S, env, sub, ok, po⟩ := h
  exact ⟨S, env, sub, ok, PostF.bind po fun ds _ vs H1 e1 dv po1 => hr S σ H1 vs ds Q (sub.mono e1) dv po1⟩
theorem de_callB (hc : CallR X (.builtin id) r) (hr : CallD X.K w r F) (hm : X.mg x = none) (ha : DA X w R (e :: es) g) (hg : Gl X x := by rfl) (hv : bootBuiltins x = some (.builtin id) := by decide +kernel) (hn : x ≠ "__name__" := by decide) (hdb : (x == ("__debug__" : Str)) = false := by decide)
    (he : starEach (e :: es) X.env = (false, eval e X.env) :: starEach es X.env := by rfl) (hpl : (backTo pos (starEach es X.env)).any (·.1) = false := by rfl) : DE X w R (.Call (.Name x p) (e :: es) [] pos) (eCall g F) :=
  PE.weak (pe_callB hc hg hm hv ha.pa hn hdb he hpl) fun _ _ _ h => cb_of hr h
theorem de_callTy (hc : CallR X (.type T) r) (hr : CallD X.K w r F) (hm : X.mg x = none) (ha : DA X w R (e :: es) g) (hg : Gl X x := by rfl) (hv : bootBuiltins x = some (.type T) := by decide +kernel) (hn : x ≠ "__name__" := by decide) (hdb : (x == ("__debug__" : Str)) = false := by decide)
    (he : starEach (e :: es) X.env = (false, eval e X.env) :: starEach es X.env := by rfl) (hpl : (backTo pos (starEach es X.env)).any (·.1) = false := by rfl) : DE X w R (.Call (.Name x p) (e :: es) [] pos) (eCall g F) :=
  PE.weak (pe_callTy hc hg hm hv ha.pa hn hdb he hpl) fun _ _ _ h => cb_of hr h
theorem dl_callTy (hc : CallR X (.type T) r) (hr : CallDL X.K w r G) (hm : X.mg x = none) (ha : DA X w R (e :: es) g) (hg : Gl X x := by rfl) (hv : bootBuiltins x = some (.type T) := by decide +kernel) (hn : x ≠ "__name__" := by decide) (hdb : (x == ("__debug__" : Str)) = false := by decide)
    (he : starEach (e :: es) X.env = (false, eval e X.env) :: starEach es X.env := by rfl) (hpl : (backTo pos (starEach es X.env)).any (·.1) = false := by rfl) : DL X w R (.Call (.Name x p) (e :: es) [] pos) (eCallL g G) :=
  PE.weak (pe_callTy hc hg hm hv ha.pa hn hdb he hpl) fun _ _ _ h => cbL_of hr h
end
namespace D
def len : List D → Res D
  | [.lst xs] => .ok (.int xs.length)
  | [.tup xs] => .ok (.int xs.length)
  | [.fz xs] => .ok (.int xs.length)
  | [.str z] => lim z.length (.ok (.int z.length))
  | _ => .stuck
def listOf : List D → Res (List D)
  | [.lst xs] => .ok xs
  | [.tup xs] => .ok xs
  | [.fz xs] => .ok xs
  | _ => .stuck
def tupOf : List D → Res D
  | [.lst xs] => .ok (.tup xs)
  | [.fz xs] => .ok (.tup xs)
  | [.tup xs] => .ok (.tup xs)
  | _ => .stuck
def int1 : List D → Res D
  | [.int i] => .ok (.int i)
  | [.bl k] => .ok (.int (if k then 1 else 0))
  | _ => .stuck
def abs1 : List D → Res D
  | [.int i] => .ok (.int (if i < 0 then -i else i))
  | _ => .stuck
def min2 : List D → Res D
  | [.int i, .int j] => .ok (.int (if j < i then j else i))
  | _ => .stuck
def max2 : List D → Res D
  | [.int i, .int j] => .ok (.int (if j > i then j else i))
  | _ => .stuck
/-- the built-in type of data -/
def ty : D → Option String
  | .non => some "NoneType"
  | .bl _ => some "bool"
  | .int _ => some "int"
  | .str _ => some "str"
  | .lst _ => some "list"
  | .fz _ => some "list"
  | .tup _ => some "tuple"
  | _ => none
def isTy (a n : String) : Option Bool :=
  if n = "int" then some (a == "int" || a == "bool") else if n = "bool" ∨ n = "str" ∨ n = "list" ∨ n = "tuple" then some (a == n) else none
def isi : List D → Res D
  | [d, .raw (.ty n)] => match ty d with
    | some a => (match isTy a n with | some b => .ok (.bl b) | none => .stuck)
    | none => .stuck
  | _ => .stuck
end D
section
variable {X : Cx} {w : Wi} {K : PySem.W.Frag} {R : List Nat} {x : Str} {pos p : Pos}
theorem ds1 {H : Hp} {vs : List V} {d : D} (h : DenL K H vs [d]) : ∃ v, vs = [v] ∧ Den K H v d := by cases h with | cons h r => cases r; exact ⟨_, rfl, h⟩
theorem ds2 {H : Hp} {vs : List V} {d c : D} (h : DenL K H vs [d, c]) : ∃ v u, vs = [v, u] ∧ Den K H v d ∧ Den K H u c := by
  cases h with | cons h r => obtain ⟨u, rfl, h2⟩ := ds1 r; exact ⟨_, _, rfl, h, h2⟩
def rLen2 (K : PySem.W.Frag) : List V → Hp → VK → Prop := fun xs H Q => (∃ p ys, xs = [.ref p] ∧ (SqL K H p ys ∨ SqT K H p ys) ∧ Q (.int ys.length) H) ∨ ∃ z, xs = [.str z] ∧ z.length ≤ sizeLine ∧ Q (.int z.length) H
theorem cr_len : CallR X (.builtin "len") (rLen2 X.K) := call_len_seq.or call_len_str
theorem cd_len : CallD K w (rLen2 K) D.len := fun S σ H vs ds Q sub dv po => by
  unfold D.len at po
  split at po
  · obtain ⟨v, rfl, d1⟩ := ds1 dv
    obtain ⟨a, xs, rfl, ha, ra⟩ := den_lst d1
    refine .inl ⟨a, xs, rfl, .inl (.of (hid_out ha).2), ?_⟩
    rw [ra.len]
    exact Post.okay (Rel := Den K) po (.int _)
  · obtain ⟨v, rfl, d1⟩ := ds1 dv
    obtain ⟨a, xs, rfl, ha, ra⟩ := den_tup d1
    refine .inl ⟨a, xs, rfl, .inr (ex_t hid_le ha), ?_⟩
    rw [ra.len]
    exact Post.okay (Rel := Den K) po (.int _)
  · obtain ⟨v, rfl, d1⟩ := ds1 dv
    obtain ⟨a, xs, rfl, ha, ra⟩ := den_fz d1
    refine .inl ⟨a, xs, rfl, .inl (ex_l hid_le ha), ?_⟩
    rw [ra.len]
    exact Post.okay (Rel := Den K) po (.int _)
  · obtain ⟨v, rfl, d1⟩ := ds1 dv
    obtain ⟨hz, po⟩ := Post.lim po
    rw [den_str d1]
    exact .inr ⟨_, rfl, hz, Post.okay (Rel := Den K) po (.int _)⟩
  · exact po.elim
theorem cd_list : CallDL K w (fun xs H Q => ∃ p ys, xs = [.ref p] ∧ (SqL K H p ys ∨ SqT K H p ys) ∧ ∀ l, H l = none → Q (.ref l) (upd H l (.lst ys))) D.listOf := fun S σ H vs ds Q sub dv po => by
  unfold D.listOf at po
  split at po
  · obtain ⟨v, rfl, d1⟩ := ds1 dv
    obtain ⟨a, xs, rfl, ha, ra⟩ := den_lst d1
    exact ⟨a, xs, rfl, .inl (.of (hid_out ha).2), fun l hl => PostF.new po sub hl ra⟩
  · obtain ⟨v, rfl, d1⟩ := ds1 dv
    obtain ⟨a, xs, rfl, ha, ra⟩ := den_tup d1
    exact ⟨a, xs, rfl, .inr (ex_t hid_le ha), fun l hl => PostF.new po sub hl ra⟩
  · obtain ⟨v, rfl, d1⟩ := ds1 dv
    obtain ⟨a, xs, rfl, ha, ra⟩ := den_fz d1
    exact ⟨a, xs, rfl, .inl (ex_l hid_le ha), fun l hl => PostF.new po sub hl ra⟩
  · exact po.elim
theorem cd_tuple : CallD K w (fun xs H Q => ∃ p ys, xs = [.ref p] ∧ ((SqL K H p ys ∧ ∀ l, H l = none → Q (.ref l) (upd H l (.tup ys))) ∨ (SqT K H p ys ∧ Q (.ref p) H))) D.tupOf := fun S σ H vs ds Q sub dv po => by
  have new : ∀ (xs : List V) (es : List D), DenL K (hid S H) xs es → PostV K w S σ H Q (.ok (.tup es)) → ∀ l, H l = none → Q (.ref l) (upd H l (.tup xs)) := fun xs es r po l hl => by
    have e : Ex H (upd H l (.tup xs)) := Ex.new hl
    exact po _ _ e (.tup (.of (hid_at (sub.new hl) upd_same)) (r.mono (hid_ex e)))
  unfold D.tupOf at po
  split at po
  · obtain ⟨v, rfl, d1⟩ := ds1 dv
    obtain ⟨a, xs, rfl, ha, ra⟩ := den_lst d1
    exact ⟨a, xs, rfl, .inl ⟨.of (hid_out ha).2, new xs _ ra po⟩⟩
  · obtain ⟨v, rfl, d1⟩ := ds1 dv
    obtain ⟨a, xs, rfl, ha, ra⟩ := den_fz d1
    exact ⟨a, xs, rfl, .inl ⟨ex_l hid_le ha, new xs _ ra po⟩⟩
  · obtain ⟨v, rfl, d1⟩ := ds1 dv
    obtain ⟨a, xs, rfl, ha, ra⟩ := den_tup d1
    exact ⟨a, xs, rfl, .inr ⟨ex_t hid_le ha, Post.okay (Rel := Den K) po (.tup ha ra)⟩⟩
  · exact po.elim
theorem cd_int : CallD K w (fun xs H Q => (∃ i, xs = [.int i] ∧ Q (.int i) H) ∨ ∃ k, xs = [.bl k] ∧ Q (.int (if k then 1 else 0)) H) D.int1 := fun S σ H vs ds Q sub dv po => by
  unfold D.int1 at po
  split at po
  · obtain ⟨v, rfl, d1⟩ := ds1 dv
    rw [den_int d1]
    exact .inl ⟨_, rfl, Post.okay (Rel := Den K) po (.int _)⟩
  · obtain ⟨v, rfl, d1⟩ := ds1 dv
    rw [den_bl d1]
    exact .inr ⟨_, rfl, Post.okay (Rel := Den K) po (.int _)⟩
  · exact po.elim
theorem cd_max2 : CallD K w (fun xs H Q => ∃ i j, xs = [.int i, .int j] ∧ Q (.int (if j > i then j else i)) H) D.max2 := fun S σ H vs ds Q sub dv po => by
  unfold D.max2 at po
  split at po
  · obtain ⟨v, u, rfl, d1, d2⟩ := ds2 dv
    rw [den_int d1, den_int d2]
    exact ⟨_, _, rfl, Post.okay (Rel := Den K) po (.int _)⟩
  · exact po.elim
/-- a built-in's name as a value -/
theorem de_ty {n : String} (hm : X.mg x = none) (hg : Gl X x := by rfl) (hv : bootBuiltins x = some (.type n) := by decide +kernel) (hn : x ≠ "__name__" := by decide) (hdb : (x == ("__debug__" : Str)) = false := by decide) : DE X w [] (.Name x pos) (eC (.raw (.ty n))) :=
  const_of (pe_bltn hg hm hv (v := .ty n) rfl hn hdb) fun _ => .raw _
theorem ty_den {H : Hp} {S : List Addr} {v : V} {d : D} {a : String} (h : Den K (hid S H) v d) (e : D.ty d = some a) : TyX K H v (.type a) := by
  cases d <;> cases e
  · rw [den_non h]; exact .base .non
  · rw [den_bl h]; exact .base (.bl _)
  · rw [den_int h]; exact .base (.int _)
  · rw [den_str h]; exact .base (.str _)
  · obtain ⟨p, xs, rfl, hp, _⟩ := den_lst h
    exact .base (.lst (hid_out hp).2)
  · obtain ⟨p, xs, rfl, hp, _⟩ := den_tup h
    rcases ex_t (hid_le (S := S) (H := H)) hp with (h | ⟨o, h⟩) | ⟨o, its, n, hk, hc, _⟩
    · exact .base (.tup h)
    · exact .fTuple h
    · exact .kTuple hk hc
  · obtain ⟨p, xs, rfl, hp, _⟩ := den_fz h
    rcases ex_l (hid_le (S := S) (H := H)) hp with (h | ⟨o, h⟩) | ⟨o, its, n, hk, hc, _⟩
    · exact .base (.lst h)
    · exact .base (.frz h)
    · exact .kList hk hc
theorem isTy_kit {d : D} {a n : String} {b : Bool} (h : D.ty d = some a) (e : D.isTy a n = some b) : kitB a n = some b := by
  have ha : a = "NoneType" ∨ a = "bool" ∨ a = "int" ∨ a = "str" ∨ a = "list" ∨ a = "tuple" := by cases d <;> cases h <;> simp
  have hn : n = "int" ∨ n = "bool" ∨ n = "str" ∨ n = "list" ∨ n = "tuple" := by
    unfold D.isTy at e
    split at e
    · exact .inl (by assumption)
    · split at e
      · exact .inr (by assumption)
      · cases e
  have all : ∀ a ∈ ["NoneType", "bool", "int", "str", "list", "tuple"], ∀ n ∈ ["int", "bool", "str", "list", "tuple"], kitB a n = D.isTy a n := by decide +kernel
  rw [all a (by simpa using ha) n (by simpa using hn)]
  exact e
theorem cd_isi : CallD K w (rIsi K) D.isi := fun S σ H vs ds Q sub dv po => by
  unfold D.isi at po
  split at po
  · obtain ⟨v, u, rfl, d1, d2⟩ := ds2 dv
    cases d2
    split at po
    · rename_i a ha
      split at po
      · rename_i b hb
        exact ⟨v, _, _, _, b, rfl, .ty _, ty_den d1 ha, kit_ty (isTy_kit ha hb), Post.okay (Rel := Den K) po (.bl _)⟩
      · exact po.elim
    · exact po.elim
  · exact po.elim
end
section
variable {X : Cx} {w : Wi} {R : List Nat} {e : Expr} {es : List Expr} {g : EL} {p pos : Pos}
theorem de_len (hm : X.mg "len" = none) (ha : DA X w R (e :: es) g) (hg : Gl X "len" := by rfl) (he : starEach (e :: es) X.env = (false, eval e X.env) :: starEach es X.env := by rfl) (hpl : (backTo pos (starEach es X.env)).any (·.1) = false := by rfl) : DE X w R (.Call (.Name "len" p) (e :: es) [] pos) (eCall g D.len) :=
  de_callB cr_len cd_len hm ha hg PySem.boot_len (by decide) (by decide) he hpl
theorem de_isi (hm : X.mg "isinstance" = none) (ha : DA X w R (e :: es) g) (hg : Gl X "isinstance" := by rfl) (he : starEach (e :: es) X.env = (false, eval e X.env) :: starEach es X.env := by rfl) (hpl : (backTo pos (starEach es X.env)).any (·.1) = false := by rfl) : DE X w R (.Call (.Name "isinstance" p) (e :: es) [] pos) (eCall g D.isi) :=
  de_callB call_isi cd_isi hm ha hg (by decide +kernel) (by decide) (by decide) he hpl
theorem dl_list (hm : X.mg "list" = none) (ha : DA X w R (e :: es) g) (hg : Gl X "list" := by rfl) (he : starEach (e :: es) X.env = (false, eval e X.env) :: starEach es X.env := by rfl) (hpl : (backTo pos (starEach es X.env)).any (·.1) = false := by rfl) : DL X w R (.Call (.Name "list" p) (e :: es) [] pos) (eCallL g D.listOf) :=
  dl_callTy call_list_of cd_list hm ha hg (by decide +kernel) (by decide) (by decide) he hpl
theorem de_tuple (hm : X.mg "tuple" = none) (ha : DA X w R (e :: es) g) (hg : Gl X "tuple" := by rfl) (he : starEach (e :: es) X.env = (false, eval e X.env) :: starEach es X.env := by rfl) (hpl : (backTo pos (starEach es X.env)).any (·.1) = false := by rfl) : DE X w R (.Call (.Name "tuple" p) (e :: es) [] pos) (eCall g D.tupOf) :=
  de_callTy call_tuple_of cd_tuple hm ha hg (by decide +kernel) (by decide) (by decide) he hpl
theorem de_intc (hm : X.mg "int" = none) (ha : DA X w R (e :: es) g) (hg : Gl X "int" := by rfl) (he : starEach (e :: es) X.env = (false, eval e X.env) :: starEach es X.env := by rfl) (hpl : (backTo pos (starEach es X.env)).any (·.1) = false := by rfl) : DE X w R (.Call (.Name "int" p) (e :: es) [] pos) (eCall g D.int1) :=
  de_callTy call_int1 cd_int hm ha hg (by decide +kernel) (by decide) (by decide) he hpl
theorem de_max2 (hc : X.calm = true) (hm : X.mg "max" = none) (ha : DA X w R (e :: es) g) (hg : Gl X "max" := by rfl) (he : starEach (e :: es) X.env = (false, eval e X.env) :: starEach es X.env := by rfl) (hpl : (backTo pos (starEach es X.env)).any (·.1) = false := by rfl) : DE X w R (.Call (.Name "max" p) (e :: es) [] pos) (eCall g D.max2) :=
  de_callB (call_max2 hc) cd_max2 hm ha hg (by decide +kernel) (by decide) (by decide) he hpl
end
/-- how an answer lies: data, or a new list -/
def RetOk (K : PySem.W.Frag) (fr : Bool) (S : List Addr) (H H1 : Hp) (v : V) (d : D) : Prop := match fr with
  | false => Den K (hid S H1) v d
  | true => ∃ p vs ds, v = .ref p ∧ d = .lst ds ∧ H p = none ∧ H1 p = some (.lst vs) ∧ DenL K (hid (p :: S) H1) vs ds
/-- the promise of a def whose answer is F of its arguments -/
def SpF (K : PySem.W.Frag) (mg : Str → Option Value) (tb : List Addr) (n : Nat) (fr : Bool) (F : List D → Res D) : Sp := fun vs H Q E => vs.length = n ∧ ∃ (S : List Addr) (ds : List D), Sub S H ∧ (∀ P ∈ tb, GxR.TabG (hid S H) P) ∧ DenL K (hid S H) vs ds ∧
  match F ds with
  | .ok d => ∀ v H1, Ex H H1 → RetOk K fr S H H1 v d → Q v H1
  | .err c => ∀ H1 u, Ex H H1 → mg c = some u → E u none H1
  | .stuck => False
/-- the wish by class names, as the layer below has it -/
def wx (mg : Str → Option Value) (w : Wi) : WX := fun cls d σ H => ∃ c, mg c = some cls ∧ d = none ∧ w c σ H
structure Callee (P : Program) (w : World) (K : PySem.W.Frag) (mg : Str → Option Value) (base : Heap) (tb : List Addr) (x : Str) (k n : Nat) (fr : Bool) (F : List D → Res D) : Prop where
  ex : ∃ (f : Addr) (fd : FuncData) (ps : List Str), FnOk P w K mg base (L2.CX P w) k f fd ps (SpF K mg tb n fr F) ∧ mg x = some (.ref f) ∧ PySem.W.keepIn K (.ref f) = true ∧ Binds K fd ps []
section
variable {X : Cx} {w : Wi} {R : List Nat} {e : Expr} {es : List Expr} {g : EL} {F : List D → Res D} {x : Str} {p pos : Pos} {k j n : Nat}
theorem de_call (C : Callee X.prog X.w X.K X.mg X.base w.tb x k n false F) (hr : Room j X.A) (tk : Takes X (wx X.mg w)) (ha : DA X w R (e :: es) g) (hk : k ≤ j := by decide) (hg : Gl X x := by rfl) (hdb : (x == ("__debug__" : Str)) = false := by decide)
    (he : starEach (e :: es) X.env = (false, eval e X.env) :: starEach es X.env := by rfl) (hpl : (backTo pos (starEach es X.env)).any (·.1) = false := by rfl) (hn : (e :: es).length = n := by rfl) : DE X w R (.Call (.Name x p) (e :: es) [] pos) (eCall g F) := by
  obtain ⟨f, fd, ps, G, hm, hkp, hb⟩ := C.ex
  refine PE.weak (pe_callS G (hr.mono hk) hg hm hkp hb (fun σ => passAt tk σ) ha.pa hdb he hpl) fun σ H Q ⟨S, env, sub, ok, po⟩ => ?_
  refine ⟨S, env, sub, ok, Post.bind (Rel2 := Den X.K) po fun ds hd vs H1 e1 dv po1 => ⟨by rw [dv.len]; rw [ha.len env ds hd]; exact hn, S, ds, sub.mono e1, (ok.mono (hid_ex e1)).tab, dv, ?_⟩⟩
  cases q : F ds with
  | ok d => rw [q] at po1; exact fun v H2 e2 r => po1 v H2 e2 r
  | err c => rw [q] at po1; exact fun H2 u e2 hu => ⟨c, hu, rfl, po1 H2 e2⟩
  | stuck => rw [q] at po1; exact po1
end
end Dx
set_option Elab.async false
set_option linter.all false
set_option maxRecDepth 100000
set_option maxHeartbeats 4000000
namespace Dx
open PySem PySem.Spec PyProof.Rows L2
open RZ RT
open D (okd okdA py pyA)
def Walks (K : PySem.W.Frag) (Hs : Hp) (J : It) (ds : List D) : Prop := ∀ (i : Nat) (H2 : Hp), Ex Hs H2 → (ds.length ≤ i → J.stop i H2) ∧
  ∀ d, ds[i]? = some d → J.go i H2 ∧ ∀ x H', J.yld i H2 x H' → Ex H2 H' ∧ ∀ S', Sub S' H2 → Ex Hs (hid S' H2) → Den K (hid S' H') x d
abbrev DI (X : Cx) (w : Wi) (R : List Nat) (tg iter : Expr) (f : EL) : Prop := PI X tg iter (tS (Walks X.K) X.K w R f)
theorem PI.weak {X : Cx} {tg e : Expr} {t t' : TI} (h : PI X tg e t) (i : ∀ σ H Q, t' σ H Q → t σ H Q) : PI X tg e t' := ⟨fun pins s σ H R I q => h.run pins s σ H R I (i σ H R q)⟩
section
variable {K : PySem.W.Frag} {Hs : Hp} {a b : Addr} {xs ys : List V} {ds es : List D}
theorem walks_list (h : SqL K Hs a xs) (r : DenL K Hs xs ds) : Walks K Hs (Itl K a) ds := fun i H2 e => by
  have h2 := ex_l e h
  refine ⟨fun hi => ⟨xs, h2, by rw [r.len]; exact hi⟩, fun d hd => ?_⟩
  obtain ⟨v, hv, dv⟩ := r.get hd
  refine ⟨⟨xs, v, h2, hv⟩, fun x H' ⟨e1, e2⟩ => ?_⟩
  subst e1
  have := e2 xs h2
  rw [hv] at this
  cases this
  exact ⟨Ex.refl _, fun S' _ e3 => dv.mono e3⟩
theorem walks_tup (h : SqT K Hs a xs) (r : DenL K Hs xs ds) : Walks K Hs (Itt K a) ds := fun i H2 e => by
  have h2 := ex_t e h
  refine ⟨fun hi => ⟨xs, h2, by rw [r.len]; exact hi⟩, fun d hd => ?_⟩
  obtain ⟨v, hv, dv⟩ := r.get hd
  refine ⟨⟨xs, v, h2, hv⟩, fun x H' ⟨e1, e2⟩ => ?_⟩
  subst e1
  have := e2 xs h2
  rw [hv] at this
  cases this
  exact ⟨Ex.refl _, fun S' _ e3 => dv.mono e3⟩
theorem walks_str (z : Str) : Walks K Hs (Its z) (z.cps.toList.map fun c => .str ⟨#[c]⟩) := fun i H2 e => by
  refine ⟨fun hi => by rw [List.length_map, Array.length_toList] at hi; exact hi, fun d hd => ?_⟩
  rw [List.getElem?_map] at hd
  cases q : z.cps.toList[i]? with
  | none => rw [q] at hd; cases hd
  | some c =>
    rw [q] at hd
    cases hd
    have hl : i < z.cps.size := by
      have := (List.getElem?_eq_some_iff.mp q).1
      simpa using this
    refine ⟨hl, fun x H' ⟨e1, c', hc, ex⟩ => ?_⟩
    subst e1 ex
    rw [← Array.getElem?_toList, q] at hc
    cases hc
    exact ⟨Ex.refl _, fun _ _ _ => .str _⟩
theorem walks_range (lo : Int) (n : Nat) : Walks K Hs (Itr lo n) ((List.range n).map fun (k : Nat) => .int (lo + k)) := fun i H2 e => by
  refine ⟨fun hi => by rw [List.length_map, List.length_range] at hi; exact hi, fun d hd => ?_⟩
  rw [List.getElem?_map] at hd
  cases q : (List.range n)[i]? with
  | none => rw [q] at hd; cases hd
  | some k =>
    rw [q] at hd
    cases hd
    obtain ⟨hl, hk⟩ := List.getElem?_eq_some_iff.mp q
    rw [List.getElem_range] at hk
    subst hk
    refine ⟨by rw [List.length_range] at hl; exact hl, fun x H' ⟨e1, ex⟩ => ?_⟩
    subst e1 ex
    exact ⟨Ex.refl _, fun _ _ _ => .int _⟩
def zipD : List D → List D → List D
  | d :: ds, c :: cs => .tup [d, c] :: zipD ds cs
  | _, _ => []
end
namespace D
def items : D → Res (List D)
  | .lst xs => .ok xs
  | .tup xs => .ok xs
  | .fz xs => .ok xs
  | .str z => .ok (z.cps.toList.map fun c => .str ⟨#[c]⟩)
  | _ => .stuck
def rng1 : List D → Res (List D)
  | [.int j] => if -100000 ≤ j ∧ j ≤ 100000 then .ok ((List.range j.toNat).map fun (k : Nat) => .int (0 + k)) else .stuck
  | _ => .stuck
def zip2 : List D → Res (List D)
  | [.lst xs, .lst ys] => .ok (zipD xs ys)
  | [.tup xs, .tup ys] => .ok (zipD xs ys)
  | _ => .stuck
def rev : D → Res (List D)
  | .lst xs => .ok xs.reverse
  | .fz xs => .ok xs.reverse
  | .tup xs => .ok xs.reverse
  | _ => .stuck
end D
def eItems (f : EE) : EL := fun env => (f env).bind D.items
def eRev (f : EE) : EL := fun env => (f env).bind D.rev
/-- a list, a tuple or a text -/
def iAny (K : PySem.W.Frag) (tl : TE) : TI := fun σ H R => tl σ H fun x H1 => (∃ a, x = .ref a ∧ (∃ xs, SqL K H1 a xs) ∧ R (Itl K a) H1) ∨ (∃ a, x = .ref a ∧ (∃ xs, SqT K H1 a xs) ∧ R (Itt K a) H1) ∨ ∃ z, x = .str z ∧ R (Its z) H1
section
variable {X : Cx} {w : Wi} {R : List Nat} {tg e : Expr} {es : List Expr} {f : EE} {g : EL} {p pos : Pos}
theorem pi_any {tl : TE} (hl : PE X e tl) : PI X tg e (iAny X.K tl) := by
  refine ⟨fun pins s σ H R I h => ?_⟩
  refine thn (hl.run pins s σ H _ I h) fun v s1 ⟨x, H1, I1, r1, q1⟩ => ?_
  rcases q1 with ⟨a, e, ⟨xs, hq⟩, q⟩ | ⟨a, e, ⟨xs, hq⟩, q⟩ | ⟨z, e, q⟩
  · subst e
    cases r1
    obtain ⟨its, rv, p, hz⟩ := I1.list hq
    exact wpAny_pyIter_list p.isList (pi_one (tk := s1.toks) I1 _ (turn_list a _) ⟨_, Heap.get?_push_size _ rfl, rfl, rfl⟩ q)
  · subst e
    cases r1
    obtain ⟨its, rv, p, hz⟩ := I1.tuple hq
    exact wpAny_pyIter_tuple (show s1.heap.IsTuple a its.toArray from p) (pi_one (tk := s1.toks) I1 _ (turn_tuple a _) ⟨_, Heap.get?_push_size _ rfl, rfl, rfl⟩ q)
  · subst e
    obtain ⟨t, rfl⟩ := r1
    cases ha : z.cps.all (· < 128)
    · exact wpAny_pyIter_wide ha (pi_one (tk := s1.toks) I1 _ (turn_str _ z t "str_iterator" (.inr rfl)) ⟨_, Heap.get?_push_size _ rfl, rfl, rfl⟩ q)
    · exact wpAny_pyIter_ascii ha (pi_one (tk := s1.toks) I1 _ (turn_str _ z t "str_ascii_iterator" (.inl rfl)) ⟨_, Heap.get?_push_size _ rfl, rfl, rfl⟩ q)
theorem di_any (he : DE X w R e f) : DI X w R tg e (eItems f) := PI.weak (pi_any he) fun σ H Q ⟨S, env, sub, ok, po⟩ =>
  ⟨S, env, sub, ok, Post.bind (Rel2 := Walks X.K) po fun d _ v H1 e1 dv po1 => by
    cases d <;> first | exact po1.elim | skip
    · rw [den_str dv]
      exact .inr (.inr ⟨_, rfl, Post.okay (Rel := Walks X.K) po1 (walks_str _)⟩)
    · obtain ⟨a, xs, rfl, ha, ra⟩ := den_lst dv
      exact .inl ⟨a, rfl, ⟨xs, .of (hid_out ha).2⟩, Post.okay (Rel := Walks X.K) po1 (walks_list (.of ha) ra)⟩
    · obtain ⟨a, xs, rfl, ha, ra⟩ := den_tup dv
      exact .inr (.inl ⟨a, rfl, ⟨xs, ex_t hid_le ha⟩, Post.okay (Rel := Walks X.K) po1 (walks_tup ha ra)⟩)
    · obtain ⟨a, xs, rfl, ha, ra⟩ := den_fz dv
      exact .inl ⟨a, rfl, ⟨xs, ex_l hid_le ha⟩, Post.okay (Rel := Walks X.K) po1 (walks_list ha ra)⟩⟩
theorem di_range1 (hm : X.mg "range" = none) (ha : DA X w R [e] g) (hg : Gl X "range" := by rfl) (hs : starEach [e] X.env = [(false, eval e X.env)] := by rfl) : DI X w R tg (.Call (.Name "range" p) [e] [] pos) (eCallL g D.rng1) :=
  PI.weak (pi_range1 hg hm ha.pa hs) fun σ H Q ⟨S, env, sub, ok, po⟩ => ⟨S, env, sub, ok, Post.bind (Rel2 := Walks X.K) po fun ds _ vs H1 e1 dv po1 => by
    unfold D.rng1 at po1
    split at po1
    · split at po1
      · rename_i h
        obtain ⟨v, rfl, d1⟩ := ds1 dv
        rw [den_int d1]
        exact ⟨_, rfl, by omega, by omega, Post.okay (Rel := Walks X.K) po1 (walks_range 0 _)⟩
      · exact po1.elim
    · exact po1.elim⟩
end
inductive Tgt where
  | one (i : Nat) | two (i j : Nat)
def Tgt.slots : Tgt → List Nat
  | .one i => [i]
  | .two i j => [i, j]
def setAll {α : Type} : List Nat → List α → List (Option α) → List (Option α)
  | i :: is, a :: as, l => setAll is as (l.set i (some a))
  | _, _, l => l
def parts : Tgt → D → Res (List D)
  | .one _, d => .ok [d]
  | .two _ _, .tup [a, b] => .ok [a, b]
  | _, _ => .stuck
def gT (K : PySem.W.Frag) : Tgt → TG
  | .one i => gName i
  | .two i j => gTup K 2 (gCons (gName i) (gCons (gName j) gNil))
section
variable {K : PySem.W.Frag} {tb : List Addr} {S : List Addr} {H : Hp} {R : List Nat} {env : Sl} {σ : L2.St}
theorem gT_ok {tg : Tgt} {v : V} {d : D} {ps : List D} (h : parts tg d = .ok ps) (dv : Den K (hid S H) v d) : ∃ vs, DenL K (hid S H) vs ps ∧ ∀ (σ : L2.St) (Q : L2.St → Hp → Prop), Q (setAll tg.slots vs σ) H → gT K tg v σ H Q := by
  cases tg with
  | one i =>
    cases h
    exact ⟨[v], .one dv, fun σ Q q => q⟩
  | two i j =>
    unfold parts at h
    split at h
    · rename_i e
      cases e
    · rename_i e
      cases e
      cases h
      obtain ⟨a, xs, rfl, ha, ra⟩ := den_tup dv
      obtain ⟨u, u', rfl, d1, d2⟩ := ds2 ra
      exact ⟨[u, u'], ra, fun σ Q q => ⟨a, _, rfl, ex_t hid_le ha, rfl, u, [u'], rfl, u', [], rfl, rfl, q⟩⟩
    · cases h
theorem set_ok {i : Nat} {v : V} {d : D} (o : EnvOk K tb R env σ H) (dv : Den K H v d) : EnvOk K tb R (env.set i (some d)) (σ.set i (some v)) H := ⟨by rw [List.length_set, List.length_set]; exact o.len, o.tab, fun j m c hc => by
  by_cases e : i = j
  · subst e
    have hl : i < env.length := by
      have := (List.getElem?_eq_some_iff.mp hc).1
      rwa [List.length_set] at this
    rw [List.getElem?_set_self hl] at hc
    cases hc
    exact ⟨v, List.getElem?_set_self (by rw [← o.len]; exact hl), dv⟩
  · rw [List.getElem?_set_ne e] at hc
    rw [List.getElem?_set_ne e]
    exact o.get j m c hc⟩
theorem setAll_ok : ∀ {is : List Nat} {vs : List V} {ps : List D} {env : Sl} {σ : L2.St}, EnvOk K tb R env σ H → DenL K H vs ps → EnvOk K tb R (setAll is ps env) (setAll is vs σ) H
  | [], _, _, _, _, o, .nil => o
  | [], _, _, _, _, o, .cons _ _ => o
  | _ :: _, _, _, _, _, o, .nil => o
  | i :: is, _ :: vs, _ :: ps, env, σ, o, .cons h r => by
    have q := setAll_ok (is := is) (set_ok (i := i) o h) r
    exact q
def wipeE (env : Sl) : List Nat → Sl
  | [] => env
  | v :: vs => (wipeE env vs).set v none
theorem wipe_ok (o : EnvOk K tb R env σ H) : ∀ vs : List Nat, EnvOk K tb R (wipeE env vs) (wipe σ vs) H
  | [] => o
  | i :: vs => by
    have o := wipe_ok o vs
    refine ⟨by unfold wipeE wipe; rw [List.length_set, List.length_set]; exact o.len, o.tab, fun j m c hc => ?_⟩
    unfold wipeE at hc
    unfold wipe
    by_cases e : i = j
    · subst e
      have hl : i < (wipeE env vs).length := by
        have := (List.getElem?_eq_some_iff.mp hc).1
        rwa [List.length_set] at this
      rw [List.getElem?_set_self hl] at hc
      cases hc
    · rw [List.getElem?_set_ne e] at hc
      rw [List.getElem?_set_ne e]
      exact o.get j m c hc
theorem wipe_set {i : Nat} {x : Option V} : ∀ {vs : List Nat} {σ : L2.St}, i ∈ vs → wipe (σ.set i x) vs = wipe σ vs
  | v :: vs, σ, h => by
    unfold wipe
    by_cases hv : i ∈ vs
    · rw [wipe_set hv]
    · rcases List.mem_cons.mp h with e | e
      · subst e
        have : ∀ (vs : List Nat) (σ : L2.St), i ∉ vs → wipe (σ.set i x) vs = (wipe σ vs).set i x := fun vs => by
          induction vs with
          | nil => intro σ _; rfl
          | cons u us ih =>
            intro σ hn
            unfold wipe
            rw [ih σ (fun m => hn (List.mem_cons_of_mem _ m)), List.set_comm]
            intro e
            exact hn (by rw [e]; exact List.mem_cons_self)
        rw [this vs σ hv, List.set_set]
      · exact absurd e hv
theorem wipe_wipe (σ : L2.St) : ∀ vs us : List Nat, (∀ i ∈ us, i ∈ vs) → wipe (wipe σ us) vs = wipe σ vs
  | vs, [], _ => rfl
  | vs, u :: us, h => by
    rw [show wipe σ (u :: us) = (wipe σ us).set u none from rfl, wipe_set (h u List.mem_cons_self)]
    exact wipe_wipe σ vs us fun i m => h i (List.mem_cons_of_mem _ m)
theorem wipe_setAll : ∀ {is vs : List Nat} {xs : List V} {σ : L2.St}, (∀ i ∈ is, i ∈ vs) → wipe (setAll is xs σ) vs = wipe σ vs
  | [], _, [], _, _ => rfl
  | [], _, _ :: _, _, _ => rfl
  | _ :: _, _, [], _, _ => rfl
  | i :: is, vs, x :: xs, σ, h => by
    show wipe (setAll is xs (σ.set i (some x))) vs = _
    rw [wipe_setAll (fun j m => h j (List.mem_cons_of_mem _ m)), wipe_set (h i List.mem_cons_self)]
end
end Dx
set_option Elab.async false
set_option linter.all false
set_option maxRecDepth 100000
set_option maxHeartbeats 4000000
namespace Dx
open PySem PySem.Spec PyProof.Rows L2
open RZ RT
open D (okd okdA py pyA)
/-- no exception may come -/
def Wi.no (w : Wi) : Wi := ⟨fun _ _ _ => False, w.tb⟩
def noErr {α : Type} : Res α → Res α
  | .err _ => .stuck
  | r => r
@[simp] theorem noErr_ok {α : Type} (a : α) : noErr (.ok a) = .ok a := rfl
def lcGo (tg : Tgt) (t : EB) (f : EE) (base : Sl) : List D → Res (List D)
  | [] => .ok []
  | d :: ds => (parts tg d).bind fun ps => (noErr (t (setAll tg.slots ps base))).bind fun b => if b = true then (noErr (f (setAll tg.slots ps base))).bind fun y => (lcGo tg t f base ds).map (y :: ·) else lcGo tg t f base ds
theorem lcGo_cons (tg : Tgt) (t : EB) (f : EE) (base : Sl) (d : D) (ds : List D) : lcGo tg t f base (d :: ds) = (parts tg d).bind fun ps => (noErr (t (setAll tg.slots ps base))).bind fun b => if b = true then (noErr (f (setAll tg.slots ps base))).bind fun y => (lcGo tg t f base ds).map (y :: ·) else lcGo tg t f base ds := rfl
def eLc (items : EL) (tg : Tgt) (own : List Nat) (t : EB) (f : EE) : EL := fun env => (items env).bind fun ds => lim ds.length (lcGo tg t f (wipeE env own) ds)
def eYes : EB := fun _ => .ok true
theorem map_map {α β γ : Type} (f : α → β) (g : β → γ) (r : Res α) : (r.map f).map g = r.map fun a => g (f a) := by cases r <;> rfl
theorem map_id' {α : Type} {f : α → α} (h : ∀ a, f a = a) (r : Res α) : r.map f = r := by cases r <;> simp [h]
theorem hid_upd {S : List Addr} {H : Hp} {p : Addr} {o : HO} (m : p ∈ S) : hid S (upd H p o) = hid S H := by
  funext a
  unfold hid
  by_cases h : a ∈ S
  · rw [if_pos h, if_pos h]
  · rw [if_neg h, if_neg h, upd_ne (fun e => h (by rw [e]; exact m))]
theorem parts_noerr {tg : Tgt} {d : D} {c : Str} : parts tg d ≠ .err c := by
  intro h
  unfold parts at h
  split at h <;> cases h
section
variable {X : Cx} {w : Wi} {Ri Rt Re : List Nat} {elt tg iter : Expr} {ifs : List Expr} {scope : Scope} {own : List (Str × Nat)} {pos : Pos} {items : EL} {t : EB} {f : EE}
abbrev BT (X : Cx) (w : Wi) (R : List Nat) (ifs : List Expr) (t : EB) : Prop := PTs X ifs (tS isB X.K w R t)
theorem bt_nil : BT X w [] [] eYes := ⟨fun pins s σ H Q I ⟨S, env, sub, ok, po⟩ => pts_nil.run pins s σ H Q I (show tYes σ H Q from Post.okay (Rel := isB) po rfl)⟩
theorem bt_one {c : Expr} (h : DT X w Rt c t) : BT X w Rt [c] t := pts_one h
/-- the reading of the loop -/
theorem lc_core_of {tgt : Tgt} {vs : List Nat} (hs : ∀ i ∈ tgt.slots, i ∈ vs) {σ : L2.St} {H : Hp} {Q : VK} (h : tF X.K w (Ri ++ (Rt ++ Re)) (eLc items tgt vs t f) σ H Q) :
    tLc (tS (Walks X.K) X.K w Ri items) (gT X.K tgt) (tS isB X.K w.no Rt t) (tS (Den X.K) X.K w.no Re f) vs σ H Q := by
  obtain ⟨S, env, sub, ok, po⟩ := h
  refine ⟨S, env, sub, ok.left, PostF.bind po fun ds _ J H1 e1 wk po1 => fun D hD => ?_⟩
  obtain ⟨hz, po1⟩ : ds.length ≤ 100000 ∧ PostF X.K w S σ H1 Q (lcGo tgt t f (wipeE env vs) ds) := by
    unfold lim at po1
    split at po1
    · exact ⟨by assumption, po1⟩
    · exact po1.elim
  have sub1 := sub.mono e1
  have ok1 := (wipe_ok (ok.right.mono (hid_ex e1)) vs)
  obtain ⟨base, hbase⟩ : ∃ b, b = wipeE env vs := ⟨_, rfl⟩
  rw [← hbase] at po1 ok1
  let Iv : Nat → Hp → Prop := fun i H' => Ex H1 H' ∧ i ≤ ds.length ∧ ∃ acc ys, H' D = some (.lst acc) ∧ DenL X.K (hid (D :: S) H') acc ys ∧ ys.length ≤ i ∧ lcGo tgt t f base ds = (lcGo tgt t f base (ds.drop i)).map (ys ++ ·)
  refine ⟨fun i m H' => m = ds.length - i ∧ Iv i H', ⟨ds.length, by simp, Ex.new hD, Nat.zero_le _, [], [], upd_same, .nil, Nat.le_refl _, by rw [List.drop_zero]; exact (map_id' (fun _ => rfl) _).symm⟩, ?_⟩
  rintro i m H' ⟨rfl, e2, hi, acc, ys, hacc, dacc, hys, heq⟩
  have exH : Ex (hid S H1) (hid (D :: S) H') := hid_fresh hD e2
  have subD : Sub (D :: S) H' := fun a m z => by
    rcases List.mem_cons.mp m with q | q
    · rw [q, hacc] at z; cases z
    · exact (sub1.mono e2) a q z
  by_cases hlt : i < ds.length
  · refine .inr ?_
    obtain ⟨d, hd⟩ : ∃ d, ds[i]? = some d := ⟨ds[i], by simp [hlt]⟩
    obtain ⟨hgo, hyld⟩ := (wk i H' (exH.trans hid_le)).2 d hd
    refine ⟨hgo, Iv (i + 1), fun H'' q => ⟨ds.length - (i + 1), by omega, rfl, q⟩, fun x H'' hy => ?_⟩
    obtain ⟨e3, hden⟩ := hyld x H'' hy
    have dx := hden (D :: S) subD exH
    have hdrop : ds.drop i = d :: ds.drop (i + 1) := by
      obtain ⟨hl, he⟩ := List.getElem?_eq_some_iff.mp hd
      rw [← he]
      exact List.drop_eq_getElem_cons hl
    rw [hdrop] at heq
    rw [heq] at po1
    rw [lcGo_cons] at heq po1
    cases hp : parts tgt d with
    | stuck => rw [hp] at po1; exact po1.elim
    | err c => exact absurd hp parts_noerr
    | ok ps =>
      rw [hp] at po1 heq
      obtain ⟨us, dus, hset⟩ := gT_ok (K := X.K) hp dx
      refine hset _ _ ⟨?_, ?_⟩
      · rw [wipe_setAll hs, wipe_wipe σ vs vs fun _ m => m]
      · have ok2 : EnvOk X.K w.tb (Rt ++ Re) (setAll tgt.slots ps base) (setAll tgt.slots us (wipe σ vs)) (hid (D :: S) H'') := setAll_ok (ok1.mono (exH.trans (hid_ex e3))) dus
        refine ⟨D :: S, setAll tgt.slots ps base, subD.mono e3, ok2.left, ?_⟩
        rw [bind_ok] at po1 heq
        cases ht : t (setAll tgt.slots ps base) with
        | stuck => rw [ht] at po1; exact po1.elim
        | err c => rw [ht] at po1; exact po1.elim
        | ok b =>
          rw [ht, noErr_ok, bind_ok] at po1 heq
          intro b' H3 e4 hb
          cases (show b' = b from hb)
          cases b with
          | false =>
            exact ⟨(e2.trans e3).trans e4, hlt, acc, ys, e4 _ _ (e3 _ _ hacc), dacc.mono (hid_ex (e3.trans e4)), by omega, by rw [if_neg Bool.false_ne_true] at heq; exact heq⟩
          | true =>
            refine ⟨D :: S, setAll tgt.slots ps base, (subD.mono e3).mono e4, ok2.right.mono (hid_ex e4), ?_⟩
            rw [if_pos rfl] at po1 heq
            cases hf : f (setAll tgt.slots ps base) with
            | stuck => rw [hf] at po1; exact po1.elim
            | err c => rw [hf] at po1; exact po1.elim
            | ok y =>
              rw [hf] at heq
              intro v H4 e5 dv
              have h4 : H4 D = some (.lst acc) := e5 _ _ (e4 _ _ (e3 _ _ hacc))
              have e6 := ((e2.trans e3).trans e4).trans e5
              refine ⟨acc, h4, Evl.sz_lt (by rw [dacc.len]; omega), Ex.mutd e6 hD, hlt, acc ++ [v], ys ++ [y], upd_same, ?_, by rw [List.length_append]; show ys.length + 1 ≤ i + 1; omega, ?_⟩
              · rw [hid_upd List.mem_cons_self]
                exact (dacc.mono (hid_ex ((e3.trans e4).trans e5))).append (.one dv)
              · rw [heq, noErr_ok, bind_ok, map_map]
                congr 1
                funext l
                rw [List.append_assoc]
                rfl
  · have e : i = ds.length := by omega
    refine .inl ⟨(wk i H' (exH.trans hid_le)).1 (by omega), ?_⟩
    rw [e, List.drop_length] at heq
    rw [heq] at po1
    have q := po1 D acc H' hD e2 hacc
    dsimp only at q
    rw [List.append_nil] at q
    exact q dacc
theorem dl_lc (tgt : Tgt) (hc : X.calm = true) (hN : X.N.Nodup) (hi : DI X w Ri tg iter items) (ok : BlkOk X.N X.env.scope scope own) (hs : ∀ i ∈ tgt.slots, i ∈ own.map (·.2))
    (hg : ∀ (s : Shared) (H : Hp) (C : Addr) (cl : List (Str × Addr)) (fp : List Addr), PG (X.blk s H scope (compEnvC scope cl C X.env) fp) tg (gT X.K tgt))
    (ht : ∀ (s : Shared) (H : Hp) (C : Addr) (cl : List (Str × Addr)) (fp : List Addr), BT (X.blk s H scope (compEnvC scope cl C X.env) fp) w.no Rt ifs t)
    (he : ∀ (s : Shared) (H : Hp) (C : Addr) (cl : List (Str × Addr)) (fp : List Addr), DE (X.blk s H scope (compEnvC scope cl C X.env) fp) w.no Re elt f) (hf : ∀ x, foldedSetIterable iter X.env x = pure x := by intro _; rfl) :
    DL X w (Ri ++ (Rt ++ Re)) (.ListComp elt [⟨tg, iter, ifs, 0⟩] scope pos) (eLc items tgt (own.map (·.2)) t f) :=
  PE.weak (pe_lc hc hN hi ok hg ht he hf) fun _ _ _ h => lc_core_of hs h
theorem pg_one (i : Nat) {x : Str} (hN : X.N.Nodup) (hi : X.N[i]? = some x := by rfl) (hx : Loc X.env.scope x := by first | exact .inl rfl | exact .inr rfl) (hf : X.fn x = true ∨ X.env.scope.names.lookup x = some .local := by first | exact .inl rfl | exact .inr rfl) : PG X (.Name x pos) (gT X.K (.one i)) := pg_name hN hi hx hf
theorem pg_two (i j : Nat) {x y : Str} {p1 p2 : Pos} {k : Nat} (hc : X.calm = true) (hN : X.N.Nodup) (hi : X.N[i]? = some x := by rfl) (hj : X.N[j]? = some y := by rfl) (hx : Loc X.env.scope x := by first | exact .inl rfl | exact .inr rfl) (hy : Loc X.env.scope y := by first | exact .inl rfl | exact .inr rfl)
    (hf : X.fn x = true ∨ X.env.scope.names.lookup x = some .local := by first | exact .inl rfl | exact .inr rfl) (hf' : X.fn y = true ∨ X.env.scope.names.lookup y = some .local := by first | exact .inl rfl | exact .inr rfl) : PG X (.Tuple [.Name x p1, .Name y p2] k pos) (gT X.K (.two i j)) :=
  pg_tup hc (pgs_cons (pg_name hN hi hx hf) (pgs_cons (pg_name hN hj hy hf') pgs_nil))
end
end Dx
set_option Elab.async false
set_option linter.all false
set_option maxRecDepth 100000
set_option maxHeartbeats 4000000
namespace Dx
open PySem PySem.Spec PyProof.Rows L2
open RZ RT
open D (okd okdA py pyA)
/-- the state's data: the slots of O hold lists of the def's own (at P), the rest leans on none of these; Hf: the heap at the entry; S: what the answer must not lean on; B: what stays -/
structure StOk (K : PySem.W.Frag) (tb : List Addr) (Hf : Hp) (S : List Addr) (B : Hp) (O : List Nat) (P : Nat → Addr) (env : Sl) (σ : L2.St) (H : Hp) : Prop where
  len : env.length = σ.length
  exf : Ex Hf H
  sub : Sub S Hf
  bas : Ex B (hid (S ++ O.map P) H)
  tab : ∀ T ∈ tb, GxR.TabG (hid (S ++ O.map P) H) T
  inj : ∀ i ∈ O, ∀ j ∈ O, P i = P j → i = j
  own : ∀ i ∈ O, Hf (P i) = none ∧ ∃ vs ds, σ[i]? = some (some (.ref (P i))) ∧ env[i]? = some (some (.lst ds)) ∧ H (P i) = some (.lst vs) ∧ DenL K (hid (S ++ O.map P) H) vs ds
  oth : ∀ i, i ∉ O → ∀ d, env[i]? = some (some d) → ∃ v, σ[i]? = some (some v) ∧ Den K (hid (S ++ O.map P) H) v d
section
variable {K : PySem.W.Frag} {tb : List Addr} {Hf B B' H H1 : Hp} {S : List Addr} {O O' R : List Nat} {P : Nat → Addr} {env : Sl} {σ : L2.St}
theorem StOk.subT (st : StOk K tb Hf S B O P env σ H) : Sub (S ++ O.map P) H := fun a m z => by
  rcases List.mem_append.mp m with q | q
  · exact (st.sub.mono st.exf) a q z
  · obtain ⟨i, hi, e⟩ := List.mem_map.mp q
    obtain ⟨_, vs, ds, _, _, h, _⟩ := st.own i hi
    rw [e, z] at h; cases h
theorem StOk.rd (st : StOk K tb Hf S B O P env σ H) (h : ∀ i ∈ R, i ∉ O) : EnvOk K tb R env σ (hid (S ++ O.map P) H) := ⟨st.len, st.tab, fun i m d e => st.oth i (h i m) d e⟩
theorem StOk.grow (st : StOk K tb Hf S B O P env σ H) (e : Ex H H1) : StOk K tb Hf S B O P env σ H1 := ⟨st.len, st.exf.trans e, st.sub, st.bas.trans (hid_ex e), fun T m => (hid_ex e).tab (st.tab T m), st.inj, fun i m => by
  obtain ⟨h0, vs, ds, h1, h2, h3, h4⟩ := st.own i m
  exact ⟨h0, vs, ds, h1, h2, e _ _ h3, h4.mono (hid_ex e)⟩, fun i m d h => by
  obtain ⟨v, h1, h2⟩ := st.oth i m d h
  exact ⟨v, h1, h2.mono (hid_ex e)⟩⟩
theorem StOk.rebase (st : StOk K tb Hf S B' O P env σ H) (e : Ex B B') : StOk K tb Hf S B O P env σ H := ⟨st.len, st.exf, st.sub, e.trans st.bas, st.tab, st.inj, st.own, st.oth⟩
theorem StOk.notS (st : StOk K tb Hf S B O P env σ H) {i : Nat} (hi : i ∈ O) : P i ∉ S := fun m => st.sub _ m (st.own i hi).1
theorem StOk.weak (st : StOk K tb Hf S B O P env σ H) (h : ∀ i ∈ O', i ∈ O) : StOk K tb Hf S B O' P env σ H := by
  have hs : ∀ a ∈ S ++ O'.map P, a ∈ S ++ O.map P := fun a m => by
    rcases List.mem_append.mp m with q | q
    · exact List.mem_append_left _ q
    · obtain ⟨i, hi, e⟩ := List.mem_map.mp q
      exact List.mem_append_right _ (List.mem_map.mpr ⟨i, h i hi, e⟩)
  have e : Ex (hid (S ++ O.map P) H) (hid (S ++ O'.map P) H) := hid_sub hs
  refine ⟨st.len, st.exf, st.sub, st.bas.trans e, fun T m => e.tab (st.tab T m), fun i hi j hj => st.inj i (h i hi) j (h j hj), fun i hi => ?_, fun i hi d hd => ?_⟩
  · obtain ⟨h0, vs, ds, h1, h2, h3, h4⟩ := st.own i (h i hi)
    exact ⟨h0, vs, ds, h1, h2, h3, h4.mono e⟩
  · by_cases ho : i ∈ O
    · obtain ⟨h0, vs, ds, h1, h2, h3, h4⟩ := st.own i ho
      rw [h2] at hd
      cases hd
      refine ⟨_, h1, .lst (hid_at (fun m => ?_) h3) (h4.mono e)⟩
      rcases List.mem_append.mp m with q | q
      · exact st.notS ho q
      · obtain ⟨j, hj, e'⟩ := List.mem_map.mp q
        exact hi (st.inj j (h j hj) i ho e' ▸ hj)
    · obtain ⟨v, h1, h2⟩ := st.oth i ho d hd
      exact ⟨v, h1, h2.mono e⟩
theorem StOk.bare (st : StOk K tb Hf S B O P env σ H) : StOk K tb Hf S B [] P env σ H := st.weak fun _ m => nomatch m
/-- everything may be read -/
theorem StOk.all (st : StOk K tb Hf S B O P env σ H) : EnvOk K tb R env σ (hid S H) := by
  have h := (st.bare.rd (R := R) fun _ _ m => nomatch m)
  rw [List.map_nil, List.append_nil] at h
  exact h
theorem StOk.subS (st : StOk K tb Hf S B O P env σ H) : Sub S H := st.sub.mono st.exf
theorem StOk.set (st : StOk K tb Hf S B O P env σ H) {i : Nat} (hi : i ∉ O) {v : V} {d : D} (dv : Den K (hid (S ++ O.map P) H) v d) : StOk K tb Hf S B O P (env.set i (some d)) (σ.set i (some v)) H := by
  refine ⟨by rw [List.length_set, List.length_set]; exact st.len, st.exf, st.sub, st.bas, st.tab, st.inj, fun j hj => ?_, fun j hj c hc => ?_⟩
  · obtain ⟨h0, vs, ds, h1, h2, h3, h4⟩ := st.own j hj
    have ne : i ≠ j := fun e => hi (e ▸ hj)
    exact ⟨h0, vs, ds, by rw [List.getElem?_set_ne ne]; exact h1, by rw [List.getElem?_set_ne ne]; exact h2, h3, h4⟩
  · by_cases e : i = j
    · subst e
      have hl : i < env.length := by
        have := (List.getElem?_eq_some_iff.mp hc).1
        rwa [List.length_set] at this
      rw [List.getElem?_set_self hl] at hc
      cases hc
      exact ⟨v, List.getElem?_set_self (by rw [← st.len]; exact hl), dv⟩
    · rw [List.getElem?_set_ne e] at hc ⊢
      exact st.oth j hj c hc
theorem StOk.setAll : ∀ {is : List Nat} {vs : List V} {ps : List D} {env : Sl} {σ : L2.St}, StOk K tb Hf S B O P env σ H → (∀ i ∈ is, i ∉ O) → DenL K (hid (S ++ O.map P) H) vs ps → StOk K tb Hf S B O P (Dx.setAll is ps env) (Dx.setAll is vs σ) H
  | [], _, _, _, _, st, _, .nil => st
  | [], _, _, _, _, st, _, .cons _ _ => st
  | _ :: _, _, _, _, _, st, _, .nil => st
  | i :: is, _ :: vs, _ :: ps, env, σ, st, h, .cons dv r => by
    have q := StOk.setAll (is := is) (st.set (i := i) (h i List.mem_cons_self) dv) (fun j m => h j (List.mem_cons_of_mem _ m)) r
    exact q
/-- a slot gets a list of the def's own -/
theorem StOk.new (st : StOk K tb Hf S B O P env σ H) {i : Nat} (hi : i ∉ O) (hl : i < env.length) {p : Addr} {vs : List V} {ds : List D} (e : Ex H H1) (hp : H p = none) (h1 : H1 p = some (.lst vs)) (r : DenL K (hid (p :: (S ++ O.map P)) H1) vs ds) :
    StOk K tb Hf S B (i :: O) (fun j => if j = i then p else P j) (env.set i (some (.lst ds))) (σ.set i (some (.ref p))) H1 := by
  have em : O.map (fun j => if j = i then p else P j) = O.map P := List.map_congr_left fun j hj => by
    rw [if_neg]
    intro q
    exact hi (q ▸ hj)
  have mem : ∀ a, a ∈ S ++ (i :: O).map (fun j => if j = i then p else P j) ↔ a ∈ p :: (S ++ O.map P) := fun a => by
    rw [List.map_cons, em, if_pos rfl, List.mem_append, List.mem_cons, List.mem_cons, List.mem_append]
    constructor
    · rintro (h | h | h)
      · exact .inr (.inl h)
      · exact .inl h
      · exact .inr (.inr h)
    · rintro (h | h | h)
      · exact .inr (.inl h)
      · exact .inl h
      · exact .inr (.inr h)
  have he : hid (S ++ (i :: O).map (fun j => if j = i then p else P j)) H1 = hid (p :: (S ++ O.map P)) H1 := by
    funext a
    unfold hid
    by_cases m : a ∈ p :: (S ++ O.map P)
    · rw [if_pos m, if_pos ((mem a).mpr m)]
    · rw [if_neg m, if_neg fun z => m ((mem a).mp z)]
  have ex : Ex (hid (S ++ O.map P) H) (hid (p :: (S ++ O.map P)) H1) := hid_fresh hp e
  have pn : ∀ j ∈ O, P j ≠ p := fun j hj z => by
    obtain ⟨_, vs, ds, _, _, h, _⟩ := st.own j hj
    rw [z, hp] at h; cases h
  refine ⟨by rw [List.length_set, List.length_set]; exact st.len, st.exf.trans e, st.sub, ?_, fun T m => by rw [he]; exact ex.tab (st.tab T m), fun j hj k hk q => ?_, fun j hj => ?_, fun j hj c hc => ?_⟩
  · rw [he]; exact st.bas.trans ex
  · by_cases ej : j = i
    · by_cases ek : k = i
      · rw [ej, ek]
      · rw [if_pos ej, if_neg ek] at q
        rcases List.mem_cons.mp hk with z | z
        · exact absurd z ek
        · exact absurd q.symm (pn k z)
    · rcases List.mem_cons.mp hj with z | z
      · exact absurd z ej
      · by_cases ek : k = i
        · rw [if_neg ej, if_pos ek] at q
          exact absurd q (pn j z)
        · rw [if_neg ej, if_neg ek] at q
          rcases List.mem_cons.mp hk with z' | z'
          · exact absurd z' ek
          · exact st.inj j z k z' q
  · rw [he]
    by_cases ej : j = i
    · subst ej
      rw [if_pos rfl]
      exact ⟨ex_none st.exf hp, vs, ds, List.getElem?_set_self (by rw [← st.len]; exact hl), List.getElem?_set_self hl, h1, r⟩
    · rw [if_neg ej]
      rcases List.mem_cons.mp hj with z | z
      · exact absurd z ej
      · obtain ⟨g0, us, es, g1, g2, g3, g4⟩ := st.own j z
        exact ⟨g0, us, es, by rw [List.getElem?_set_ne (Ne.symm ej)]; exact g1, by rw [List.getElem?_set_ne (Ne.symm ej)]; exact g2, e _ _ g3, g4.mono ex⟩
  · rw [he]
    have ej : i ≠ j := fun z => hj (z ▸ List.mem_cons_self)
    rw [List.getElem?_set_ne ej] at hc ⊢
    obtain ⟨v, g1, g2⟩ := st.oth j (fun m => hj (List.mem_cons_of_mem _ m)) c hc
    exact ⟨v, g1, g2.mono ex⟩
/-- a list of the def's own is changed -/
theorem StOk.upd (st : StOk K tb Hf S B O P env σ H) {i : Nat} (hi : i ∈ O) {vs : List V} {ds : List D} (r : DenL K (hid (S ++ O.map P) H) vs ds) : StOk K tb Hf S B O P (env.set i (some (.lst ds))) σ (L2.upd H (P i) (.lst vs)) := by
  have m : P i ∈ S ++ O.map P := List.mem_append_right _ (List.mem_map.mpr ⟨i, hi, rfl⟩)
  have he := hid_upd (H := H) (o := .lst vs) m
  obtain ⟨f0, us, es, f1, f2, f3, f4⟩ := st.own i hi
  have hl : i < env.length := (List.getElem?_eq_some_iff.mp f2).1
  refine ⟨by rw [List.length_set]; exact st.len, Ex.mutd st.exf f0, st.sub, by rw [he]; exact st.bas, by rw [he]; exact st.tab, st.inj, fun j hj => ?_, fun j hj c hc => ?_⟩
  · rw [he]
    by_cases ej : i = j
    · subst ej
      exact ⟨f0, vs, ds, f1, List.getElem?_set_self hl, upd_same, r⟩
    · obtain ⟨g0, us, es, g1, g2, g3, g4⟩ := st.own j hj
      exact ⟨g0, us, es, g1, by rw [List.getElem?_set_ne ej]; exact g2, by rw [upd_ne fun z => ej (st.inj i hi j hj z.symm)]; exact g3, g4⟩
  · rw [he]
    have ej : i ≠ j := fun z => hj (z ▸ hi)
    rw [List.getElem?_set_ne ej] at hc
    exact st.oth j hj c hc
end
theorem flat_any {K : PySem.W.Frag} {H H' : Hp} {v : V} {d : D} (h : Den K H v d) (f : D.flat d = true) : Den K H' v d := by
  cases h <;> first | exact absurd f Bool.false_ne_true | constructor
inductive Out where
  | nxt (e : Sl) | ret (d : D) | brk (e : Sl) | cnt (e : Sl) | err (c : Str) (e : Sl) | stuck
def PostS (K : PySem.W.Frag) (w : Wi) (Hf : Hp) (S : List Addr) (B : Hp) (fr : Bool) (L O : List Nat) (Dn : Ends) : Out → Prop
  | .nxt e => ∀ P σ H, StOk K w.tb Hf S B O P e σ H → Dn.nx σ H
  | .brk e => ∀ P σ H, StOk K w.tb Hf S B L P e σ H → Dn.bk σ H
  | .cnt e => ∀ P σ H, StOk K w.tb Hf S B L P e σ H → Dn.ct σ H
  | .ret d => ∀ v H1, Ex Hf H1 → RetOk K fr S Hf H1 v d → Dn.rt v H1
  | .err c e => ∀ P σ H, StOk K w.tb Hf S B [] P e σ H → w c σ H
  | .stuck => False
def sS (K : PySem.W.Frag) (w : Wi) (fr : Bool) (L O O' : List Nat) (f : Sl → Out) : TS := fun Dn σ H => ∃ (Hf : Hp) (S : List Addr) (B : Hp) (P : Nat → Addr) (env : Sl), StOk K w.tb Hf S B O P env σ H ∧ PostS K w Hf S B fr L O' Dn (f env)
abbrev DS (X : Cx) (w : Wi) (fr : Bool) (L O O' : List Nat) (st : Stmt) (f : Sl → Out) : Prop := PS X st (sS X.K w fr L O O' f)
abbrev DSs (X : Cx) (w : Wi) (fr : Bool) (L O O' : List Nat) (st : List Stmt) (f : Sl → Out) : Prop := PSs X st (sS X.K w fr L O O' f)
def toOut (env : Sl) : Res Out → Out
  | .ok o => o
  | .err c => .err c env
  | .stuck => .stuck
def sNext : Sl → Out := .nxt
def Out.andThen (o : Out) (g : Sl → Out) : Out := match o with
  | .nxt e => g e
  | o => o
def sSeq (f g : Sl → Out) : Sl → Out := fun env => (f env).andThen g
def sSet (i : Nat) (f : EE) : Sl → Out := fun env => toOut env ((f env).map fun d => .nxt (env.set i (some d)))
def sSetF (i : Nat) (f : EE) : Sl → Out := fun env => toOut env ((f env).bind fun d => if D.flat d = true then .ok (.nxt (env.set i (some d))) else .stuck)
def sOwn (i : Nat) (f : EL) : Sl → Out := fun env => toOut env ((f env).bind fun ds => if i < env.length then .ok (.nxt (env.set i (some (.lst ds)))) else .stuck)
def sRet (f : EE) : Sl → Out := fun env => toOut env ((f env).map .ret)
def sRetL (f : EL) : Sl → Out := fun env => toOut env ((f env).map fun ds => .ret (.lst ds))
def sDrop (f : EE) : Sl → Out := fun env => toOut env ((f env).map fun _ => .nxt env)
def Res.branch (r : Res Bool) (env : Sl) (f g : Sl → Out) : Out := match r with
  | .ok b => if b = true then f env else g env
  | .err c => .err c env
  | .stuck => .stuck
def sIf (t : EB) (f g : Sl → Out) : Sl → Out := fun env => (t env).branch env f g
section
variable {X : Cx} {w : Wi} {fr : Bool} {L O O' O1 O2 R Ra Rb Rc : List Nat} {st : Stmt} {rest sa sb : List Stmt} {a b c e : Expr} {es : List Expr} {f f1 f2 : EE} {fl : EL} {t : EB} {s1 s2 : Sl → Out} {pos pos' : Pos} {i : Nat} {x : Str}
theorem PostS.mono {K : PySem.W.Frag} {Hf B B' : Hp} {S : List Addr} {Dn : Ends} {o : Out} (h : PostS K w Hf S B fr L O Dn o) (e : Ex B B') : PostS K w Hf S B' fr L O Dn o := by
  cases o with
  | nxt _ => exact fun P σ H st => h P σ H (st.rebase e)
  | brk _ => exact fun P σ H st => h P σ H (st.rebase e)
  | cnt _ => exact fun P σ H st => h P σ H (st.rebase e)
  | ret _ => exact h
  | err _ _ => exact fun P σ H st => h P σ H (st.rebase e)
  | stuck => exact h
theorem dss_nil : DSs X w fr L O O [] sNext := PSs.weak pss_nil fun Dn σ H ⟨Hf, S, B, P, env, st, po⟩ => po P σ H st
theorem dss_cons (h1 : DS X w fr L O O1 st s1) (h2 : DSs X w fr L O1 O2 rest s2) : DSs X w fr L O O2 (st :: rest) (sSeq s1 s2) := PSs.weak (pss_cons h1 h2) fun Dn σ H ⟨Hf, S, B, P, env, st, po⟩ => by
  refine ⟨Hf, S, B, P, env, st, ?_⟩
  unfold sSeq Out.andThen at po
  cases q : s1 env with
  | nxt e => rw [q] at po; exact fun P' σ' H' st' => ⟨Hf, S, B, P', e, st', po⟩
  | ret d => rw [q] at po; exact po
  | brk e => rw [q] at po; exact po
  | cnt e => rw [q] at po; exact po
  | err c e => rw [q] at po; exact po
  | stuck => rw [q] at po; exact po
theorem dss_one (h1 : DS X w fr L O O1 st s1) : DSs X w fr L O O1 [st] s1 := pss_one h1
theorem PostS.post {K : PySem.W.Frag} {Hf B : Hp} {S : List Addr} {Dn : Ends} {o : Out} (hO : ∀ j ∈ O', j ∈ O) (h : PostS K w Hf S B fr L O' Dn o) : PostS K w Hf S B fr L O Dn o := by
  cases o with
  | nxt _ => exact fun P σ H st => h P σ H (st.weak hO)
  | _ => exact h
theorem ds_post (hO : ∀ j ∈ O', j ∈ O1) (h : DS X w fr L O O1 st s1) : DS X w fr L O O' st s1 := PS.weak h fun Dn σ H ⟨Hf, S, B, P, env, st, po⟩ => ⟨Hf, S, B, P, env, st, po.post hO⟩
/-- an evaluation in such a state, what it reads being none of O -/
theorem eval_at {α β : Type} {Rel : Hp → β → α → Prop} {K : PySem.W.Frag} {g : Sl → Res α} {Hf B : Hp} {S : List Addr} {P : Nat → Addr} {env : Sl} {σ : L2.St} {H : Hp} {Q : β → Hp → Prop} {Dn : Ends} {k : α → Res Out} (hR : ∀ j ∈ R, j ∉ O)
    (st : StOk K w.tb Hf S B O P env σ H) (po : PostS K w Hf S B fr L O' Dn (toOut env ((g env).bind k))) (hk : ∀ a b H1, StOk K w.tb Hf S B O P env σ H1 → Rel (hid (S ++ O.map P) H1) b a → PostS K w Hf S B fr L O' Dn (toOut env (k a)) → Q b H1) : tS Rel K w R g σ H Q := by
  refine ⟨S ++ O.map P, env, st.subT, st.rd hR, ?_⟩
  cases q : g env with
  | ok a => rw [q] at po; exact fun b H1 e r => hk a b H1 (st.grow e) r po
  | err c => rw [q] at po; exact fun H1 e => po P σ H1 (st.grow e).bare
  | stuck => rw [q] at po; exact po
/-- everything may be read, the answer leans on all -/
theorem eval_all {α β : Type} {Rel : Hp → β → α → Prop} {K : PySem.W.Frag} {g : Sl → Res α} {Hf B : Hp} {S : List Addr} {P : Nat → Addr} {env : Sl} {σ : L2.St} {H : Hp} {Q : β → Hp → Prop} {Dn : Ends} {k : α → Res Out}
    (st : StOk K w.tb Hf S B O P env σ H) (po : PostS K w Hf S B fr L O' Dn (toOut env ((g env).bind k))) (hk : ∀ a b H1, Ex H H1 → StOk K w.tb Hf S B O P env σ H1 → Rel (hid S H1) b a → PostS K w Hf S B fr L O' Dn (toOut env (k a)) → Q b H1) : tS Rel K w R g σ H Q := by
  refine ⟨S, env, st.subS, st.all, ?_⟩
  cases q : g env with
  | ok a => rw [q] at po; exact fun b H1 e r => hk a b H1 e (st.grow e) r po
  | err c => rw [q] at po; exact fun H1 e => po P σ H1 (st.grow e).bare
  | stuck => rw [q] at po; exact po
theorem evalF_at {K : PySem.W.Frag} {g : EL} {Hf B : Hp} {S : List Addr} {P : Nat → Addr} {env : Sl} {σ : L2.St} {H : Hp} {Q : VK} {Dn : Ends} {k : List D → Res Out} (hR : ∀ j ∈ R, j ∉ O)
    (st : StOk K w.tb Hf S B O P env σ H) (po : PostS K w Hf S B fr L O' Dn (toOut env ((g env).bind k))) (hk : ∀ ds p vs H1, H p = none → Ex H H1 → H1 p = some (.lst vs) → DenL K (hid (p :: (S ++ O.map P)) H1) vs ds → PostS K w Hf S B fr L O' Dn (toOut env (k ds)) → Q (.ref p) H1) : tF K w R g σ H Q := by
  refine ⟨S ++ O.map P, env, st.subT, st.rd hR, ?_⟩
  cases q : g env with
  | ok a => rw [q] at po; exact fun p vs H1 hp e h1 r => hk a p vs H1 hp e h1 r po
  | err c => rw [q] at po; exact fun H1 e => po P σ H1 (st.grow e).bare
  | stuck => rw [q] at po; exact po
theorem map_bind {α β : Type} (g : α → β) (r : Res α) : r.map g = r.bind fun a => .ok (g a) := by cases r <;> rfl
theorem ds_set (hR : ∀ j ∈ R, j ∉ O) (hi : i ∉ O) (hN : X.N.Nodup) (he : DE X w R e f) (hx : X.N[i]? = some x := by rfl) (hl : Loc X.env.scope x := by first | exact .inl rfl | exact .inr rfl) (hs : swapsWith e (some (.Name x pos')) pos.line X.env = pure false := by rfl) (hf : X.fn x = true ∨ X.env.scope.names.lookup x = some .local := by first | exact .inl rfl | exact .inr rfl) :
    DS X w fr L O O (.Assign [.Name x pos'] e pos) (sSet i f) := PS.weak (ps_set hN hx hl he hs hf) fun Dn σ H ⟨Hf, S, B, P, env, st, po⟩ => by
  unfold sSet at po
  rw [map_bind] at po
  exact eval_at hR st po fun d v H1 st1 dv po1 => po1 _ _ _ (st1.set hi dv)
theorem own_of {σ : L2.St} {H : Hp} {Dn : Ends} (hR : ∀ j ∈ R, j ∉ O) (hi : i ∉ O) (h : sS X.K w fr L O (i :: O) (sOwn i fl) Dn σ H) : tAsg (tF X.K w R fl) (gName i) Dn σ H := by
  obtain ⟨Hf, S, B, P, env, st, po⟩ := h
  unfold sOwn at po
  refine evalF_at hR st po fun ds p vs H1 hp e1 h1 r po1 => ?_
  by_cases hn : i < env.length
  · rw [if_pos hn] at po1
    exact po1 _ _ _ (st.new hi hn e1 hp h1 r)
  · rw [if_neg hn] at po1
    exact po1.elim
theorem ds_own (hR : ∀ j ∈ R, j ∉ O) (hi : i ∉ O) (hN : X.N.Nodup) (he : DL X w R e fl) (hx : X.N[i]? = some x := by rfl) (hl : Loc X.env.scope x := by first | exact .inl rfl | exact .inr rfl) (hs : swapsWith e (some (.Name x pos')) pos.line X.env = pure false := by rfl) (hf : X.fn x = true ∨ X.env.scope.names.lookup x = some .local := by first | exact .inl rfl | exact .inr rfl) :
    DS X w fr L O (i :: O) (.Assign [.Name x pos'] e pos) (sOwn i fl) := PS.weak (ps_set hN hx hl he hs hf) fun Dn σ H h => own_of hR hi h
theorem ds_ownLc {Ri Rt Re : List Nat} {elt tg iter : Expr} {ifs : List Expr} {scope : Scope} {own : List (Str × Nat)} {cpos : Pos} {items : EL} (tgt : Tgt) (hR : ∀ j ∈ Ri ++ (Rt ++ Re), j ∉ O) (hi : i ∉ O) (hc : X.calm = true) (hN : X.N.Nodup) (hit : DI X w Ri tg iter items) (ok : BlkOk X.N X.env.scope scope own) (hs : ∀ i ∈ tgt.slots, i ∈ own.map (·.2))
    (hg : ∀ (s : Shared) (H : Hp) (C : Addr) (cl : List (Str × Addr)) (fp : List Addr), PG (X.blk s H scope (compEnvC scope cl C X.env) fp) tg (gT X.K tgt))
    (ht : ∀ (s : Shared) (H : Hp) (C : Addr) (cl : List (Str × Addr)) (fp : List Addr), BT (X.blk s H scope (compEnvC scope cl C X.env) fp) w.no Rt ifs t)
    (he : ∀ (s : Shared) (H : Hp) (C : Addr) (cl : List (Str × Addr)) (fp : List Addr), DE (X.blk s H scope (compEnvC scope cl C X.env) fp) w.no Re elt f)
    (hy : X.N[i]? = some x := by rfl) (hyl : X.env.scope.names.lookup x = some .local := by rfl) (hsw : swapsWith (.ListComp elt [⟨tg, iter, ifs, 0⟩] scope cpos) (some (.Name x pos')) pos.line X.env = pure true := by exact sw_true rfl rfl rfl (by decide +kernel)) (hf : ∀ x, foldedSetIterable iter X.env x = pure x := by intro _; rfl) :
    DS X w fr L O (i :: O) (.Assign [.Name x pos'] (.ListComp elt [⟨tg, iter, ifs, 0⟩] scope cpos) pos) (sOwn i (eLc items tgt (own.map (·.2)) t f)) := PS.weak (ps_setLc hc hN hy hyl hsw hit ok hg ht he hf) fun Dn σ H h => by
  have q := own_of (R := Ri ++ (Rt ++ Re)) hR hi h
  exact lc_core_of hs q
theorem ds_ret (he : DE X w R e f) : DS X w false L O O' (.Return (some e) pos) (sRet f) := PS.weak (ps_ret he) fun Dn σ H ⟨Hf, S, B, P, env, st, po⟩ => by
  unfold sRet at po
  rw [map_bind] at po
  exact eval_all (Rel := Den X.K) st po fun d v H1 _ st1 dv po1 => po1 v H1 st1.exf dv
def sRetV (i : Nat) : Sl → Out := fun env => match env[i]? with
  | some (some d) => .ret d
  | _ => .stuck
theorem ds_drop (he : DE X w R e f) (hs : swapsWith e none pos.line X.env = pure false := by rfl) : DS X w fr L O O (.Expr e pos) (sDrop f) := PS.weak (ps_expr he hs) fun Dn σ H ⟨Hf, S, B, P, env, st, po⟩ => by
  unfold sDrop at po
  rw [map_bind] at po
  exact eval_all (Rel := Den X.K) st po fun d v H1 _ st1 dv po1 => po1 _ _ _ st1
theorem ds_if (hc : DT X w Rc c t) (ha : DSs X w fr L O O' sa s1) (hb : DSs X w fr L O O' sb s2) : DS X w fr L O O' (.If c sa sb pos) (sIf t s1 s2) := PS.weak (ps_if hc ha hb) fun Dn σ H ⟨Hf, S, B, P, env, st, po⟩ => by
  refine ⟨S, env, st.subS, st.all, ?_⟩
  unfold sIf Res.branch at po
  cases q : t env with
  | ok b =>
    rw [q] at po
    intro b' H1 e1 hb'
    cases (show b' = b from hb')
    cases b with
    | true => exact ⟨Hf, S, B, P, env, st.grow e1, po⟩
    | false => exact ⟨Hf, S, B, P, env, st.grow e1, po⟩
  | err c => rw [q] at po; exact fun H1 e1 => po P σ H1 (st.grow e1).bare
  | stuck => rw [q] at po; exact po
def sApp (i : Nat) (f : EE) : Sl → Out := fun env => toOut env ((f env).bind fun d => match env[i]? with
  | some (some (.lst ds)) => lim (ds.length + 1) (.ok (.nxt (env.set i (some (.lst (ds ++ [d]))))))
  | _ => .stuck)
def sAppF (i : Nat) (f : EE) : Sl → Out := fun env => toOut env ((f env).bind fun d => if D.flat d = true then (match env[i]? with
  | some (some (.lst ds)) => lim (ds.length + 1) (.ok (.nxt (env.set i (some (.lst (ds ++ [d]))))))
  | _ => .stuck) else .stuck)
theorem lim_out {n : Nat} {env : Sl} {o : Res Out} {K : PySem.W.Frag} {Hf B : Hp} {S : List Addr} {Dn : Ends} (h : PostS K w Hf S B fr L O Dn (toOut env (lim n o))) : n ≤ 100000 ∧ PostS K w Hf S B fr L O Dn (toOut env o) := by
  unfold lim at h
  split at h
  · exact ⟨by assumption, h⟩
  · exact h.elim
theorem app_of (hi : i ∈ O) {K : PySem.W.Frag} {te : TE} {σ : L2.St} {H : Hp} {Dn : Ends} {Hf B : Hp} {S : List Addr} {P : Nat → Addr} {env : Sl} (st : StOk K w.tb Hf S B O P env σ H)
    (hte : te σ H fun v H1 => ∃ d ds, StOk K w.tb Hf S B O P env σ H1 ∧ Den K (hid (S ++ O.map P) H1) v d ∧ env[i]? = some (some (.lst ds)) ∧ PostS K w Hf S B fr L O Dn (toOut env (lim (ds.length + 1) (.ok (.nxt (env.set i (some (.lst (ds ++ [d]))))))))) (mono : ∀ Q Q' : VK, (∀ v H1, Q v H1 → Q' v H1) → te σ H Q → te σ H Q') :
    tDrop (tBM K "list" rAppend (tVar i) (tCons te tNil)) Dn σ H := by
  obtain ⟨h0, vs, ds0, h1, h2, h3, h4⟩ := st.own i hi
  refine ⟨_, h1, .inl ⟨rfl, vs, .of h3⟩, mono _ _ (fun v H1 q => ?_) hte⟩
  obtain ⟨d, ds, st1, dv, hds, po⟩ := q
  obtain ⟨_, us, es, g1, g2, g3, g4⟩ := st1.own i hi
  rw [hds] at g2
  cases g2
  obtain ⟨hz, po⟩ := lim_out po
  exact ⟨P i, us, v, rfl, rfl, g3, Evl.sz_lt (by rw [g4.len]; omega), po _ _ _ (st1.upd hi (g4.append (.one dv)))⟩
theorem tS_mono {α β : Type} {Rel : Hp → β → α → Prop} {K : PySem.W.Frag} {g : Sl → Res α} {σ : L2.St} {H : Hp} {Q Q' : β → Hp → Prop} (hQ : ∀ b H1, Q b H1 → Q' b H1) (h : tS Rel K w R g σ H Q) : tS Rel K w R g σ H Q' := by
  obtain ⟨S, env, sub, ok, po⟩ := h
  refine ⟨S, env, sub, ok, ?_⟩
  cases q : g env with
  | ok a => rw [q] at po; exact fun b H1 e r => hQ _ _ (po b H1 e r)
  | err c => rw [q] at po; exact po
  | stuck => rw [q] at po; exact po
theorem ds_app (hi : i ∈ O) (hR : ∀ j ∈ R, j ∉ O) {p1 p2 p3 : Pos} (he : DE X w R e f) (hN : X.N[i]? = some x := by rfl) (hv : Vis X.env.scope x := by first | exact Or.inl rfl | exact Or.inr (Or.inl rfl)) (hd : (x == ("__debug__" : Str)) = false := by decide) (hcd : (x == ("__classdict__" : Str)) = false := by decide)
    (hs : swapsWith (.Call (.Attribute (.Name x p1) "append" p2) [e] [] p3) none pos.line X.env = pure false := by rfl) (hst : starEach [e] X.env = (false, eval e X.env) :: starEach [] X.env := by rfl)
    (hfew : ((backTo p3 (starEach [e] X.env)).all (fun x => !x.1) && (backToKw p3 (keywordEach [] X.env)).all (fun x => x.1.isSome) && decide ([e].length + ([] : List Keyword).length + (if ([] : List Keyword).isEmpty then 0 else 1) < 30)) = true := by rfl) (hline : (p2.endLine == p3.line) = true := by rfl)
    (hbase : attributeBase (.Name x p1) "append" X.env (eval (.Name x p1) X.env) = eval (.Name x p1) X.env := by rfl) :
    DS X w fr L O O (.Expr (.Call (.Attribute (.Name x p1) "append" p2) [e] [] p3) pos) (sApp i f) :=
  PS.weak (ps_expr (pe_bm PySem.F.plainAttrs_list PySem.F.slot_list_append PySem.F.type_list_append mt_append (pe_var hN hv hd hcd) (pa_cons he pa_nil hst) hbase hfew hline hst) hs) fun Dn σ H ⟨Hf, S, B, P, env, st, po⟩ => by
    refine app_of (w := w) (fr := fr) (L := L) hi st (eval_at hR st po fun d v H1 st1 dv po1 => ?_) fun Q Q' hQ h => tS_mono hQ h
    obtain ⟨h0, vs, ds, h1, h2, h3, h4⟩ := st.own i hi
    rw [h2] at po1
    exact ⟨d, ds, st1, dv, h2, po1⟩
def sLst (g : List D → List D) (i : Nat) : Sl → Out := fun env => match env[i]? with
  | some (some (.lst ds)) => .nxt (env.set i (some (.lst (g ds))))
  | _ => .stuck
theorem ds_clear (hi : i ∈ O) {p1 p2 p3 : Pos} (hN : X.N[i]? = some x := by rfl) (hv : Vis X.env.scope x := by first | exact Or.inl rfl | exact Or.inr (Or.inl rfl)) (hd : (x == ("__debug__" : Str)) = false := by decide) (hcd : (x == ("__classdict__" : Str)) = false := by decide)
    (hs : swapsWith (.Call (.Attribute (.Name x p1) "clear" p2) [] [] p3) none pos.line X.env = pure false := by rfl) (hline : (p2.endLine == p3.line) = true := by rfl) (hbase : attributeBase (.Name x p1) "clear" X.env (eval (.Name x p1) X.env) = eval (.Name x p1) X.env := by rfl) :
    DS X w fr L O O (.Expr (.Call (.Attribute (.Name x p1) "clear" p2) [] [] p3) pos) (sLst (fun _ => []) i) :=
  PS.weak (ps_expr (pe_bm0 PySem.F.plainAttrs_list PySem.F.slot_list_clear PySem.F.type_list_clear mt_clear (pe_var hN hv hd hcd) hbase hline) hs) fun Dn σ H ⟨Hf, S, B, P, env, st, po⟩ => by
    obtain ⟨h0, vs, ds, h1, h2, h3, h4⟩ := st.own i hi
    unfold sLst at po
    rw [h2] at po
    exact ⟨_, h1, .inl ⟨rfl, vs, .of h3⟩, P i, vs, rfl, rfl, h3, po _ _ _ (st.upd hi .nil)⟩
end
end Dx
set_option Elab.async false
set_option linter.all false
set_option maxRecDepth 100000
set_option maxHeartbeats 4000000
namespace Dx
open PySem PySem.Spec PyProof.Rows L2
open RZ RT
open D (okd okdA py pyA)
section
variable {X : Cx} {w : Wi} {fr : Bool} {L O O' O1 O2 R Ra Rb Rc Ri : List Nat} {st : Stmt} {body rest sa sb : List Stmt} {a b c e tg iter : Expr} {es : List Expr} {f f1 f2 : EE} {fl items : EL} {t : EB} {s1 s2 sf : Sl → Out} {pos pos' : Pos} {i j : Nat} {x y : Str}
def sAug (i : Nat) (g : D → D → Res D) (f : EE) : Sl → Out := fun env => toOut env (match env[i]? with
  | some (some d) => (f env).bind fun c => (g d c).bind fun r => if D.flat r = true then .ok (.nxt (env.set i (some r))) else .stuck
  | _ => .stuck)
namespace D
def iadd : D → D → Res D
  | .int i, .int j => .ok (.int (i + j))
  | .str x, .str y => lim (x.length + y.length) (.ok (.str (x ++ y)))
  | _, _ => .stuck
end D
def sTgt (tg : Tgt) (f : EE) : Sl → Out := fun env => toOut env ((f env).bind fun d => (parts tg d).map fun ps => .nxt (setAll tg.slots ps env))
theorem ds_tgt {k : Nat} {es : List Expr} (tgt : Tgt) (hR : ∀ j ∈ R, j ∉ O) (hT : ∀ j ∈ tgt.slots, j ∉ O) (he : DE X w R e f) (hg : PG X (.Tuple es k pos') (gT X.K tgt)) (hs : swapsWithSole [.Tuple es k pos'] e pos.line X.env = pure false := by rfl) (hw : swappedStores [.Tuple es k pos'] e X.env = pure none := by rfl)
    (h1 : (assignEach [.Tuple es k pos'] X.env).map (·.2) = [assign (.Tuple es k pos') X.env] := by rfl) : DS X w fr L O O (.Assign [.Tuple es k pos'] e pos) (sTgt tgt f) :=
  PS.weak (ps_asg he hg hs hw h1) fun Dn σ H ⟨Hf, S, B, P, env, st, po⟩ => by
    unfold sTgt at po
    refine eval_at (Rel := Den X.K) hR st po fun d v H1 st1 dv po1 => ?_
    cases hp : parts tgt d with
    | ok ps =>
      rw [hp] at po1
      obtain ⟨us, dus, hset⟩ := gT_ok (K := X.K) hp dv
      exact hset _ _ (po1 _ _ _ (st1.setAll hT dus))
    | err c => exact absurd hp parts_noerr
    | stuck => rw [hp] at po1; exact po1.elim
def Out.loop (o : Out) (k : Sl → Out) : Out := match o with
  | .nxt e => k e
  | .cnt e => k e
  | .brk e => .nxt e
  | .ret d => .ret d
  | .err c e => .err c e
  | .stuck => .stuck
def forGo (tg : Tgt) (s : Sl → Out) : List D → Sl → Out
  | [], env => .nxt env
  | d :: ds, env => match parts tg d with
    | .ok ps => (s (setAll tg.slots ps env)).loop (forGo tg s ds)
    | _ => .stuck
def Res.walk (r : Res (List D)) (env : Sl) (k : List D → Sl → Out) : Out := match r with
  | .ok ds => k ds env
  | .err c => .err c env
  | .stuck => .stuck
def sFor (items : EL) (tg : Tgt) (s : Sl → Out) : Sl → Out := fun env => (items env).walk env (forGo tg s)
theorem ds_for (tgt : Tgt) (hR : ∀ j ∈ Ri, j ∉ O) (hT : ∀ j ∈ tgt.slots, j ∉ O) (hp : PassesOwn (model X.prog X.w) X.A X.env X.xe) (hc : X.calm = true) (hi : DI X w Ri tg iter items) (hg : PG X tg (gT X.K tgt)) (hb : DSs X w fr O O O body sf)
    (hs : ∀ x, foldedSetIterable iter X.env x = pure x := by intro _; rfl) : DS X w fr L O O (.For tg iter body [] pos) (sFor items tgt sf) :=
  PS.weak (ps_for hp hc hi hg hb hs) fun Dn σ H ⟨Hf, S, B, P, env, st, po⟩ => by
    refine ⟨S ++ O.map P, env, st.subT, st.rd hR, ?_⟩
    unfold sFor Res.walk at po
    cases q : items env with
    | err c => rw [q] at po; exact fun H1 e => po P σ H1 (st.grow e).bare
    | stuck => rw [q] at po; exact po
    | ok ds =>
      rw [q] at po
      intro J H1 e1 wk
      have st1 := st.grow e1
      obtain ⟨B', hB'⟩ : ∃ b, b = hid (S ++ O.map P) H1 := ⟨_, rfl⟩
      rw [← hB'] at wk
      have exB : Ex B B' := by rw [hB']; exact st1.bas
      have st1' : StOk X.K w.tb Hf S B' O P env σ H1 := ⟨st1.len, st1.exf, st1.sub, by rw [hB']; exact Ex.refl _, st1.tab, st1.inj, st1.own, st1.oth⟩
      let W : Nat → L2.St → Hp → Prop := fun i σ' H' => i ≤ ds.length ∧ ∃ P' env', StOk X.K w.tb Hf S B' O P' env' σ' H' ∧ PostS X.K w Hf S B fr L O Dn (forGo tgt sf (ds.drop i) env')
      refine ⟨fun i m σ' H' => m = ds.length - i ∧ W i σ' H', ⟨ds.length, by simp, Nat.zero_le _, P, env, st1', by rw [List.drop_zero]; exact po⟩, ?_⟩
      rintro i m σ' H' ⟨rfl, hi, P', env', st', po'⟩
      by_cases hlt : i < ds.length
      · refine .inr ?_
        obtain ⟨d, hd⟩ : ∃ d, ds[i]? = some d := ⟨ds[i], by simp [hlt]⟩
        obtain ⟨hgo, hyld⟩ := (wk i H' (st'.bas.trans hid_le)).2 d hd
        refine ⟨hgo, W (i + 1), fun σ2 H2 q => ⟨ds.length - (i + 1), by omega, rfl, q⟩, fun v H'' hy => ?_⟩
        obtain ⟨e3, hden⟩ := hyld v H'' hy
        have dv := hden _ st'.subT st'.bas
        have hdrop : ds.drop i = d :: ds.drop (i + 1) := by
          obtain ⟨hl, he⟩ := List.getElem?_eq_some_iff.mp hd
          rw [← he]
          exact List.drop_eq_getElem_cons hl
        rw [hdrop] at po'
        unfold forGo Out.loop at po'
        cases hpt : parts tgt d with
        | stuck => rw [hpt] at po'; exact po'.elim
        | err c => exact absurd hpt parts_noerr
        | ok ps =>
          rw [hpt] at po'
          dsimp only at po'
          obtain ⟨us, dus, hset⟩ := gT_ok (K := X.K) hpt dv
          refine hset _ _ ⟨Hf, S, B', P', setAll tgt.slots ps env', (st'.grow e3).setAll hT dus, ?_⟩
          cases hs : sf (setAll tgt.slots ps env') with
          | nxt e =>
            rw [hs] at po'
            exact fun P2 σ2 H2 st2 => ⟨hlt, P2, e, st2, po'⟩
          | cnt e =>
            rw [hs] at po'
            exact fun P2 σ2 H2 st2 => ⟨hlt, P2, e, st2, po'⟩
          | brk e =>
            rw [hs] at po'
            exact fun P2 σ2 H2 st2 => po' P2 σ2 H2 (st2.rebase exB)
          | ret d => rw [hs] at po'; exact po'
          | err c e => rw [hs] at po'; exact fun P2 σ2 H2 st2 => po' P2 σ2 H2 (st2.rebase exB)
          | stuck => rw [hs] at po'; exact po'
      · have e : i = ds.length := by omega
        refine .inl ⟨(wk i H' (st'.bas.trans hid_le)).1 (by omega), ?_⟩
        rw [e, List.drop_length] at po'
        exact po' P' σ' H' (st'.rebase exB)
end
def outRes : Out → Res D
  | .nxt _ => .ok .non
  | .ret d => .ok d
  | .err c _ => .err c
  | _ => .stuck
/-- what a def hands back, by its body's data -/
def fnSem (n : Nat) (s : Sl → Out) : List D → Res D := fun ds => outRes (s (ds.map some ++ List.replicate (n - ds.length) none))
/-- the same of a def that hands back a list of its own -/
def outResL : Out → Res D
  | .ret d => .ok d
  | .err c _ => .err c
  | _ => .stuck
def fnSemL (n : Nat) (s : Sl → Out) : List D → Res D := fun ds => outResL (s (ds.map some ++ List.replicate (n - ds.length) none))
/-- a def's wish about exceptions -/
def wE (mg : Str → Option Value) (tb : List Addr) (E : XK) : Wi := ⟨fun c _ H => ∀ u, mg c = some u → E u none H, tb⟩
theorem takesE {X : Cx} {mg : Str → Option Value} {tb : List Addr} {E : XK} (h : Takes X (fun cls d _ H => E cls d H)) : Takes X (wx mg (wE mg tb E)) := h.imp fun c d σ H ⟨n, hn, hd, hw⟩ => by
  subst hd
  exact hw c hn
theorem takes_w0 {X : Cx} {mg : Str → Option Value} {w : Wi} : Takes X (wx mg w.no) := takes0.imp fun _ _ _ _ ⟨_, _, _, z⟩ => z
section
variable {P : Program} {w : World} {K : PySem.W.Frag} {mg : Str → Option Value} {base : Heap} {tb : List Addr} {n : Nat}
theorem start_get {K : PySem.W.Frag} {H : Hp} {vs : List V} {ds : List D} (r : DenL K H vs ds) (m i : Nat) (d : D) (h : (ds.map some ++ List.replicate (m - ds.length) none)[i]? = some (some d)) : ∃ v, (vs.map some ++ List.replicate (m - vs.length) none)[i]? = some (some v) ∧ Den K H v d := by
  have hl := r.len
  by_cases hi : i < ds.length
  · rw [List.getElem?_append_left (by simpa using hi), List.getElem?_map] at h
    cases q : ds[i]? with
    | none => rw [q] at h; cases h
    | some c =>
      rw [q] at h
      cases h
      obtain ⟨v, hv, dv⟩ := r.get q
      exact ⟨v, by rw [List.getElem?_append_left (by simpa [hl] using hi), List.getElem?_map, hv]; rfl, dv⟩
  · rw [List.getElem?_append_right (by simpa using hi), List.getElem?_replicate] at h
    split at h <;> cases h
/-- a def's promise by its body; its code is told -/
theorem okX {x qual : Str} {pm : Arguments} {bd : List Stmt} {sc : Scope} {f : Addr} {fd : FuncData} {N ps : List Str} {k : Nat} {sp : Sp} (F : FunD K x qual pm bd sc [] [] f fd) (Sc : FnScope N ps sc)
    (len : ∀ (vs : List V) (H : Hp) (Q : VK) (E : XK), sp vs H Q E → vs.length = ps.length)
    (body : ∀ (cdv : Value), fd.code = cdv → ∀ (A : Around) (outer : List Env) (s : Shared) (H : Hp) (vs : List V) (Q : VK) (E : XK), Room k (A.deeper (envOfC qual sc s.heap.objs.size f cdv)) → sp vs H Q E →
      ∃ t, PSs (cxOf (L2.CX P w) P w K mg base N qual sc f cdv A outer s H E) bd t ∧ t { nx := fun _ H' => Q .non H', rt := Q } (start N vs) H) :
    FnOk P w K mg base (L2.CX P w) (k + 1) f fd ps sp := by
  obtain ⟨oc, od, dV, kV, doc, pm, an, cdv, ct, osl, rfl, lk, hcd, _, _⟩ := F.ex
  exact fn_of lk hcd Sc len fun A outer s H vs Q E hr h => body cdv rfl A outer s H vs Q E hr h
/-- a def's code and table -/
def HasTab (base : Heap) (mg : Str → Option Value) (tb : List Addr) (cdv : Value) : Prop := ∃ c T, cdv = .ref c ∧ GxR.TabB base mg c T ∧ T ∈ tb
abbrev BodyOk (P : Program) (w : World) (K : PySem.W.Frag) (mg : Str → Option Value) (base : Heap) (tb : List Addr) (N : List Str) (qual : Str) (sc : Scope) (f : Addr) (fd : FuncData) (k : Nat) (fr : Bool) (O' : List Nat) (bd : List Stmt) (sf : Sl → Out) : Prop :=
  ∀ (cdv : Value), fd.code = cdv → ∀ (A : Around) (outer : List Env) (s : Shared) (H : Hp) (E : XK), Room k (A.deeper (envOfC qual sc s.heap.objs.size f cdv)) →
      N.Nodup → Takes (cxOf (L2.CX P w) P w K mg base N qual sc f cdv A outer s H E) (wx mg (wE mg tb E)) → PassesOwn (model P w) (cxOf (L2.CX P w) P w K mg base N qual sc f cdv A outer s H E).A (cxOf (L2.CX P w) P w K mg base N qual sc f cdv A outer s H E).env (cxOf (L2.CX P w) P w K mg base N qual sc f cdv A outer s H E).xe →
      DSs (cxOf (L2.CX P w) P w K mg base N qual sc f cdv A outer s H E) (wE mg tb E) fr [] [] O' bd sf
theorem fn_ok {x qual : Str} {pm : Arguments} {bd : List Stmt} {sc : Scope} {f : Addr} {fd : FuncData} {N ps : List Str} {k : Nat} {O' : List Nat} {sf : Sl → Out} (F : FunD K x qual pm bd sc [] [] f fd) (Sc : FnScope N ps sc)
    (body : BodyOk P w K mg base tb N qual sc f fd k false O' bd sf) :
    FnOk P w K mg base (L2.CX P w) (k + 1) f fd ps (SpF K mg tb ps.length false (fnSem N.length sf)) := by
  refine okX F Sc (fun vs H Q E h => h.1) fun cdv hcd A outer s H vs Q E hr h => ⟨_, body cdv hcd A outer s H E hr Sc.nd (takesE (takes_of rfl rfl rfl rfl)) (passes_of rfl), ?_⟩
  obtain ⟨hl, S, ds, sub, tabs, dv, po⟩ := h
  refine ⟨H, S, hid S H, fun _ => 0, ds.map some ++ List.replicate (N.length - ds.length) none, ⟨?_, Ex.refl _, sub, ?_, ?_, (fun _ m => nomatch m), (fun _ m => nomatch m), fun i _ d hd => ?_⟩, ?_⟩
  · show _ = (start N vs).length
    unfold L2.start
    simp [dv.len]
  · show Ex (hid S H) (hid (S ++ []) H)
    rw [List.append_nil]
    exact Ex.refl _
  · show ∀ T ∈ tb, GxR.TabG (hid (S ++ []) H) T
    rw [List.append_nil]
    exact tabs
  · show ∃ v, (start N vs)[i]? = some (some v) ∧ Den K (hid (S ++ []) H) v d
    rw [List.append_nil]
    exact start_get dv N.length i d hd
  · unfold fnSem at po
    generalize sf (ds.map some ++ List.replicate (N.length - ds.length) none) = o at po
    cases o with
    | nxt e => exact fun P' σ' H' st => po .non H' st.exf .non
    | ret d => exact po
    | err c e => exact fun P' σ' H' st u hu => po H' u st.exf hu
    | brk e => exact po.elim
    | cnt e => exact po.elim
    | stuck => exact po.elim
theorem callee_of {x : Str} {k n : Nat} {fr : Bool} {F : List D → Res D} {f : Addr} {fd : FuncData} {ps : List Str} (G : FnOk P w K mg base (L2.CX P w) k f fd ps (SpF K mg tb n fr F)) (hm : mg x = some (.ref f)) (hk : PySem.W.keepIn K (.ref f) = true) (hb : Binds K fd ps []) : Callee P w K mg base tb x k n fr F := ⟨f, fd, ps, G, hm, hk, hb⟩
end
end Dx
set_option Elab.async false
set_option linter.all false
set_option maxRecDepth 100000
set_option maxHeartbeats 4000000
namespace Dx
open PySem L2
section
variable {i j : Nat} {a b d c : D} {f g h f1 f2 f3 : EE} {t u : EB} {l m : EL} {env e : Sl} {s s1 s2 : Sl → Out} {ds es : List D} {x y : Int} {k : Bool} {z : Str}
@[simp] theorem eVar_ap (h : env[i]? = some (some d)) : eVar i env = .ok d := by unfold eVar; rw [h]
@[simp] theorem eC_ap : eC d env = .ok d := rfl
@[simp] theorem eBin_ap {G : D → D → Res D} : eBin G f1 f2 env = (f1 env).bind fun x => (f2 env).bind fun y => G x y := rfl
@[simp] theorem eUn_ap {G : D → Res D} : eUn G f env = (f env).bind G := rfl
@[simp] theorem eTest_ap : eTest f env = (f env).bind D.isBl := rfl
@[simp] theorem eTruth_ap : eTruth f env = (f env).bind D.truth := rfl
@[simp] theorem eNotB_ap : eNotB t env = (t env).map (!·) := rfl
def andB (r : Res Bool) (q : Unit → Res Bool) : Res Bool := r.bind fun b => if b = true then q () else .ok false
def orB (r : Res Bool) (q : Unit → Res Bool) : Res Bool := r.bind fun b => if b = true then .ok true else q ()
@[simp] theorem eAndB_ap : eAndB t u env = andB (t env) fun _ => u env := rfl
@[simp] theorem eOrB_ap : eOrB t u env = orB (t env) fun _ => u env := rfl
@[simp] theorem andB_t {q : Unit → Res Bool} : andB (.ok true) q = q () := rfl
@[simp] theorem andB_f {q : Unit → Res Bool} : andB (.ok false) q = .ok false := rfl
@[simp] theorem orB_t {q : Unit → Res Bool} : orB (.ok true) q = .ok true := rfl
@[simp] theorem orB_f {q : Unit → Res Bool} : orB (.ok false) q = q () := rfl
def andV (r : Res D) (q : Unit → Res D) : Res D := r.bind fun d => (D.isBl d).bind fun b => if b = true then q () else .ok (.bl false)
def orV (r : Res D) (q : Unit → Res D) : Res D := r.bind fun d => (D.isBl d).bind fun b => if b = true then .ok (.bl true) else q ()
@[simp] theorem eAndV_ap : eAndV f g env = andV (f env) fun _ => g env := rfl
@[simp] theorem eOrV_ap : eOrV f g env = orV (f env) fun _ => g env := rfl
@[simp] theorem andV_t {q : Unit → Res D} : andV (.ok (.bl true)) q = q () := rfl
@[simp] theorem andV_f {q : Unit → Res D} : andV (.ok (.bl false)) q = .ok (.bl false) := rfl
@[simp] theorem orV_t {q : Unit → Res D} : orV (.ok (.bl true)) q = .ok (.bl true) := rfl
@[simp] theorem orV_f {q : Unit → Res D} : orV (.ok (.bl false)) q = q () := rfl
def ifR (r : Res Bool) (p q : Unit → Res D) : Res D := r.bind fun b => if b = true then p () else q ()
@[simp] theorem eIf_ap : eIf t f g env = ifR (t env) (fun _ => f env) (fun _ => g env) := rfl
@[simp] theorem ifR_t {p q : Unit → Res D} : ifR (.ok true) p q = p () := rfl
@[simp] theorem ifR_f {p q : Unit → Res D} : ifR (.ok false) p q = q () := rfl
def chainR (G : D → D → Res D) (r : Res D) (y : D) (q : Unit → Res D) : Res D := r.bind fun z => (D.isBl z).bind fun b => if b = true then (q ()).bind fun u => G y u else .ok (.bl false)
@[simp] theorem eChain_ap {G G' : D → D → Res D} : eChain G G' f1 f2 f3 env = (f1 env).bind fun x => (f2 env).bind fun y => chainR G' (G x y) y fun _ => f3 env := rfl
@[simp] theorem chainR_t {G : D → D → Res D} {q : Unit → Res D} : chainR G (.ok (.bl true)) a q = (q ()).bind fun u => G a u := rfl
@[simp] theorem chainR_f {G : D → D → Res D} {q : Unit → Res D} : chainR G (.ok (.bl false)) a q = .ok (.bl false) := rfl
@[simp] theorem eNil_ap : eNil env = .ok [] := rfl
@[simp] theorem eCons_ap : eCons f l env = (f env).bind fun d => (l env).map (d :: ·) := rfl
@[simp] theorem eTup_ap : eTup l env = (l env).map .tup := rfl
@[simp] theorem eL_ap : eL l env = (l env).map .lst := rfl
@[simp] theorem eCall_ap {F : List D → Res D} : eCall l F env = (l env).bind F := rfl
@[simp] theorem eCallL_ap {F : List D → Res (List D)} : eCallL l F env = (l env).bind F := rfl
@[simp] theorem eItems_ap : eItems f env = (f env).bind D.items := rfl
@[simp] theorem eRev_ap : eRev f env = (f env).bind D.rev := rfl
@[simp] theorem eYes_ap : eYes env = .ok true := rfl
def partI : D → Res (Option Int)
  | .int i => .ok (some i)
  | _ => .stuck
@[simp] theorem partI_int : partI (.int x) = .ok (some x) := rfl
@[simp] theorem ePart_ap : ePart f env = (f env).bind partI := by
  unfold ePart
  congr 1
@[simp] theorem eNoPart_ap : eNoPart env = .ok none := rfl
@[simp] theorem eSl_ap {lo hi : Sl → Res (Option Int)} : eSl f lo hi env = (f env).bind fun d => (lo env).bind fun p => (hi env).bind fun q => D.sl d p q := rfl
@[simp] theorem eSlL_ap {lo hi : Sl → Res (Option Int)} : eSlL f lo hi env = (f env).bind fun d => (lo env).bind fun p => (hi env).bind fun q => D.slL d p q := rfl
@[simp] theorem lim_lt {α : Type} {n : Nat} {r : Res α} (h : n ≤ 100000) : lim n r = r := lim_ok h
theorem eLc_ap {tg : Tgt} {own : List Nat} : eLc l tg own t f env = (l env).bind fun ds => lim ds.length (lcGo tg t f (wipeE env own) ds) := rfl
@[simp] theorem lcGo_nil {tg : Tgt} : lcGo tg t f env [] = .ok [] := rfl
def consR (r : Res Bool) (p : Unit → Res D) (q : Res (List D)) : Res (List D) := (noErr r).bind fun b => if b = true then (noErr (p ())).bind fun y => q.map (y :: ·) else q
theorem lcGo_one : lcGo (.one i) t f env (d :: ds) = consR (t (env.set i (some d))) (fun _ => f (env.set i (some d))) (lcGo (.one i) t f env ds) := rfl
@[simp] theorem consR_t {q : Res (List D)} : consR (.ok true) (fun _ => .ok d) q = q.map (d :: ·) := rfl
@[simp] theorem consR_f {p : Unit → Res D} {q : Res (List D)} : consR (.ok false) p q = q := rfl
@[simp] theorem isBl_bl : D.isBl (.bl k) = .ok k := rfl
@[simp] theorem truth_bl : D.truth (.bl k) = .ok k := rfl
@[simp] theorem truth_int : D.truth (.int x) = .ok (x != 0) := rfl
@[simp] theorem truth_non : D.truth .non = .ok false := rfl
@[simp] theorem nt_bl : D.nt (.bl k) = .ok (.bl !k) := rfl
@[simp] theorem add_int : D.add (.int x) (.int y) = .ok (.int (x + y)) := rfl
@[simp] theorem add_str {z' : Str} : D.add (.str z) (.str z') = lim (z.length + z'.length) (.ok (.str (z ++ z'))) := rfl
@[simp] theorem add_lst : D.add (.lst ds) (.lst es) = lim (ds.length + es.length) (.ok (.lst (ds ++ es))) := rfl
@[simp] theorem add_tup : D.add (.tup (d :: ds)) (.tup es) = lim ((d :: ds).length + es.length) (.ok (.tup (d :: ds ++ es))) := rfl
@[simp] theorem sub_int : D.sub (.int x) (.int y) = .ok (.int (x - y)) := rfl
@[simp] theorem neg_int : D.neg (.int x) = .ok (.int (-x)) := rfl
@[simp] theorem iadd_int : D.iadd (.int x) (.int y) = .ok (.int (x + y)) := rfl
@[simp] theorem iadd_str {z' : Str} : D.iadd (.str z) (.str z') = lim (z.length + z'.length) (.ok (.str (z ++ z'))) := rfl
@[simp] theorem mul_l (h : D.fits x = true) : D.mul (.int x) (.int y) = .ok (.int (x * y)) := by simp [D.mul, h]
@[simp] theorem mul_r (h : D.fits y = true) : D.mul (.int x) (.int y) = .ok (.int (x * y)) := by simp [D.mul, h]
theorem fits_of (h1 : -(2 ^ 64) < x) (h2 : x < 2 ^ 64) : D.fits x = true := by simp [D.fits]; omega
@[simp] theorem fdiv_int (h1 : 0 < y) (h2 : y < 1073741824) : D.fdiv (.int x) (.int y) = .ok (.int (x / y)) := by simp [D.fdiv, h1, h2]
@[simp] theorem mod_int (h1 : 0 < y) : D.mod (.int x) (.int y) = .ok (.int (x % y)) := by simp [D.mod, h1]
@[simp] theorem lt_int : D.lt (.int x) (.int y) = .ok (.bl (decide (x < y))) := rfl
@[simp] theorem le_int : D.le (.int x) (.int y) = .ok (.bl (decide (x ≤ y))) := rfl
@[simp] theorem gt_int : D.gt (.int x) (.int y) = .ok (.bl (decide (y < x))) := rfl
@[simp] theorem ge_int : D.ge (.int x) (.int y) = .ok (.bl (decide (y ≤ x))) := rfl
@[simp] theorem len_lst : D.len [.lst ds] = .ok (.int ds.length) := rfl
@[simp] theorem len_tup : D.len [.tup ds] = .ok (.int ds.length) := rfl
@[simp] theorem len_fz : D.len [.fz ds] = .ok (.int ds.length) := rfl
@[simp] theorem len_str : D.len [.str z] = lim z.length (.ok (.int z.length)) := rfl
@[simp] theorem listOf_lst : D.listOf [.lst ds] = .ok ds := rfl
@[simp] theorem listOf_tup : D.listOf [.tup ds] = .ok ds := rfl
@[simp] theorem listOf_fz : D.listOf [.fz ds] = .ok ds := rfl
@[simp] theorem tupOf_lst : D.tupOf [.lst ds] = .ok (.tup ds) := rfl
@[simp] theorem tupOf_tup : D.tupOf [.tup ds] = .ok (.tup ds) := rfl
@[simp] theorem int1_int : D.int1 [.int x] = .ok (.int x) := rfl
@[simp] theorem int1_bl : D.int1 [.bl k] = .ok (.int (if k then 1 else 0)) := rfl
@[simp] theorem abs1_int : D.abs1 [.int x] = .ok (.int (if x < 0 then -x else x)) := rfl
@[simp] theorem min2_int : D.min2 [.int x, .int y] = .ok (.int (if y < x then y else x)) := rfl
@[simp] theorem max2_int : D.max2 [.int x, .int y] = .ok (.int (if y > x then y else x)) := rfl
@[simp] theorem items_lst : D.items (.lst ds) = .ok ds := rfl
@[simp] theorem items_tup : D.items (.tup ds) = .ok ds := rfl
@[simp] theorem items_fz : D.items (.fz ds) = .ok ds := rfl
@[simp] theorem items_str : D.items (.str z) = .ok (z.cps.toList.map fun c => .str ⟨#[c]⟩) := rfl
@[simp] theorem rev_lst : D.rev (.lst ds) = .ok ds.reverse := rfl
@[simp] theorem rev_tup : D.rev (.tup ds) = .ok ds.reverse := rfl
@[simp] theorem zip2_lst : D.zip2 [.lst ds, .lst es] = .ok (zipD ds es) := rfl
@[simp] theorem zip2_tup : D.zip2 [.tup ds, .tup es] = .ok (zipD ds es) := rfl
theorem rng1_ok (h1 : -100000 ≤ x) (h2 : x ≤ 100000) : D.rng1 [.int x] = .ok ((List.range x.toNat).map fun (k : Nat) => .int k) := by simp [D.rng1, h1, h2]
@[simp] theorem parts_one : parts (.one i) d = .ok [d] := rfl
@[simp] theorem parts_two : parts (.two i j) (.tup [a, b]) = .ok [a, b] := rfl
@[simp] theorem flat_int : D.flat (.int x) = true := id rfl
@[simp] theorem flat_bl : D.flat (.bl k) = true := id rfl
@[simp] theorem flat_str : D.flat (.str z) = true := id rfl
@[simp] theorem flat_non : D.flat .non = true := id rfl
@[simp] theorem eq_int (i j : Int) : D.eq (.int i) (.int j) = .ok (.bl (i == j)) := by simp [D.eq, D.okq, D.okd, D.eqv, D.py, PyData.eqv]
@[simp] theorem ne_int (i j : Int) : D.ne (.int i) (.int j) = .ok (.bl (!(i == j))) := by simp [D.ne, D.okq, D.okd, D.eqv, D.py, PyData.eqv]
@[simp] theorem eq_str (i j : Str) : D.eq (.str i) (.str j) = .ok (.bl (i == j)) := by simp [D.eq, D.okq, D.eqv, D.py, PyData.eqv]
@[simp] theorem ne_str (i j : Str) : D.ne (.str i) (.str j) = .ok (.bl (!(i == j))) := by simp [D.ne, D.okq, D.eqv, D.py, PyData.eqv]
theorem eqv_self (h : D.okd 8 d = true) : D.eqv d d = true := PySem.SeqAt.eqv_refl _ (okd_lay 8 d h).1
theorem eq_self (h : D.okd 8 d = true) : D.eq d d = .ok (.bl true) := by
  unfold D.eq D.okq
  rw [h, eqv_self h]
  simp
theorem ne_self (h : D.okd 8 d = true) : D.ne d d = .ok (.bl false) := by
  unfold D.ne D.okq
  rw [h, eqv_self h]
  simp
@[simp] theorem isi_int_int : D.isi [.int x, .raw (.ty "int")] = .ok (.bl true) := rfl
@[simp] theorem isi_int_bool : D.isi [.int x, .raw (.ty "bool")] = .ok (.bl false) := rfl
@[simp] theorem isi_bl_int : D.isi [.bl k, .raw (.ty "int")] = .ok (.bl true) := rfl
@[simp] theorem isi_bl_bool : D.isi [.bl k, .raw (.ty "bool")] = .ok (.bl true) := rfl
@[simp] theorem isi_lst_list : D.isi [.lst ds, .raw (.ty "list")] = .ok (.bl true) := rfl
@[simp] theorem isi_tup_list : D.isi [.tup ds, .raw (.ty "list")] = .ok (.bl false) := rfl
@[simp] theorem isi_tup_tuple : D.isi [.tup ds, .raw (.ty "tuple")] = .ok (.bl true) := rfl
@[simp] theorem isi_lst_tuple : D.isi [.lst ds, .raw (.ty "tuple")] = .ok (.bl false) := rfl
@[simp] theorem isi_str_str : D.isi [.str z, .raw (.ty "str")] = .ok (.bl true) := rfl
@[simp] theorem toOut_ok {o : Out} : toOut env (.ok o) = o := rfl
@[simp] theorem sNext_ap : sNext env = .nxt env := rfl
@[simp] theorem andThen_nxt : (Out.nxt e).andThen s = s e := rfl
@[simp] theorem andThen_ret : (Out.ret d).andThen s = .ret d := rfl
@[simp] theorem andThen_brk : (Out.brk e).andThen s = .brk e := rfl
@[simp] theorem andThen_cnt : (Out.cnt e).andThen s = .cnt e := rfl
@[simp] theorem andThen_err : (Out.err z e).andThen s = .err z e := rfl
@[simp] theorem sSeq_ap : sSeq s1 s2 env = (s1 env).andThen s2 := rfl
@[simp] theorem sSet_ap : sSet i f env = toOut env ((f env).map fun d => .nxt (env.set i (some d))) := rfl
@[simp] theorem sSetF_ap (h : f env = .ok d) (h' : D.flat d = true) : sSetF i f env = .nxt (env.set i (some d)) := by unfold sSetF; rw [h, bind_ok, if_pos h']; rfl
@[simp] theorem sOwn_ap (hi : i < env.length) : sOwn i l env = toOut env ((l env).map fun ds => .nxt (env.set i (some (.lst ds)))) := by
  unfold sOwn
  simp only [hi, if_true]
  rw [map_bind]
@[simp] theorem sRet_ap : sRet f env = toOut env ((f env).map .ret) := rfl
@[simp] theorem sRetL_ap : sRetL l env = toOut env ((l env).map fun ds => .ret (.lst ds)) := rfl
@[simp] theorem sRetV_ap (h : env[i]? = some (some d)) : sRetV i env = .ret d := by unfold sRetV; rw [h]
@[simp] theorem sDrop_ap : sDrop f env = toOut env ((f env).map fun _ => .nxt env) := rfl
@[simp] theorem sIf_ap : sIf t s1 s2 env = (t env).branch env s1 s2 := rfl
@[simp] theorem branch_t : (Res.ok true).branch env s1 s2 = s1 env := rfl
@[simp] theorem branch_f : (Res.ok false).branch env s1 s2 = s2 env := rfl
@[simp] theorem sApp_ap (h : env[i]? = some (some (.lst ds))) (hl : ds.length < 100000) : sApp i f env = toOut env ((f env).map fun d => .nxt (env.set i (some (.lst (ds ++ [d]))))) := by
  unfold sApp
  rw [map_bind]
  congr 1
  congr 1
  funext d
  rw [h]
  exact lim_ok hl
@[simp] theorem sAppF_ap (h : env[i]? = some (some (.lst ds))) (hl : ds.length < 100000) (hf : f env = .ok d) (hd : D.flat d = true) : sAppF i f env = .nxt (env.set i (some (.lst (ds ++ [d])))) := by
  unfold sAppF
  rw [hf, bind_ok, if_pos hd, h]
  simp only [lim_ok (show ds.length + 1 ≤ 100000 from hl)]
  rfl
def augR (i : Nat) (env : Sl) (r : Res D) : Out := toOut env (r.bind fun r => if D.flat r = true then .ok (.nxt (env.set i (some r))) else .stuck)
@[simp] theorem sAug_ap {G : D → D → Res D} (h : env[i]? = some (some a)) : sAug i G f env = augR i env ((f env).bind fun c => G a c) := by
  unfold sAug augR
  rw [h]
  dsimp only
  cases f env <;> rfl
@[simp] theorem augR_ok (h : D.flat d = true) : augR i env (.ok d) = .nxt (env.set i (some d)) := by unfold augR; rw [bind_ok, if_pos h]; rfl
@[simp] theorem sLst_ap {G : List D → List D} (h : env[i]? = some (some (.lst ds))) : sLst G i env = .nxt (env.set i (some (.lst (G ds)))) := by unfold sLst; rw [h]
@[simp] theorem sTgt_ap {tg : Tgt} : sTgt tg f env = toOut env ((f env).bind fun d => (parts tg d).map fun ps => .nxt (setAll tg.slots ps env)) := rfl
@[simp] theorem sFor_ap {tg : Tgt} : sFor l tg s env = (l env).walk env (forGo tg s) := rfl
@[simp] theorem walk_ok {K : List D → Sl → Out} : (Res.ok ds).walk env K = K ds env := rfl
@[simp] theorem forGo_nil {tg : Tgt} : forGo tg s [] env = .nxt env := rfl
theorem forGo_one : forGo (.one i) s (d :: ds) env = (s (env.set i (some d))).loop (forGo (.one i) s ds) := rfl
@[simp] theorem loop_nxt {K : Sl → Out} : (Out.nxt e).loop K = K e := rfl
@[simp] theorem loop_cnt {K : Sl → Out} : (Out.cnt e).loop K = K e := rfl
@[simp] theorem loop_brk {K : Sl → Out} : (Out.brk e).loop K = .nxt e := rfl
@[simp] theorem loop_ret {K : Sl → Out} : (Out.ret d).loop K = .ret d := rfl
@[simp] theorem outRes_nxt : outRes (.nxt e) = .ok .non := rfl
@[simp] theorem outRes_ret : outRes (.ret d) = .ok d := rfl
@[simp] theorem outRes_err : outRes (.err z e) = .err z := rfl
@[simp] theorem outResL_ret : outResL (.ret d) = .ok d := rfl
@[simp] theorem outResL_err : outResL (.err z e) = .err z := rfl
theorem fnSem_ap {n : Nat} : fnSem n s ds = outRes (s (ds.map some ++ List.replicate (n - ds.length) none)) := rfl
end
def dInts (ns : List Int) : List D := ns.map D.int
@[simp] theorem dInts_len (ns : List Int) : (dInts ns).length = ns.length := by simp [dInts]
@[simp] theorem dInts_nil : dInts [] = [] := rfl
@[simp] theorem dInts_cons (n : Int) (ns : List Int) : dInts (n :: ns) = .int n :: dInts ns := rfl
theorem atI_dInts {ns : List Int} {k : Nat} (h : k < ns.length) : L2.atI (dInts ns) (k : Int) = some (.int (ns.getD k 0)) := by
  refine L2.atI_nat ?_
  simp [dInts, List.getElem?_map, List.getElem?_eq_getElem h, List.getD_eq_getElem?_getD]
theorem ix_fz {ns : List Int} {k : Nat} (h : k < ns.length) : D.ix (.fz (dInts ns)) (.int (k : Int)) = .ok (.int (ns.getD k 0)) := by
  unfold D.ix
  simp only [atI_dInts h]
end Dx
set_option Elab.async false
set_option linter.all false
set_option maxRecDepth 100000
set_option maxHeartbeats 4000000
namespace Dx
open PySem PySem.Spec PyProof.Rows L2
open RZ RT
def eAllS (pb : Nat → Bool) (f : EE) : EE := fun env => (f env).bind fun d => match d with
  | .str z => .ok (.bl (z.cps.toList.all pb))
  | _ => .stuck
theorem tabbed_ex {P : Addr} {H H' : Hp} (g : GxR.TabG H P) (h : GxR.Tabbed P H H') : Ex H H' := fun a o q => by
  by_cases e : a = P
  · subst e
    obtain ⟨ps, e1, t1⟩ := g
    obtain ⟨ps', e2, t2⟩ := h.1
    rw [e1] at q
    cases q
    exact ⟨ps', e2, fun _ => t2⟩
  · rw [h.2 a e, q]
    exact Keep.same o
section
variable {X : Cx} {w : Wi} {R : List Nat} {iter elt : Expr} {f : EE} {x : Str} {px p pos gpos : Pos} {scope : Scope} {pb : Nat → Bool} {k : Nat}
theorem de_allS (T : HasTab X.base X.mg w.tb X.env.code) (hr : Room k X.A) (hm : X.mg "all" = none) (hi : DE X w R iter f) (S : GxR.GenS X.env scope x) (hel : GxR.EltP X.prog X.w scope x elt pb) (hg : Gl X "all" := by rfl) (hs : ∀ v, genFold iter X.env v = pure v := by intro _; rfl)
    (hst : starEach [.GeneratorExp elt [⟨.Name x px, iter, [], 0⟩] scope gpos] X.env = (false, eval (.GeneratorExp elt [⟨.Name x px, iter, [], 0⟩] scope gpos) X.env) :: starEach [] X.env := by rfl) :
    DE X w R (.Call (.Name "all" p) [.GeneratorExp elt [⟨.Name x px, iter, [], 0⟩] scope gpos] [] pos) (eAllS pb f) := by
  obtain ⟨c, T, hcode, TB, hT⟩ := T
  refine PE.weak (GxR.pe_allS hr hg hm (by decide +kernel) TB hcode S hi hel hs hst) fun σ H Q ⟨S', env, sub, ok, po⟩ => ?_
  refine ⟨S', env, sub, ok, Post.bind (Rel2 := Den X.K) po fun d _ v H1 e1 dv po1 => ?_⟩
  cases d <;> first | exact po1.elim | skip
  have tg := hid_le.tab ((ok.mono (hid_ex e1)).tab T hT)
  exact ⟨_, den_str dv, tg, fun H2 h2 => po1 _ _ (tabbed_ex tg h2) (.bl _)⟩
end
theorem elt_le2 {prog : Program} {w : World} {scope : Scope} {x k1 k2 : Str} {j1 j2 : Nat} {p1 p2 p3 p4 : Pos} (hk : scope.kind = .function) (hl : scope.names.lookup x = some .local) (hd : (x == ("__debug__" : Str)) = false := by decide) :
    GxR.EltP prog w scope x (.Compare (.Constant (.str k1) j1 p1) [.LtE, .LtE] [.Name x p2, .Constant (.str k2) j2 p3] p4) (fun c => !decide ([c] < k1.cps.toList) && !decide (k2.cps.toList < [c])) :=
  fun cenv A' E' c t s₂ m₂ hs hn hm => by
    have hk' : cenv.scope.kind = .function := by rw [hs]; exact hk
    have hl' : cenv.scope.names.lookup x = some .local := by rw [hs]; exact hl
    refine Compare_chain (Calls.Constant_str (chain_link (wpAny_Name (wpAny_loadName_local hk' hl' hn hm (P.le_str (wpAny_truthy_bool ?_))) hd)))
    cases q : !decide ([c] < k1.cps.toList) with
    | false => exact ⟨by show Value.bool false = Value.bool (!decide ([c] < k1.cps.toList) && !decide (k2.cps.toList < [c])); rw [q, Bool.false_and], GxR.keeps_tok s₂ _⟩
    | true => exact chain_last (Calls.Constant_str (P.le_str ⟨by show Value.bool (!decide (k2.cps.toList < [c])) = Value.bool (!decide ([c] < k1.cps.toList) && !decide (k2.cps.toList < [c])); rw [q, Bool.true_and], GxR.keeps_tok s₂ _⟩))
end Dx
set_option Elab.async false
set_option linter.all false
set_option maxRecDepth 100000
set_option maxHeartbeats 4000000
namespace Dx
open PySem PySem.Spec PyProof.Rows L2
open RZ RT
/-- an exception's class of the text, over ValueError -/
structure ExcD (K : PySem.W.Frag) (mg : Str → Option Value) (n : Str) : Prop where
  g : mg n = some (.ref (He.ga K n))
  x : PySem.W.excIn K (He.ga K n) He.veBase "ValueError.__new__" = true
  k : PySem.W.keepIn K (.ref (He.ga K n)) = true
  b : PySem.W.subIn K (.ref (He.ga K n)) (.type "BaseException") = some true
  t : PySem.W.typeIn K (.ref (He.ga K n)) = some (.type "type")
def sRaise (c : Str) : Sl → Out := fun env => .err c env
section
variable {X : Cx} {w : Wi} {fr : Bool} {L O O' : List Nat} {x m : Str} {p p2 pos pos' : Pos} {j : Nat}
theorem ds_raise (F : ExcD X.K X.mg x) (hc : X.calm = true) (tk : Takes X (wx X.mg w)) (hg : Gl X x := by rfl) (hdb : (x == ("__debug__" : Str)) = false := by decide) : DS X w fr L O O' (.Raise (some (.Call (.Name x p) [.Constant (.str m) j p2] [] pos)) none pos') (sRaise x) :=
  PS.weak (ps_raise hc tk (pmk_own PySem.F.excBase_ValueError F.x F.g F.k (raises_own F.b F.t) hg (hdb := hdb))) fun Dn σ H ⟨Hf, S, B, P, env, st, po⟩ => ⟨x, F.g, rfl, po P σ H st.bare⟩
end
section
variable {X : Cx} {CX : CXT} {k : Nat} {f C : Addr} {fd : FuncData} {ps : List Str} {sp : Sp} {E : L2.St → XK} {x m : Str} {p pos apos : Pos} {e o : Expr} {es : List Expr} {ta : TE} {t : TA} {pl : Sem Bool} {σ : L2.St}
theorem run_makeS {pins : List (Addr × Obj)} {H : Hp} {s : Shared} {Q : VK} {us : List Value} {vs : List V} {E : XK} (M : Mk X.K C f) (F : FnOk X.prog X.w X.K X.mg X.base CX k f fd ps sp) (hr : Room (k + 1) X.A) (hb : Binds X.K fd ps []) (hx : PassesAt CX X σ E) (I : L2.Inv X pins σ H s) (r : Vals vs us)
    (h : ∀ x dx, H x = none → H dx = none → dx ≠ x → sp (.ref x :: vs) (upd (upd H dx (.own x)) x (.ins C dx [])) (fun v H2 => v = .non ∧ Q (.ref x) H2) E) :
    wpAny (model X.prog X.w) X.A (call (.ref C) us) (EP X pins σ Q) X.xe s := by
  have hq := h (s.heap.objs.size + 1) s.heap.objs.size (I.hok.fresh (Nat.le_succ _)) (I.hok.fresh (Nat.le_refl _)) (Nat.ne_of_lt (Nat.lt_succ_self _))
  have I2 := I.made (C := C)
  have r2 : Vals (.ref (s.heap.objs.size + 1) :: vs) (.ref (s.heap.objs.size + 1) :: us) := .cons (show L2.RelV (.ref _) (.ref _) from rfl) r
  have hl : (Value.ref (s.heap.objs.size + 1) :: us).length = ps.length := by rw [← Vals.length r2]; exact F.len _ _ _ _ hq
  have hb2 := hb _ (.ref (s.heap.objs.size + 1) :: us) I2.kIn (by rw [List.append_nil]; exact hl)
  rw [List.append_nil] at hb2
  refine wpAny_call (make_map I.kIn M.makes M.init (beq_iff_eq.mp M.fn) (codeAny_mono (F.run _ X.stack _ _ _ _ _ _ _ (hr.make C us []) (I2.env0.make C us []) hb2 r2 hq) fun r s' hq' => ?_))
  cases r with
  | error e => exact hx _ _ _ e s' I2 hq'
  | ok fl =>
    cases fl with
    | ret u =>
      obtain ⟨v, H', I3, rv, ev, q3⟩ := I2.after hq'
      subst ev
      exact ⟨rv, .ref (s.heap.objs.size + 1), H', I3, rfl, q3⟩
    | _ => exact hq'.elim
theorem pe_makeS (M : Mk X.K C f) (F : FnOk X.prog X.w X.K X.mg X.base CX k f fd ps sp) (hr : Room (k + 1) X.A) (hg : Gl X x) (hm : X.mg x = some (.ref C)) (hb : Binds X.K fd ps []) (hx : ∀ σ, PassesAt CX X σ (E σ)) (ha : PA X (e :: es) t) (hdb : (x == ("__debug__" : Str)) = false := by decide)
    (he : starEach (e :: es) X.env = (false, eval e X.env) :: starEach es X.env := by rfl) (hpl : (backTo pos (starEach es X.env)).any (·.1) = false := by rfl) :
    PE X (.Call (.Name x p) (e :: es) [] pos) (fun σ H Q => t σ H fun vs H1 => ∀ x dx, H1 x = none → H1 dx = none → dx ≠ x → sp (.ref x :: vs) (upd (upd H1 dx (.own x)) x (.ins C dx [])) (fun v H2 => v = .non ∧ Q (.ref x) H2) (E σ)) :=
  ⟨fun pins s σ H Q I h => wpAny_Call_Name_kw (ld_glob I hg hm (PySem.W.callWith_K I.ok.mod.kin M.kp (thn (ha.run pos pins s σ H _ I h) fun us s1 ⟨vs, H1, I1, r, q⟩ => ⟨I1.kIn, run_makeS M F hr hb (hx σ) I1 r q⟩) he hpl) hdb)⟩
theorem pe_methS (he : PE X o ta) (c : Cls X.K C) (hm : Meth X.K C m f) (F : FnOk X.prog X.w X.K X.mg X.base CX k f fd ps sp) (hr : Room k X.A) (hb : Binds X.K fd ps []) (hx : ∀ σ, PassesAt CX X σ (E σ)) (ha : PA X (e :: es) t)
    (hst : starEach (e :: es) X.env = (false, eval e X.env) :: starEach es X.env := by rfl) (hpl : (backTo pos (starEach es X.env)).any (·.1) = false := by rfl)
    (ht : eval (.Call (.Attribute o m apos) (e :: es) [] pos) X.env = (do
      let ov ← eval o X.env
      standAt apos.atName
      let (f, first) ← holding [ov] (getMethod ov m pl)
      callWith pos f first (backTo pos (starEach (e :: es) X.env)) (backToKw pos (keywordEach [] X.env))) := by rfl) :
    PE X (.Call (.Attribute o m apos) (e :: es) [] pos) (fun σ H Q => ta σ H fun x H1 => ∃ a dx fs, x = .ref a ∧ H1 a = some (.ins C dx fs) ∧ fs.lookup m = none ∧ t σ H1 fun vs H2 => sp (x :: vs) H2 Q (E σ)) :=
  ⟨fun pins s σ H Q I h => PySem.W.methodCall_KW (thn (he.run pins s σ H _ I h) fun u s1 ⟨x, H1, I1, rx, a, dx, fs, ex, ea, l, q⟩ => by
    subst ex
    cases rx
    exact getmeth_ok I1 ea c hm l (PySem.W.callWith_K I.ok.mod.kin hm.kp (thn (ha.run pos pins s1 σ H1 _ I1 q) fun us s2 ⟨vs, H2, I2, r, q2⟩ => ⟨I2.kIn, run_fnS F hr hb (hx σ) I2 (.cons (show L2.RelV (.ref a) (.ref a) from rfl) r) q2⟩) hst hpl)) ht⟩
end
end Dx
set_option Elab.async false
set_option linter.all false
set_option maxRecDepth 100000
set_option maxHeartbeats 4000000
namespace Dx
open PySem PySem.Spec PyProof.Rows L2
open RZ RT
/-- what is new in a later heap -/
def nw (H H1 : Hp) : Hp := fun b => if H b = none then H1 b else none
section
variable {K : PySem.W.Frag} {H H1 H2 H3 : Hp} {S : List Addr}
theorem nw_at {b : Addr} {o : HO} (n : H b = none) (h : H1 b = some o) : nw H H1 b = some o := by unfold nw; rw [if_pos n]; exact h
theorem nw_out {b : Addr} {o : HO} (h : nw H H1 b = some o) : H b = none ∧ H1 b = some o := by
  unfold nw at h
  split at h
  · exact ⟨by assumption, h⟩
  · cases h
theorem nw_hid (s : Sub S H) : Ex (nw H H1) (hid S H1) := fun b o h => by
  obtain ⟨n, h⟩ := nw_out h
  rw [hid_at (s.new n) h]; exact Keep.same o
/-- seen from an earlier heap, by a later one -/
theorem nw_ex (e : Ex H H1) (e2 : Ex H2 H3) : Ex (nw H1 H2) (nw H H3) := fun b o h => by
  obtain ⟨n, h⟩ := nw_out h
  have n' := ex_none e n
  show Keep o (if H b = none then H3 b else none)
  rw [if_pos n']
  exact e2 b o h
theorem flatL_any {H H' : Hp} : ∀ {vs : List V} {ds : List D}, DenL K H vs ds → ds.all D.flat = true → DenL K H' vs ds
  | _, _, .nil, _ => .nil
  | _, _, .cons h r, f => by
    rw [List.all_cons, Bool.and_eq_true] at f
    exact .cons (flat_any h f.1) (flatL_any r f.2)
theorem ex_hid0 : Ex H (hid [] H) := fun a o h => by rw [hid_at (List.not_mem_nil) h]; exact Keep.same o
theorem DenF.lookN : ∀ {fs : List (Str × V)} {gs : List (Str × D)} {f : Str}, DenF K H fs gs → gs.lookup f = none → fs.lookup f = none
  | _, _, f, .nil, e => rfl
  | _, _, f, .cons (f := g) h r, e => by
    rw [List.lookup_cons] at e ⊢
    cases q : f == g with
    | true => rw [q] at e; cases e
    | false => rw [q] at e; exact DenF.lookN r e
end
/-- the promise of a class's __init__ -/
def SpI (K : PySem.W.Frag) (mg : Str → Option Value) (tb : List Addr) (n : Nat) (c : Str) (F : List D → Res (List (Str × D))) : Sp := fun vs H Q E =>
  ∃ (a dx : Addr) (us : List V) (S : List Addr) (ds : List D), vs = .ref a :: us ∧ us.length = n ∧ H a = some (.ins (He.ga K c) dx []) ∧ Sub S H ∧ (∀ T ∈ tb, GxR.TabG (hid (a :: S) H) T) ∧ DenL K (hid (a :: S) H) us ds ∧
  match F ds with
  | .ok gs => ∀ H1 fs, Ex (hid [a] H) (hid [a] H1) → H1 a = some (.ins (He.ga K c) dx fs) → DenF K (nw H H1) fs gs → Q .non H1
  | .err e => ∀ H1 u, Ex (hid [a] H) (hid [a] H1) → mg e = some u → E u none H1
  | .stuck => False
structure Maker (P : Program) (w : World) (K : PySem.W.Frag) (mg : Str → Option Value) (base : Heap) (tb : List Addr) (c : Str) (k n : Nat) (F : List D → Res (List (Str × D))) : Prop where
  g : mg c = some (.ref (He.ga K c))
  ex : ∃ (f : Addr) (fd : FuncData) (ps : List Str), FnOk P w K mg base (L2.CX P w) k f fd ps (SpI K mg tb n c F) ∧ Mk K (He.ga K c) f ∧ Binds K fd ps []
structure MCallee (P : Program) (w : World) (K : PySem.W.Frag) (mg : Str → Option Value) (base : Heap) (tb : List Addr) (c m : Str) (k n : Nat) (fr : Bool) (F : List D → Res D) : Prop where
  cl : Cls K (He.ga K c)
  ex : ∃ (f : Addr) (fd : FuncData) (ps : List Str), FnOk P w K mg base (L2.CX P w) k f fd ps (SpF K mg tb n fr F) ∧ Meth K (He.ga K c) m f ∧ Binds K fd ps []
def eMake (c : Str) (g : EL) (F : List D → Res (List (Str × D))) : EE := fun env => (g env).bind fun ds => (F ds).map (.obj c)
def eMeth (c m : Str) (f : EE) (g : EL) (F : List D → Res D) : EE := fun env => (f env).bind fun d => match d with
  | .obj c' gs => if c' = c ∧ gs.lookup m = none then (g env).bind fun ds => F (.obj c' gs :: ds) else .stuck
  | _ => .stuck
/-- an evaluation whose value leans on new objects alone -/
def PostN (K : PySem.W.Frag) (w : Wi) (σ : L2.St) (H : Hp) (Q : VK) : Res D → Prop
  | .ok d => ∀ v H1, Ex H H1 → Den K (nw H H1) v d → Q v H1
  | .err c => ∀ H1, Ex H H1 → w c σ H1
  | .stuck => False
def tN (K : PySem.W.Frag) (w : Wi) (R : List Nat) (f : EE) : TE := fun σ H Q => ∃ (S : List Addr) (env : Sl), Sub S H ∧ EnvOk K w.tb R env σ (hid S H) ∧ PostN K w σ H Q (f env)
abbrev DN (X : Cx) (w : Wi) (R : List Nat) (e : Expr) (f : EE) : Prop := PE X e (tN X.K w R f)
section
variable {X : Cx} {w : Wi} {R Ra Rb : List Nat} {e o : Expr} {es : List Expr} {g : EL} {fo : EE} {F : List D → Res (List (Str × D))} {G : List D → Res D} {x c m : Str} {p pos apos : Pos} {k j n : Nat} {pl : Sem Bool}
theorem PostN.mono {K : PySem.W.Frag} {σ : L2.St} {H H1 : Hp} {Q : VK} {r : Res D} (h : PostN K w σ H Q r) (e : Ex H H1) : PostN K w σ H1 Q r := by
  cases r with
  | ok a => exact fun v H2 e2 r => h v H2 (e.trans e2) (r.mono (nw_ex e (Ex.refl _)))
  | err c => exact fun H2 e2 => h H2 (e.trans e2)
  | stuck => exact h
theorem PostN.bind {K : PySem.W.Frag} {S : List Addr} {σ : L2.St} {H : Hp} {Q : VK} {α β : Type} {Rel : Hp → β → α → Prop} {Q' : β → Hp → Prop} {r : Res α} {k : α → Res D} (h : PostN K w σ H Q (r.bind k)) (hk : ∀ a, r = .ok a → ∀ b H1, Ex H H1 → Rel (hid S H1) b a → PostN K w σ H1 Q (k a) → Q' b H1) : Post Rel w S σ H Q' r := by
  cases r with
  | ok a => exact fun b H1 e r => hk a rfl b H1 e r (PostN.mono (r := k a) h e)
  | err c => exact h
  | stuck => exact h
theorem dn_make (C : Maker X.prog X.w X.K X.mg X.base w.tb x k n F) (hr : Room j X.A) (tk : Takes X (wx X.mg w)) (ha : DA X w R (e :: es) g) (hk : k + 1 ≤ j := by decide) (hg : Gl X x := by rfl) (hdb : (x == ("__debug__" : Str)) = false := by decide)
    (he : starEach (e :: es) X.env = (false, eval e X.env) :: starEach es X.env := by rfl) (hpl : (backTo pos (starEach es X.env)).any (·.1) = false := by rfl) (hn : (e :: es).length = n := by rfl) : DN X w R (.Call (.Name x p) (e :: es) [] pos) (eMake x g F) := by
  obtain ⟨f, fd, ps, G, M, hb⟩ := C.ex
  refine PE.weak (pe_makeS M G (hr.mono hk) hg C.g hb (fun σ => passAt tk σ) ha.pa hdb he hpl) fun σ H Q ⟨S, env, sub, ok, po⟩ => ?_
  refine ⟨S, env, sub, ok, PostN.bind po fun ds hd vs H1 e1 dv po1 => fun a dx ha' hdx ne => ?_⟩
  have s1 := sub.mono e1
  have eH : Ex H1 (upd (upd H1 dx (.own a)) a (.ins (He.ga X.K x) dx [])) := Ex.mutd (Ex.new hdx) ha'
  have eh : Ex (hid S H1) (hid (a :: S) (upd (upd H1 dx (.own a)) a (.ins (He.ga X.K x) dx []))) := hid_fresh ha' eH
  have eh0 : Ex H1 (hid [a] (upd (upd H1 dx (.own a)) a (.ins (He.ga X.K x) dx []))) := ex_hid0.trans (hid_fresh ha' eH)
  refine ⟨a, dx, vs, S, ds, rfl, by rw [dv.len, ha.len env ds hd]; exact hn, upd_same, s1.mono eH, fun T m => eh.tab ((ok.mono (hid_ex e1)).tab T m), dv.mono eh, ?_⟩
  cases q : F ds with
  | ok gs =>
    rw [q] at po1
    intro H2 fs e2 h2 r2
    exact ⟨rfl, po1 _ _ ((eh0.trans e2).trans hid_le) (.obj (nw_at ha' h2) (r2.mono (nw_ex eH (Ex.refl _))))⟩
  | err c => rw [q] at po1; exact fun H2 u e2 hu => ⟨c, hu, rfl, po1 H2 ((eh0.trans e2).trans hid_le)⟩
  | stuck => rw [q] at po1; exact po1
theorem de_meth (C : MCallee X.prog X.w X.K X.mg X.base w.tb c m k n false G) (hr : Room j X.A) (tk : Takes X (wx X.mg w)) (ho : DE X w Ra o fo) (ha : DA X w Rb (e :: es) g) (hk : k ≤ j := by decide)
    (hst : starEach (e :: es) X.env = (false, eval e X.env) :: starEach es X.env := by rfl) (hpl : (backTo pos (starEach es X.env)).any (·.1) = false := by rfl)
    (ht : eval (.Call (.Attribute o m apos) (e :: es) [] pos) X.env = (do
      let ov ← eval o X.env
      standAt apos.atName
      let (f, first) ← holding [ov] (getMethod ov m pl)
      callWith pos f first (backTo pos (starEach (e :: es) X.env)) (backToKw pos (keywordEach [] X.env))) := by rfl) (hn : (e :: es).length + 1 = n := by rfl) :
    DE X w (Ra ++ Rb) (.Call (.Attribute o m apos) (e :: es) [] pos) (eMeth c m fo g G) := by
  obtain ⟨f, fd, ps, F, M, hb⟩ := C.ex
  refine PE.weak (pe_methS ho C.cl M F (hr.mono hk) hb (fun σ => passAt tk σ) ha.pa hst hpl ht) fun σ H Q ⟨S, env, sub, ok, po⟩ => ?_
  refine ⟨S, env, sub, ok.left, Post.bind (Rel2 := Den X.K) po fun d _ v H1 e1 dv po1 => ?_⟩
  cases d <;> first | exact po1.elim | skip
  rename_i c' gs _
  dsimp only at po1
  split at po1
  · rename_i hc
    obtain ⟨rfl, hl⟩ := hc
    obtain ⟨a, dx, fs, rfl, h1, r1⟩ := den_obj dv
    refine ⟨a, dx, fs, rfl, (hid_out h1).2, r1.lookN hl, S, env, sub.mono e1, ok.right.mono (hid_ex e1), Post.bind (Rel2 := Den X.K) po1 fun ds hd vs H2 e2 dvs po2 => ?_⟩
    refine ⟨by rw [List.length_cons, dvs.len, ha.len env ds hd]; exact hn, S, _, (sub.mono e1).mono e2, ((ok.mono (hid_ex e1)).mono (hid_ex e2)).tab, .cons (dv.mono (hid_ex e2)) dvs, ?_⟩
    cases q : G (.obj c' gs :: ds) with
    | ok d => rw [q] at po2; exact fun v H3 e3 r => po2 v H3 e3 r
    | err c => rw [q] at po2; exact fun H3 u e3 hu => ⟨c, hu, rfl, po2 H3 e3⟩
    | stuck => rw [q] at po2; exact po2
  · exact po1.elim
end
end Dx
set_option Elab.async false
set_option linter.all false
set_option maxRecDepth 100000
set_option maxHeartbeats 4000000
namespace Dx
open PySem PySem.Spec PyProof.Rows L2
open RZ RT
def flatL (l : List D) : Res (List D) := if l.all D.flat = true then .ok l else .stuck
def selfAt (e : Sl) : Option Addr := match e[0]? with
  | some (some (D.raw (.ref b))) => some b
  | _ => none
def initEnv (n : Nat) (a : Addr) (ds : List D) : Sl := (D.raw (.ref a) :: ds).map some ++ List.replicate (n - (D.raw (.ref a) :: ds).length) none
def initTwo (n : Nat) (f1 f2 : Str) (s1 : Sl → Out) (g1 g2 : EL) (a : Addr) (ds : List D) : Res (List (Str × D)) :=
  match s1 (initEnv n a ds) with
  | .nxt e => if selfAt e = some a then ((g1 e).bind flatL).bind fun l1 => ((g2 e).bind flatL).bind fun l2 => .ok [(f1, .lst l1), (f2, .lst l2)] else .stuck
  | .err c _ => .err c
  | _ => .stuck
def InitOk (P : Program) (w : World) (K : PySem.W.Frag) (mg : Str → Option Value) (base : Heap) (tb : List Addr) (N : List Str) (qual : Str) (sc : Scope) (f : Addr) (fd : FuncData) (k : Nat) (st1 : Stmt) (t1 t2 : Expr) (v1 v2 : Expr) (r1 r2 : Pos) (s1 : Sl → Out) (R1 R2 : List Nat) (g1 g2 : EL) : Prop :=
  ∀ (cdv : Value), fd.code = cdv → ∀ (A : Around) (outer : List Env) (s : Shared) (H : Hp) (E : XK), Room k (A.deeper (envOfC qual sc s.heap.objs.size f cdv)) → N.Nodup → Takes (cxOf (L2.CX P w) P w K mg base N qual sc f cdv A outer s H E) (wx mg (wE mg tb E)) →
    DS (cxOf (L2.CX P w) P w K mg base N qual sc f cdv A outer s H E) (wE mg tb E) false [] [] [] st1 s1 ∧
      DL (cxOf (L2.CX P w) P w K mg base N qual sc f cdv A outer s H E) (wE mg tb E) R1 v1 g1 ∧ DL (cxOf (L2.CX P w) P w K mg base N qual sc f cdv A outer s H E) (wE mg tb E) R2 v2 g2 ∧
      swapsWith v1 (some t1) r1.line (cxOf (L2.CX P w) P w K mg base N qual sc f cdv A outer s H E).env = pure false ∧ swapsWith v2 (some t2) r2.line (cxOf (L2.CX P w) P w K mg base N qual sc f cdv A outer s H E).env = pure false
theorem ex_hid_upd {H H1 : Hp} {a : Addr} {o : HO} (e : Ex (hid [a] H) (hid [a] H1)) : Ex (hid [a] H) (hid [a] (upd H1 a o)) := by
  rw [hid_upd (List.mem_singleton.mpr rfl)]; exact e
section
variable {P : Program} {w : World} {K : PySem.W.Frag} {mg : Str → Option Value} {base : Heap} {tb : List Addr}
theorem fn_okI {c qual f1 f2 : Str} {self : Str} {pm : Arguments} {bd : List Stmt} {sc : Scope} {f : Addr} {fd : FuncData} {N ps : List Str} {k : Nat} {st1 : Stmt} {v1 v2 : Expr} {p1 p2 q1 q2 r1 r2 : Pos} {s1 : Sl → Out} {R1 R2 : List Nat} {g1 g2 : EL} {F : List D → Res (List (Str × D))} {n : Nat}
    (FD : FunD K "__init__" qual pm bd sc [] [] f fd) (hbd : bd = [st1, .Assign [.Attribute (.Name self p1) f1 q1] v1 r1, .Assign [.Attribute (.Name self p2) f2 q2] v2 r2]) (Sc : FnScope N ps sc) (hn : ps.length = n + 1) (hs : N[0]? = some self) (hvis : Vis sc self) (hdb : (self == ("__debug__" : Str)) = false) (hcd : (self == ("__classdict__" : Str)) = false)
    (cl : Cls K (He.ga K c)) (na1 : NoAttr K (He.ga K c) f1) (na2 : NoAttr K (He.ga K c) f2) (hput1 : ∀ y : V, putF f1 y [] = [(f1, y)]) (hput : ∀ y z : V, putF f2 z [(f1, y)] = [(f1, y), (f2, z)])
    (hF : ∀ a ds, initTwo N.length f1 f2 s1 g1 g2 a ds = F ds)
    (hb : InitOk P w K mg base tb N qual sc f fd k st1 (.Attribute (.Name self p1) f1 q1) (.Attribute (.Name self p2) f2 q2) v1 v2 r1 r2 s1 R1 R2 g1 g2) :
    FnOk P w K mg base (L2.CX P w) (k + 1) f fd ps (SpI K mg tb n c F) := by
  subst hbd
  refine okX FD Sc (fun vs H Q E h => ?_) fun cdv hcode A outer s H vs Q E hr h => ?_
  · obtain ⟨a, dx, us, S, ds, rfl, hl, _⟩ := h
    rw [List.length_cons, hl, hn]
  obtain ⟨d1, e1, e2, sw1, sw2⟩ := hb cdv hcode A outer s H E hr Sc.nd (takesE (takes_of rfl rfl rfl rfl))
  have vn : ∀ p, PE (cxOf (L2.CX P w) P w K mg base N qual sc f cdv A outer s H E) (.Name self p) (tVar 0) := fun p => pe_var hs hvis hdb hcd
  refine ⟨_, pss_cons d1 (pss_cons (ps_fld (vn _) e1 sw1) (pss_one (ps_fld (vn _) e2 sw2))), ?_⟩
  obtain ⟨a, dx, us, S, ds, rfl, hl, ha, sub, tabs, dv, po⟩ := h
  have subA : Sub (a :: S) H := fun b m z => by
    rcases List.mem_cons.mp m with q | q
    · rw [q, ha] at z; cases z
    · exact sub b q z
  have dall : DenL K (hid (a :: S) H) (.ref a :: us) (D.raw (.ref a) :: ds) := .cons (.raw _) dv
  refine ⟨H, a :: S, hid (a :: S) H, fun _ => 0, initEnv N.length a ds, ⟨?_, Ex.refl _, subA, ?_, ?_, (fun _ m => nomatch m), (fun _ m => nomatch m), fun i _ d hd => ?_⟩, ?_⟩
  · show _ = (start N (.ref a :: us)).length
    unfold L2.start initEnv
    simp [dv.len]
  · show Ex (hid (a :: S) H) (hid (a :: S ++ []) H)
    rw [List.append_nil]
    exact Ex.refl _
  · show ∀ T ∈ tb, GxR.TabG (hid (a :: S ++ []) H) T
    rw [List.append_nil]
    exact tabs
  · show ∃ v, (start N (.ref a :: us))[i]? = some (some v) ∧ Den K (hid (a :: S ++ []) H) v d
    rw [List.append_nil]
    exact start_get dall N.length i d hd
  · rw [← hF a ds] at po
    unfold initTwo at po
    generalize s1 (initEnv N.length a ds) = o at po
    cases o with
    | nxt e =>
      dsimp only at po
      intro P' σ H1 st
      by_cases hself : selfAt e = some a
      · rw [if_pos hself] at po
        have ea : e[0]? = some (some (D.raw (.ref a))) := by
          unfold selfAt at hself
          split at hself
          · rename_i b hb
            cases hself
            exact hb
          · cases hself
        obtain ⟨va, hσ, dva⟩ := st.oth 0 (fun m => nomatch m) _ ea
        cases dva
        have okE : ∀ R, EnvOk K tb R e σ (hid (a :: S) H1) := fun R => st.all
        have sub1 : Sub (a :: S) H1 := st.subS
        have h1a : H1 a = some (.ins (He.ga K c) dx []) := st.exf _ _ ha
        refine ⟨a :: S, e, sub1, okE _, ?_⟩
        cases x1 : g1 e with
        | stuck => rw [x1] at po; exact po.elim
        | err c' => rw [x1] at po; exact fun H2 ex2 u hu => po H2 u ((hid_ex (st.exf.trans ex2))) hu
        | ok l1 =>
          intro p vs1 H2 hp ex2 hp2 r1
          rw [x1] at po
          have po2 := po
          by_cases fl1 : l1.all D.flat = true
          · have z1 : (Res.bind (.ok l1) flatL) = .ok l1 := by rw [bind_ok]; unfold flatL; rw [if_pos fl1]
            rw [z1, bind_ok] at po
            have h2a : H2 a = some (.ins (He.ga K c) dx []) := ex2 _ _ h1a
            refine ⟨.ref a, hσ, a, He.ga K c, dx, [], rfl, h2a, cl, na1, (by decide), ?_⟩
            rw [hput1]
            have hu : hid (a :: S) (upd H2 a (.ins (He.ga K c) dx [(f1, .ref p)])) = hid (a :: S) H2 := hid_upd List.mem_cons_self
            refine ⟨a :: S, e, ?_, ?_, ?_⟩
            · intro b m z
              by_cases hb : b = a
              · rw [hb, upd_same] at z; cases z
              · rw [upd_ne hb] at z; exact (sub1.mono ex2) b m z
            · rw [hu]; exact (okE _).mono (hid_ex ex2)
            · have ex12 := st.exf.trans ex2
              cases x2 : g2 e with
              | stuck => rw [x2] at po; exact po.elim
              | err c' =>
                rw [x2] at po
                intro H3 ex3 u hu'
                exact po H3 u ((ex_hid_upd (hid_ex ex12)).trans (hid_ex ex3)) hu'
              | ok l2 =>
                rw [x2] at po
                by_cases fl2 : l2.all D.flat = true
                · have z2 : (Res.bind (.ok l2) flatL) = .ok l2 := by rw [bind_ok]; unfold flatL; rw [if_pos fl2]
                  rw [z2, bind_ok] at po
                  intro q vs2 H3 hq ex3 hq3 r2
                  have h3a : H3 a = some (.ins (He.ga K c) dx [(f1, .ref p)]) := ex3 _ _ upd_same
                  refine ⟨.ref a, hσ, a, He.ga K c, dx, _, rfl, h3a, cl, na2, (by show 1 < 1000; decide), ?_⟩
                  rw [hput]
                  have pa : p ≠ a := fun z => by rw [z, h1a] at hp; cases hp
                  have qa : q ≠ a := fun z => by rw [z, upd_same] at hq; cases hq
                  have h3p : H3 p = some (.lst vs1) := ex3 p (.lst vs1) (by rw [upd_ne pa]; exact hp2)
                  have nq : H q = none := by
                    rw [upd_ne qa] at hq
                    exact ex_none ex12 hq
                  refine po _ _ (ex_hid_upd ((ex_hid_upd (hid_ex ex12)).trans (hid_ex ex3))) upd_same ?_
                  refine .cons (.lst (nw_at (ex_none st.exf hp) (by rw [upd_ne pa]; exact h3p)) (flatL_any r1 fl1)) (.cons (.lst (nw_at nq (by rw [upd_ne qa]; exact hq3)) (flatL_any r2 fl2)) .nil)
                · rw [show Res.bind (.ok l2) flatL = .stuck from by rw [bind_ok]; unfold flatL; rw [if_neg fl2]] at po
                  exact po.elim
          · rw [show Res.bind (.ok l1) flatL = .stuck from by rw [bind_ok]; unfold flatL; rw [if_neg fl1]] at po
            exact po.elim
      · rw [if_neg hself] at po
        exact po.elim
    | err c' e => exact fun P' σ' H' st u hu => po H' u (hid_ex st.exf) hu
    | ret d => exact po.elim
    | brk e => exact po.elim
    | cnt e => exact po.elim
    | stuck => exact po.elim
end
end Dx
set_option Elab.async false
set_option linter.all false
set_option maxRecDepth 100000
set_option maxHeartbeats 4000000
namespace Dx
open PySem PySem.Spec PyProof.Rows L2
open RZ RT
structure FnHP (P : Program) (w : World) (K : PySem.W.Frag) (mg : Str → Option Value) (base : Heap) (CX : CXT) (k : Nat) (f : Addr) (fd : FuncData) (ps : List Str) (Zp : Addr × Obj → Prop) (sp : Addr × Obj → Sp) : Prop where
  len : ∀ p vs H Q E, sp p vs H Q E → vs.length = ps.length
  run : ∀ (A : Around) (outer : List Env) (s : Shared) (H : Hp) (args : Args) (us : List Value) (vs : List V) (Q : VK) (E : XK) (p : Addr × Obj), L2H.RoomH k A → L2H.PinOk outer H s p → Zp p → Env0 P w K mg base A outer s H → BindsTo s fd args (ps.zip us) → Vals vs us → sp p vs H Q E →
    codeAny (model P w) A (.call (.ref f) args) (CR CX outer P w H s Q E) s
theorem fn_ofHP {CX : CXT} {P : Program} {w : World} {K : PySem.W.Frag} {mg : Str → Option Value} {base : Heap} {k : Nat} {f : Addr} {x qual : Str} {pm : Arguments} {bd : List Stmt} {sc : Scope} {fd : FuncData} {N ps : List Str} {Zp : Addr × Obj → Prop} {sp : Addr × Obj → Sp}
    (FD : FunD K x qual pm bd sc [] [] f fd) (Sc : FnScope N ps sc) (len : ∀ p vs H Q E, sp p vs H Q E → vs.length = ps.length)
    (hbody : ∀ (cdv : Value), fd.code = cdv → ∀ (A : Around) (outer : List Env) (s : Shared) (H : Hp) (vs : List V) (Q : VK) (E : XK) (p : Addr × Obj), Zp p → L2H.RoomH k (A.deeper (envOfC qual sc s.heap.objs.size f cdv)) → sp p vs H Q E →
      ∃ t, PSs (L2H.cxH CX P w K mg base N qual sc f cdv A outer s H E p) bd t ∧ t { nx := fun _ H' => Q .non H', rt := Q } (start N vs) H) :
    FnHP P w K mg base CX (k + 1) f fd ps Zp sp := by
  obtain ⟨oc, od, dV, kV, doc, pm', an, cdv, ct, osl, rfl, lk, hcd, _, _⟩ := FD.ex
  refine ⟨len, fun A outer s H args us vs Q E p hr hpin hz e0 hb r hsp => ?_⟩
  have hl := len p vs H Q E hsp
  have KX := e0.mod.kin.keeps fun b o e => (e0.bs b o e).1
  have lim := e0.mod.nolimit.keeps fun b o e => (e0.bs b o e).1
  refine codeAny_call_function hr.depth (KX f _ lk) rfl Sc.co Sc.gen rfl (PySem.W.codeRec_of KX hcd) (hb (model P w) A.in1 _ _ (wpAny_newFunctionEnv_cells Sc.kind ?_ fun env he s1 x => ?_))
  · rintro ⟨n, v⟩ hy
    rcases Sc.par n (List.of_mem_zip hy).1 with q | q
    · exact .inl q
    · exact .inr ⟨q, PySem.W.cellsFrom_some sc.names (s.heap.objs.size + 1) [] (.inl q)⟩
  · subst he
    refine ⟨lim.keeps x.toInCall.keep, codeAny_func ?_⟩
    obtain ⟨t, ht, hq⟩ := hbody cdv rfl A outer s H vs Q E p hz (hr.deeper _) hsp
    have I := L2H.inv_startH (CX := CX) (P := P) (w := w) (K := K) (mg := mg) (base := base) (E := E) Sc hpin e0 hl r x
    refine wpAny_mono (ht.run [] s1 _ H _ I hq) (fun fl s' hs => ?_) fun e s' hs => hs
    cases fl with
    | next =>
      obtain ⟨σ', H', J, q⟩ := hs
      exact ⟨.non, H', J.os, J.bare, J.base, J.hok, rfl, q⟩
    | ret u =>
      obtain ⟨v, σ', H', J, rv, q⟩ := hs
      exact ⟨v, H', J.os, J.bare, J.base, J.hok, rv, q⟩
    | _ =>
      obtain ⟨_, _, _, q⟩ := hs
      exact q.elim
section
variable {X : Cx} {CX : CXT} {k : Nat} {f : Addr} {fd : FuncData} {ps : List Str} {Zp : Addr × Obj → Prop} {sp : Addr × Obj → Sp} {E : L2.St → XK} {x : Str} {q pos : Pos} {e : Expr} {es : List Expr} {t : TA} {p : Addr × Obj}
theorem run_fnHP {pins : List (Addr × Obj)} {σ : L2.St} {H : Hp} {s : Shared} {Q : VK} {us : List Value} {vs : List V} {E : XK} (F : FnHP X.prog X.w X.K X.mg X.base CX k f fd ps Zp sp) (hr : L2H.RoomH k X.A) (hp : p ∈ X.pn) (hz : Zp p) (hb : Binds X.K fd ps []) (hx : PassesAt CX X σ E) (I : L2.Inv X pins σ H s) (r : Vals vs us) (h : sp p vs H Q E) :
    wpAny (model X.prog X.w) X.A (call (.ref f) us) (EP X pins σ Q) X.xe s := by
  have hl : us.length = ps.length := by rw [← Vals.length r]; exact F.len _ _ _ _ _ h
  have b := hb s us I.kIn (by rw [List.append_nil]; exact hl)
  rw [List.append_nil] at b
  have P1 := I.pin p (List.mem_append_left pins hp)
  have hpin : L2H.PinOk X.stack H s p := ⟨P1.1, P1.2.1, fun hm => by
    rcases List.mem_cons.mp (I.stkSub p.1 hm) with z | z
    · exact P1.2.2.1 z
    · exact P1.2.2.2.1 z, P1.2.2.2.2⟩
  refine wpAny_call (codeAny_mono (F.run X.A X.stack s H _ us vs Q E p hr hpin hz I.env0 b r h) fun r s' hq => ?_)
  cases r with
  | error e => exact hx pins H s e s' I hq
  | ok fl =>
    cases fl with
    | ret u => exact I.after hq
    | _ => exact hq.elim
theorem pe_callHP (F : FnHP X.prog X.w X.K X.mg X.base CX k f fd ps Zp sp) (hr : L2H.RoomH k X.A) (hp : p ∈ X.pn) (hz : Zp p) (hg : Gl X x) (hm : X.mg x = some (.ref f)) (hk : PySem.W.keepIn X.K (.ref f) = true) (hb : Binds X.K fd ps []) (hx : ∀ σ, PassesAt CX X σ (E σ)) (ha : PA X (e :: es) t) (hdb : (x == ("__debug__" : Str)) = false := by decide)
    (he : starEach (e :: es) X.env = (false, eval e X.env) :: starEach es X.env := by rfl) (hpl : (backTo pos (starEach es X.env)).any (·.1) = false := by rfl) : PE X (.Call (.Name x q) (e :: es) [] pos) (tCallS (sp p) E t) :=
  ⟨fun pins s σ H Q I h => wpAny_Call_Name_kw (ld_glob I hg hm (PySem.W.callWith_K I.ok.mod.kin hk (thn (ha.run pos pins s σ H _ I h) fun us s1 ⟨vs, H1, I1, r, q⟩ => ⟨I1.kIn, run_fnHP F hr hp hz hb (hx σ) I1 r q⟩) he hpl) hdb)⟩
/-- isinstance of the error -/
theorem call_isP {D : Addr} (hp : p ∈ X.pn) (C : ExcC X.K D) (hz : Zc (.ref D) none p.2) (hf : ∃ vs, p.2.data = .fields vs) : CallR X (.builtin "isinstance") (rIsE X.K D p.1) := fun pins s σ H xs us Q I r h => by
  obtain ⟨c, cv, b, rfl, hcv, e, q⟩ := h
  cases r with
  | cons rx rr =>
    cases rr with
    | cons rt rn =>
      cases rn
      cases rx
      have ec := hcv _ rt
      subst ec
      have P1 := I.pin p (List.mem_append_left _ hp)
      obtain ⟨vs, hv⟩ := hf
      have J : PySem.W.InstAt s.heap p.1 p.2 D none := by
        obtain ⟨a, ⟨oc, od, oda, osl⟩⟩ := p
        obtain ⟨h1, h2⟩ := hz
        dsimp only at h1 h2 hv
        subst h1 h2 hv
        exact ⟨P1.1, rfl, rfl, trivial⟩
      exact PySem.W.kia_one (PySem.W.handS_kitx_exc C.hg C.hk C.hs C.hd C.ha C.hn C.ht C.hm) I.kIn J e (fun z => nomatch z) fun tk => ⟨.bl b, H, I.kept fun _ _ z => z, rfl, q⟩
end
end Dx
set_option Elab.async false
set_option linter.all false
set_option maxRecDepth 100000
set_option maxHeartbeats 4000000
namespace Dx
open PySem PySem.Spec PyProof.Rows L2
open RZ RT
/-- what is known of the error -/
def ZpC (K : PySem.W.Frag) (c : Str) (p : Addr × Obj) : Prop := Zc (.ref (He.ga K c)) none p.2 ∧ ∃ vs, p.2.data = .fields vs
/-- the promise; the answer is flat -/
def SpH (K : PySem.W.Frag) (tb : List Addr) (F : Res D) (a : Addr) : Sp := fun vs H Q _ => vs = [.ref a] ∧ (∀ T ∈ tb, GxR.TabG H T) ∧
  match F with
  | .ok d => D.flat d = true ∧ ∀ v H1, Ex H H1 → (∀ H', Den K H' v d) → Q v H1
  | _ => False
structure HCallee (P : Program) (w : World) (K : PySem.W.Frag) (mg : Str → Option Value) (base : Heap) (tb : List Addr) (x : Str) (k : Nat) (cs : List Str) (F : Str → Res D) : Prop where
  ex : ∃ (f : Addr) (fd : FuncData) (ps : List Str), (∀ c ∈ cs, FnHP P w K mg base (L2.CX P w) k f fd ps (ZpC K c) fun p => SpH K tb (F c) p.1) ∧ mg x = some (.ref f) ∧ PySem.W.keepIn K (.ref f) = true ∧ Binds K fd ps []
def eIsE (a : Addr) (b : Bool) (f : EE) : EE := fun env => (f env).bind fun d => match d with
  | .raw (.ref a') => if a' = a then .ok (.bl b) else .stuck
  | _ => .stuck
def eCallH (a : Addr) (r : Res D) (f : EE) : EE := fun env => (f env).bind fun d => match d with
  | .raw (.ref a') => if a' = a then (match r with | .ok d => if D.flat d = true then .ok d else .stuck | _ => .stuck) else .stuck
  | _ => .stuck
theorem raw_den {K : PySem.W.Frag} {H : Hp} {v u : V} (h : Den K H v (.raw u)) : v = u := by cases h; rfl
section
variable {X : Cx} {w : Wi} {R : List Nat} {e : Expr} {fe : EE} {c : Str} {p : Addr × Obj} {x y : Str} {px py q pos : Pos} {b : Bool} {k j : Nat} {cs : List Str} {F : Str → Res D}
theorem isE_of {cv : Value} {cl : V} (hp : p ∈ X.pn) (hz : ZpC X.K c p) (C : ExcC X.K (He.ga X.K c)) (hc : ∀ u, L2.RelV cl u → u = cv) (kt : PySem.W.kitOne X.K (.ref (He.ga X.K c)) cv = some b) (he : DE X w R e fe) (hm : X.mg "isinstance" = none) (hn : PE X (.Name y py) (tC cl)) (hg : Gl X "isinstance" := by rfl)
    (hs : starEach [e, .Name y py] X.env = (false, eval e X.env) :: starEach [.Name y py] X.env := by rfl) (hs2 : starEach [.Name y py] X.env = (false, eval (.Name y py) X.env) :: starEach [] X.env := by rfl) (hpl : (backTo pos (starEach [.Name y py] X.env)).any (·.1) = false := by rfl) : DE X w R (.Call (.Name "isinstance" px) [e, .Name y py] [] pos) (eIsE p.1 b fe) := by
  refine PE.weak (pe_callB (call_isP hp C hz.1 hz.2) hg hm (by decide +kernel) (pa_cons he (pa_cons hn pa_nil hs2) hs) (by decide) (by decide) hs hpl) fun σ H Q ⟨S, env, sub, ok, po⟩ => ?_
  refine ⟨S, env, sub, ok, Post.bind (Rel2 := Den X.K) po fun d _ v H1 e1 dv po1 => ?_⟩
  cases d <;> first | exact po1.elim | skip
  rename_i u _
  have := raw_den dv
  subst this
  cases v <;> first | exact po1.elim | skip
  dsimp only at po1
  split at po1
  · rename_i ea
    subst ea
    exact ⟨_, cv, b, rfl, hc, kt, Post.okay (Rel := Den X.K) po1 (.bl _)⟩
  · exact po1.elim
/-- of a class of the text -/
theorem de_isE (hp : p ∈ X.pn) (hz : ZpC X.K c p) (C : ExcC X.K (He.ga X.K c)) (g : X.mg y = some (.ref (He.ga X.K y))) (kt : PySem.W.kitOne X.K (.ref (He.ga X.K c)) (.ref (He.ga X.K y)) = some b) (he : DE X w R e fe) (hm : X.mg "isinstance" = none) (hgy : Gl X y := by rfl) (hdb : (y == ("__debug__" : Str)) = false := by decide) (hg : Gl X "isinstance" := by rfl)
    (hs : starEach [e, .Name y py] X.env = (false, eval e X.env) :: starEach [.Name y py] X.env := by rfl) (hs2 : starEach [.Name y py] X.env = (false, eval (.Name y py) X.env) :: starEach [] X.env := by rfl) (hpl : (backTo pos (starEach [.Name y py] X.env)).any (·.1) = false := by rfl) : DE X w R (.Call (.Name "isinstance" px) [e, .Name y py] [] pos) (eIsE p.1 b fe) :=
  isE_of (cl := .ref (He.ga X.K y)) hp hz C (fun u h => h) kt he hm (pe_glob hgy g (show L2.RelV (.ref _) (.ref _) from rfl) hdb) hg hs hs2 hpl
/-- of a built-in class -/
theorem de_isEB {n : String} (hp : p ∈ X.pn) (hz : ZpC X.K c p) (C : ExcC X.K (He.ga X.K c)) (hmy : X.mg y = none) (hv : bootBuiltins y = some (.type n)) (kt : PySem.W.kitOne X.K (.ref (He.ga X.K c)) (.type n) = some b) (he : DE X w R e fe) (hm : X.mg "isinstance" = none) (hgy : Gl X y := by rfl) (hny : y ≠ "__name__" := by decide) (hdb : (y == ("__debug__" : Str)) = false := by decide) (hg : Gl X "isinstance" := by rfl)
    (hs : starEach [e, .Name y py] X.env = (false, eval e X.env) :: starEach [.Name y py] X.env := by rfl) (hs2 : starEach [.Name y py] X.env = (false, eval (.Name y py) X.env) :: starEach [] X.env := by rfl) (hpl : (backTo pos (starEach [.Name y py] X.env)).any (·.1) = false := by rfl) : DE X w R (.Call (.Name "isinstance" px) [e, .Name y py] [] pos) (eIsE p.1 b fe) :=
  isE_of (cl := .ty n) hp hz C (fun u h => h) kt he hm (pe_bltn hgy hmy hv (v := .ty n) rfl hny hdb) hg hs hs2 hpl
theorem de_callH (C : HCallee X.prog X.w X.K X.mg X.base w.tb x k cs F) (hc : c ∈ cs) (hp : p ∈ X.pn) (hz : ZpC X.K c p) (hr : L2H.RoomH j X.A) (he : DE X w R e fe) (hk : k ≤ j := by decide) (hg : Gl X x := by rfl) (hdb : (x == ("__debug__" : Str)) = false := by decide)
    (hs : starEach [e] X.env = (false, eval e X.env) :: starEach [] X.env := by rfl) (hpl : (backTo pos (starEach [] X.env)).any (·.1) = false := by rfl) : DE X w R (.Call (.Name x q) [e] [] pos) (eCallH p.1 (F c) fe) := by
  obtain ⟨f, fd, ps, G, hm, hkp, hb⟩ := C.ex
  refine PE.weak (pe_callHP (E := fun _ _ _ _ => False) (G c hc) (hr.mono hk) hp hz hg hm hkp hb (fun σ => passAt takes0 σ) (pa_cons he pa_nil hs) hdb hs hpl) fun σ H Q ⟨S, env, sub, ok, po⟩ => ?_
  refine ⟨S, env, sub, ok, Post.bind (Rel2 := Den X.K) po fun d _ v H1 e1 dv po1 => ?_⟩
  cases d <;> first | exact po1.elim | skip
  rename_i u _
  have := raw_den dv
  subst this
  cases v <;> first | exact po1.elim | skip
  dsimp only at po1
  split at po1
  · rename_i ea
    subst ea
    refine ⟨rfl, fun T m => hid_le.tab ((ok.mono (hid_ex e1)).tab T m), ?_⟩
    cases hF : F c with
    | ok d =>
      rw [hF] at po1
      dsimp only at po1
      split at po1
      · exact ⟨by assumption, fun v H2 e2 hd => po1 v H2 e2 (hd _)⟩
      · exact po1.elim
    | err c' => rw [hF] at po1; exact po1.elim
    | stuck => rw [hF] at po1; exact po1.elim
  · exact po1.elim
end
end Dx
set_option Elab.async false
set_option linter.all false
set_option maxRecDepth 100000
set_option maxHeartbeats 4000000
namespace Dx
open PySem PySem.Spec PyProof.Rows L2
open RZ RT
def BodyOkH (P : Program) (w : World) (K : PySem.W.Frag) (mg : Str → Option Value) (base : Heap) (tb : List Addr) (N : List Str) (qual : Str) (sc : Scope) (f : Addr) (fd : FuncData) (k : Nat) (c : Str) (O' : List Nat) (bd : List Stmt) (sf : Addr → Sl → Out) : Prop :=
  ∀ (cdv : Value), fd.code = cdv → ∀ (A : Around) (outer : List Env) (s : Shared) (H : Hp) (E : XK) (p : Addr × Obj), ZpC K c p → L2H.RoomH k (A.deeper (envOfC qual sc s.heap.objs.size f cdv)) → N.Nodup →
    DSs (L2H.cxH (L2.CX P w) P w K mg base N qual sc f cdv A outer s H E p) ⟨fun _ _ _ => False, tb⟩ false [] [] O' bd (sf p.1)
theorem fn_okH {P : Program} {w : World} {K : PySem.W.Frag} {mg : Str → Option Value} {base : Heap} {tb : List Addr} {x qual c : Str} {pm : Arguments} {bd : List Stmt} {sc : Scope} {f : Addr} {fd : FuncData} {N ps : List Str} {k : Nat} {O' : List Nat} {sf : Addr → Sl → Out} {F : Res D} (FD : FunD K x qual pm bd sc [] [] f fd) (Sc : FnScope N ps sc) (hps : ps.length = 1)
    (hF : ∀ a, outRes (sf a (initEnv N.length a [])) = F) (body : BodyOkH P w K mg base tb N qual sc f fd k c O' bd sf) : FnHP P w K mg base (L2.CX P w) (k + 1) f fd ps (ZpC K c) fun p => SpH K tb F p.1 := by
  refine fn_ofHP FD Sc (fun p vs H Q E h => by rw [h.1, hps]; rfl) fun cdv hcd A outer s H vs Q E p hz hr h => ⟨_, body cdv hcd A outer s H E p hz hr Sc.nd, ?_⟩
  obtain ⟨rfl, tabs, po⟩ := h
  have h0 : hid ([] : List Addr) H = H := by funext a; exact hid_no (List.not_mem_nil)
  refine ⟨H, [], H, fun _ => 0, initEnv N.length p.1 [], ⟨?_, Ex.refl _, (fun _ m => nomatch m), ?_, ?_, (fun _ m => nomatch m), (fun _ m => nomatch m), fun i _ d hd => ?_⟩, ?_⟩
  · show _ = (start N [.ref p.1]).length
    unfold L2.start initEnv
    simp
  · show Ex H (hid [] H)
    rw [h0]; exact Ex.refl _
  · show ∀ T ∈ tb, GxR.TabG (hid [] H) T
    rw [h0]; exact tabs
  · exact start_get (vs := [.ref p.1]) (.one (.raw (.ref p.1))) N.length i d hd
  · rw [← hF p.1] at po
    generalize sf p.1 (initEnv N.length p.1 []) = o at po
    cases o with
    | nxt e => exact fun P' σ' H' st => po.2 .non H' st.exf fun _ => .non
    | ret d => exact fun v H1 e1 hv => po.2 v H1 e1 fun H' => flat_any (show Den K (hid [] H1) v d from hv) po.1
    | err c e => exact po.elim
    | brk e => exact po.elim
    | cnt e => exact po.elim
    | stuck => exact po.elim
/-- the wish within the try -/
def wW (mg : Str → Option Value) (W : WX) (tb : List Addr) : Wi := ⟨fun c σ H => ∀ u, mg c = some u → W u none σ H, tb⟩
theorem takesW {X : Cx} {mg : Str → Option Value} {tb : List Addr} {W : WX} (h : Takes X W) : Takes X (wx mg (wW mg W tb)) := h.imp fun c d σ H ⟨n, hn, hd, hw⟩ => by
  subst hd
  exact hw c hn
def sTry (i : Nat) (cs : List Str) (F : Str → Res D) (sb : Sl → Out) : Sl → Out := fun env => match sb env with
  | .err c e => if c ∈ cs ∧ i < e.length then (match F c with | .ok d => if D.flat d = true then .ret d else .stuck | _ => .stuck) else .stuck
  | o => o
section
variable {X : Cx} {w : Wi} {L O O' : List Nat} {T n fw : Str} {i k j : Nat} {cs : List Str} {F : Str → Res D} {body : List Stmt} {sb : Sl → Out} {np q q2 q3 q4 pos pos' : Pos}
/-- the suite: the error is handed to a def, whose answer is handed back -/
theorem suite_ret (C : HCallee X.prog X.w X.K X.mg X.base w.tb fw k cs F) (hr : L2H.RoomH k X.A) (hg : Gl X fw) (hdb : (fw == ("__debug__" : Str)) = false) (hN : X.N[i]? = some n) (hv : Vis X.env.scope n) (hdn : (n == ("__debug__" : Str)) = false) (hcn : (n == ("__classdict__" : Str)) = false)
    (hs : starEach [.Name n q2] X.env = (false, eval (.Name n q2) X.env) :: starEach [] X.env) (hpl : (backTo q3 (starEach [] X.env)).any (·.1) = false)
    (a : Addr) (oe : Obj) (cls : Value) (d : Option Addr) (pn : List (Addr × Obj)) (hz : Zc cls d oe) (hf : ∃ vs, oe.data = .fields vs) :
    PSs (X.suite a ((a, oe) :: pn)) [.Return (some (.Call (.Name fw q) [.Name n q2] [] q3)) q4] (fun Dn σ H => ∃ c, c ∈ cs ∧ cls = .ref (He.ga X.K c) ∧ d = none ∧ tRet (tCallS (SpH X.K w.tb (F c) a) (fun _ _ _ _ => False) (tCons (tVar i) tNil)) Dn σ H) :=
  ⟨fun pins s σ H Dn I ⟨c, hc, ec, ed, h⟩ => by
    subst ec ed
    obtain ⟨f, fd, ps, G, hm, hkp, hb⟩ := C.ex
    have pv : PE (X.suite a ((a, oe) :: pn)) (.Name n q2) (tVar i) := pe_var hN hv hdn hcn
    have pc := pe_callHP (X := X.suite a ((a, oe) :: pn)) (p := (a, oe)) (pos := q3) (q := q) (E := fun _ _ _ _ => False) (G c hc) ⟨hr.dp, hr.un⟩ (List.mem_cons_self) ⟨hz, hf⟩ hg hm hkp hb (fun σ => passAt takes0 σ) (pa_cons pv pa_nil hs) hdb hs hpl
    exact (pss_one (ps_ret pc)).run pins s σ H Dn I h⟩
theorem ds_try (hst : X.stack = X.env :: X.outer) (hfr : X.env.frame = some X.env.locals) (nd : X.N.Nodup) (hN : X.N[i]? = some n) (hkd : X.env.kindOf n = some .local) (hT : X.mg T = some (.ref (He.ga X.K T))) (hcs : ∀ c ∈ cs, X.mg c = some (.ref (He.ga X.K c))) (ex : ∀ c ∈ cs, PySem.W.exmOne X.K (.ref (He.ga X.K c)) (.ref (He.ga X.K T)) = some true)
    (C : HCallee X.prog X.w X.K X.mg X.base w.tb fw k cs F) (hr : L2H.RoomH j X.A)
    (hb : ∀ (W : WX) (pn : List (Addr × Obj)) (xe : Value → Shared → Prop), Takes (X.tr pn xe) (wx X.mg (wW X.mg W w.tb)) → PassesOwn (model X.prog X.w) X.A X.env xe → DSs (X.tr pn xe) (wW X.mg W w.tb) false L O O' body sb)
    (hk : k ≤ j := by decide) (hgT : Gl X T := by rfl) (hdT : (T == ("__debug__" : Str)) = false := by decide) (hg : Gl X fw := by rfl) (hdb : (fw == ("__debug__" : Str)) = false := by decide) (hv : Vis X.env.scope n := by first | exact Or.inl rfl | exact Or.inr (Or.inl rfl) | exact Or.inr (Or.inr rfl)) (hdn : (n == ("__debug__" : Str)) = false := by decide) (hcn : (n == ("__classdict__" : Str)) = false := by decide)
    (hs : starEach [.Name n q2] X.env = (false, eval (.Name n q2) X.env) :: starEach [] X.env := by rfl) (hpl : (backTo q3 (starEach [] X.env)).any (·.1) = false := by rfl) :
    DS X w false L O O' (.Try body [.ExceptHandler (some (.Name T np)) (some n) [.Return (some (.Call (.Name fw q) [.Name n q2] [] q3)) q4] pos'] [] [] pos) (sTry i cs F sb) := by
  refine PS.weak (ps_try_as (i := i) (tb := fun W => sS X.K (wW X.mg W w.tb) false L O O' sb) (Wout := fun _ _ _ _ => False) hst hfr nd hN hkd ⟨hgT, hdT, .inl hT⟩ takes0 (fun W pn xe tk ps => hb W pn xe (takesW tk) ps)
    (fun a oe cls d pn hz hf => suite_ret C (hr.mono hk) hg hdb hN hv hdn hcn hs hpl a oe cls d pn hz hf)) fun Dn σ H ⟨Hf, S, B, P, env, st, po⟩ => ?_
  refine ⟨Hf, S, B, P, env, st, ?_⟩
  unfold sTry at po
  cases q : sb env with
  | nxt e => rw [q] at po; exact po
  | ret d => rw [q] at po; exact po
  | brk e => rw [q] at po; exact po
  | cnt e => rw [q] at po; exact po
  | stuck => rw [q] at po; exact po
  | err c e =>
    rw [q] at po
    dsimp only at po
    split at po
    · rename_i hc0
      obtain ⟨hc, hle⟩ := hc0
      intro P' σ' H' st' u hu
      rw [hcs c hc] at hu
      cases hu
      refine ⟨true, ex c hc, fun _ a ha => ⟨c, hc, rfl, rfl, ?_⟩, fun z => nomatch z⟩
      have hl : i < σ'.length := by rw [← st'.len]; exact hle
      refine ⟨.ref a, List.getElem?_set_self hl, rfl, fun T m => hid_le.tab (st'.tab T m), ?_⟩
      cases hF : F c with
      | ok d =>
        rw [hF] at po
        dsimp only at po
        split at po
        · exact ⟨by assumption, fun v H1 e1 hd => po v H1 (st'.exf.trans e1) (hd _)⟩
        · exact po.elim
      | err c' => rw [hF] at po; exact po.elim
      | stuck => rw [hF] at po; exact po.elim
    · exact po.elim
end
end Dx
set_option Elab.async false
set_option linter.all false
set_option maxRecDepth 100000
set_option maxHeartbeats 4000000
namespace Dx
open PySem PySem.Spec PyProof.Rows L2
open RZ RT
open D (okd okdA py pyA)
namespace D
def pow : D → D → Res D
  | .int i, .int j => if (0 ≤ j ∧ j ≤ 1000000) ∧ fits i = true then .ok (.int (i ^ j.toNat)) else .stuck
  | _, _ => .stuck
/-- a list so often -/
def rep : D → D → Res D
  | .lst xs, .int k => if (-100000 ≤ k ∧ k ≤ 100000) ∧ xs.length * k.toNat ≤ 100000 then .ok (.lst (List.replicate k.toNat xs).flatten) else .stuck
  | _, _ => .stuck
def upper : D → Res D
  | .str z => lim z.length (.ok (.str (Txt.upper z)))
  | _ => .stuck
def index : D → D → Res D
  | .lst ys, x => if flat x = true ∧ ys.all flat = true then (match ys.findIdx? (fun y => eqF y x) with | some j => .ok (.int j) | none => .stuck) else .stuck
  | _, _ => .stuck
def bools : List D → Option (List Bool)
  | [] => some []
  | .bl b :: ds => (bools ds).map (b :: ·)
  | _ => none
def countB : D → D → Res D
  | .lst ys, .bl k => match bools ys with | some bs => .ok (.int (bs.count k)) | none => .stuck
  | _, _ => .stuck
/-- x in a list, by == of data of any form -/
def inD (x y : D) : Res Bool := match y with
  | .lst ds => if okd 8 x = true ∧ okd 8 (.lst ds) = true then .ok (ds.any fun z => eqv z x) else .stuck
  | .fz ds => if okd 8 x = true ∧ okd 8 (.fz ds) = true then .ok (ds.any fun z => eqv z x) else .stuck
  | _ => .stuck
def ninD (a b : D) : Res D := (inD a b).map fun k => .bl (!k)
end D
section
variable {X : Cx} {w : Wi} {K : PySem.W.Frag}
theorem op2_pow : Op2 K w (rI CPow fun i j => .int (i ^ j.toNat)) D.pow := fun S σ H x y a b Q sub da db po => by
  cases a <;> cases b <;> first | exact po.elim | skip
  unfold D.pow at po
  dsimp only at po
  split at po
  · rename_i c
    have f := fits_ok c.2
    exact ⟨_, _, den_int da, den_int db, ⟨c.1.1, c.1.2, by omega⟩, Post.okay (Rel := Den K) po (.int _)⟩
  · exact po.elim
theorem flatten_rep : ∀ {H : Hp} {xs : List V} {ds : List D} (n : Nat), DenL K H xs ds → DenL K H (List.replicate n xs).flatten (List.replicate n ds).flatten
  | _, _, _, 0, _ => .nil
  | _, _, _, n + 1, r => by
    rw [List.replicate_succ, List.replicate_succ, List.flatten_cons, List.flatten_cons]
    exact r.append (flatten_rep n r)
theorem op2_rep : Op2 K w rRep D.rep := fun S σ H x y a b Q sub da db po => by
  cases a <;> cases b <;> first | exact po.elim | skip
  unfold D.rep at po
  dsimp only at po
  split at po
  · rename_i c
    obtain ⟨l, xs, rfl, hl, r⟩ := den_lst da
    refine ⟨l, _, xs, rfl, den_int db, (hid_out hl).2, by omega, by omega, by rw [r.len]; exact Evl.sz_of c.2, fun p hp => ?_⟩
    exact po _ _ (Ex.new hp) (.lst (hid_at (sub.new hp) upd_same) ((flatten_rep _ r).mono (hid_ex (Ex.new hp))))
  · exact po.elim
theorem op2_ninD : Op2 K w (rNotInD K) D.ninD := fun S σ H x y a b Q sub da db po => by
  have seq : ∀ (ds : List D) (bb : D), (bb = .lst ds ∨ bb = .fz ds) → Den K (hid S H) y bb → (okd 8 a = true ∧ okd 8 bb = true) → PostV K w S σ H Q (.ok (.bl (!ds.any fun z => D.eqv z a))) → rNotInD K x y H Q := fun ds bb hb db h po => by
    have d1 := Den.dp (da.mono hid_le) h.1
    have d2 := Den.dp (db.mono hid_le) h.2
    have e : D.py bb = .list (pyA ds) := by rcases hb with rfl | rfl <;> rfl
    have s2 := okd_shaped h.2
    rw [e] at d2 s2
    refine ⟨py a, pyA ds, d1, d2, okd_shaped h.1, s2, ?_⟩
    have q := Post.okay (Rel := Den K) po (.bl _)
    have ee : (ds.any fun z => D.eqv z a) = (pyA ds).any fun z => PyData.eqv z (py a) := by
      clear q po s2 e d2 h hb
      induction ds with
      | nil => rfl
      | cons d ds ih => rw [List.any_cons, pyA, List.any_cons, ih]; rfl
    rw [ee] at q
    exact q
  unfold D.ninD D.inD at po
  cases b <;> first | exact po.elim | skip
  all_goals
    dsimp only at po
    split at po
    · rename_i h
      exact seq _ _ (by first | exact .inl rfl | exact .inr rfl) db h po
    · exact po.elim
theorem bools_den {H : Hp} : ∀ {vs : List V} {ds : List D} {bs : List Bool}, DenL K H vs ds → D.bools ds = some bs → vs = bs.map .bl
  | _, _, _, .nil, e => by cases e; rfl
  | _, _, _, .cons (d := d) h r, e => by
    cases d <;> first | (cases e; done) | skip
    rename_i b
    unfold D.bools at e
    cases q : D.bools _ with
    | none => rw [q] at e; cases e
    | some cs =>
      rw [q] at e
      cases e
      rw [den_bl h, bools_den r q]
      rfl
def rCntB (K : PySem.W.Frag) : V → List V → Hp → VK → Prop := fun x xs H Q => ∃ (p : Addr) (bs : List Bool) (k : Bool), x = .ref p ∧ xs = [.bl k] ∧ SqL K H p (bs.map .bl) ∧ Q (.int (bs.count k : Nat)) H
theorem countIn_bl (k : Bool) : ∀ bs : List Bool, countIn (.bool k) (bs.map .bool) = (bs.count k : Nat)
  | [] => rfl
  | b :: bs => by
    have ih := countIn_bl k bs
    rw [List.map_cons, List.count_cons]
    simp only [countIn, ih]
    cases k <;> cases b <;> simp [same] <;> omega
theorem reads_bl {h : Heap} : ∀ {bs : List Bool} {us : List Value}, Vals (bs.map V.bl) us → ReadsAll h us (bs.map .bool) []
  | [], _, .nil => .nil
  | b :: bs, _, .cons e r => by
    cases e
    exact .cons (as := []) (.bool b) (reads_bl r)
theorem mt_countB : MtR X "list.count" (rCntB X.K) := fun pins s σ H x xs v us Q I rx rxs h => by
  obtain ⟨p, bs, k, rfl, rfl, hs, q⟩ := h
  cases rx
  cases rxs with
  | cons ru rn =>
    cases rn
    cases ru
    obtain ⟨its, rv, pl, hz⟩ := I.list hs
    refine count_list_bools (hp := s.heap) (xs := bs.map .bool) pl.isList (reads_bl rv) ?_ ?_
    · rw [List.all_map]
      exact List.all_eq_true.mpr fun b _ => rfl
    · rw [countIn_bl]
      exact ⟨.int _, H, I.tok _, ⟨_, rfl⟩, q⟩
end
end Dx
set_option Elab.async false
set_option linter.all false
set_option maxRecDepth 100000
set_option maxHeartbeats 4000000
namespace Dx
open PySem PySem.Spec PyProof.Rows L2
open RZ RT
open D (okd okdA py pyA)
section
variable {X : Cx} {w : Wi} {R Ra Rb : List Nat} {o e : Expr} {fo fe : EE} {p pos apos : Pos}
theorem de_upper (ho : DE X w R o fo) (hb : attributeBase o "upper" X.env (eval o X.env) = eval o X.env := by rfl) (hl : (apos.endLine == pos.line) = true := by rfl) : DE X w R (.Call (.Attribute o "upper" apos) [] [] pos) (eUn D.upper fo) :=
  PE.weak (pe_upper ho hb hl) fun σ H Q ⟨S, env, sub, ok, po⟩ => ⟨S, env, sub, ok, Post.bind (Rel2 := Den X.K) po fun d _ v H1 e1 dv po1 => by
    cases d <;> first | exact po1.elim | skip
    unfold D.upper at po1
    dsimp only at po1
    unfold lim at po1
    split at po1
    · rename_i h
      rw [den_str dv]
      exact ⟨⟨_, rfl⟩, _, rfl, rfl, by omega, Post.okay (Rel := Den X.K) po1 (.str _)⟩
    · exact po1.elim⟩
theorem findIdx_den {K : PySem.W.Frag} {H : Hp} {y : V} {x : D} (hy : Den K H y x) (fx : D.flat x = true) : ∀ {vs : List V} {ds : List D} {j : Nat}, DenL K H vs ds → ds.all D.flat = true → ds.findIdx? (fun d => D.eqF d x) = some j → ∃ z, vs[j]? = some z ∧ eqV z y = true ∧ ∀ (m : Nat) (z' : V), m < j → vs[m]? = some z' → eqV z' y = false
  | _, _, _, .nil, _, e => by simp at e
  | _, _, j, .cons (v := v) (d := d) h r, f, e => by
    rw [List.all_cons, Bool.and_eq_true] at f
    rw [List.findIdx?_cons] at e
    cases q : D.eqF d x with
    | true =>
      rw [q] at e
      cases e
      refine ⟨v, rfl, by rw [eqF_den h f.1 hy fx]; exact q, fun m z' hm => by omega⟩
    | false =>
      rw [q] at e
      cases q2 : (List.findIdx? (fun d => D.eqF d x) _) with
      | none => rw [q2] at e; cases e
      | some i =>
        rw [q2] at e
        cases e
        obtain ⟨z, h1, h2, h3⟩ := findIdx_den hy fx r f.2 q2
        refine ⟨z, h1, h2, fun m z' hm hz => ?_⟩
        cases m with
        | zero => cases hz; rw [eqF_den h f.1 hy fx]; exact q
        | succ m => exact h3 m z' (by have : m + 1 < i + 1 := hm; omega) hz
/-- a list's method with one argument -/
def eMethL (g : D → D → Res D) (f h : EE) : EE := fun env => (f env).bind fun d => match d with
  | .lst ds => (h env).bind fun x => g (.lst ds) x
  | _ => .stuck
theorem methL_of {r : V → List V → Hp → VK → Prop} {g : D → D → Res D} (hr : ∀ (S : List Addr) (σ : L2.St) (H : Hp) (v y : V) (ds : List D) (x : D) (Q : VK), Sub S H → Den X.K (hid S H) v (.lst ds) → Den X.K (hid S H) y x → PostV X.K w S σ H Q (g (.lst ds) x) → r v [y] H Q) {σ : L2.St} {H : Hp} {Q : VK} (h : tS (Den X.K) X.K w (Ra ++ Rb) (eMethL g fo fe) σ H Q) :
    tBM X.K "list" r (tS (Den X.K) X.K w Ra fo) (tCons (tS (Den X.K) X.K w Rb fe) tNil) σ H Q := by
  obtain ⟨S, env, sub, ok, po⟩ := h
  refine ⟨S, env, sub, ok.left, Post.bind (Rel2 := Den X.K) po fun d hd v H1 e1 dv po1 => ?_⟩
  cases d <;> first | exact po1.elim | skip
  have dv0 := dv
  obtain ⟨a, xs, rfl, ha, ra⟩ := den_lst dv
  refine ⟨.inl ⟨rfl, xs, .of (hid_out ha).2⟩, S, env, sub.mono e1, ok.right.mono (hid_ex e1), Post.bind (Rel2 := Den X.K) po1 fun x _ y H2 e2 dy po2 => ?_⟩
  exact hr S σ H2 _ y _ x Q ((sub.mono e1).mono e2) (dv0.mono (hid_ex e2)) dy po2
theorem de_index (ho : DE X w Ra o fo) (he : DE X w Rb e fe) (hst : starEach [e] X.env = (false, eval e X.env) :: starEach [] X.env := by rfl)
    (hfew : ((backTo pos (starEach [e] X.env)).all (fun x => !x.1) && (backToKw pos (keywordEach [] X.env)).all (fun x => x.1.isSome) && decide ([e].length + ([] : List Keyword).length + (if ([] : List Keyword).isEmpty then 0 else 1) < 30)) = true := by rfl) (hline : (apos.endLine == pos.line) = true := by rfl)
    (hbase : attributeBase o "index" X.env (eval o X.env) = eval o X.env := by rfl) : DE X w (Ra ++ Rb) (.Call (.Attribute o "index" apos) [e] [] pos) (eMethL D.index fo fe) :=
  PE.weak (pe_bm PySem.F.plainAttrs_list PySem.F.slot_list_index PySem.F.type_list_index mt_index ho (pa_cons he pa_nil hst) hbase hfew hline hst) fun σ H Q h => methL_of (fun S σ H v y ds x Q sub dv dy po => by
    obtain ⟨a, xs, rfl, ha, ra⟩ := den_lst dv
    unfold D.index at po
    dsimp only at po
    split at po
    · rename_i hf
      split at po
      · rename_i j hj
        obtain ⟨z, h1, h2, h3⟩ := findIdx_den dy hf.1 ra hf.2 hj
        exact ⟨a, xs, y, j, z, rfl, rfl, .of (hid_out ha).2, flat_den dy hf.1, flats_den ra hf.2, h1, h2, h3, Post.okay (Rel := Den X.K) po (.int _)⟩
      · exact po.elim
    · exact po.elim) h
theorem de_countB (ho : DE X w Ra o fo) (he : DE X w Rb e fe) (hst : starEach [e] X.env = (false, eval e X.env) :: starEach [] X.env := by rfl)
    (hfew : ((backTo pos (starEach [e] X.env)).all (fun x => !x.1) && (backToKw pos (keywordEach [] X.env)).all (fun x => x.1.isSome) && decide ([e].length + ([] : List Keyword).length + (if ([] : List Keyword).isEmpty then 0 else 1) < 30)) = true := by rfl) (hline : (apos.endLine == pos.line) = true := by rfl)
    (hbase : attributeBase o "count" X.env (eval o X.env) = eval o X.env := by rfl) : DE X w (Ra ++ Rb) (.Call (.Attribute o "count" apos) [e] [] pos) (eMethL D.countB fo fe) :=
  PE.weak (pe_bm PySem.F.plainAttrs_list PySem.F.slot_list_count PySem.F.type_list_count mt_countB ho (pa_cons he pa_nil hst) hbase hfew hline hst) fun σ H Q h => methL_of (fun S σ H v y ds x Q sub dv dy po => by
    obtain ⟨a, xs, rfl, ha, ra⟩ := den_lst dv
    cases x <;> first | exact po.elim | skip
    unfold D.countB at po
    dsimp only at po
    split at po
    · rename_i bs hb
      rw [den_bl dy]
      refine ⟨a, bs, _, rfl, rfl, ?_, Post.okay (Rel := Den X.K) po (.int _)⟩
      rw [← bools_den ra hb]
      exact .of (hid_out ha).2
    · exact po.elim) h
namespace D
def rngL : D → Res (List D)
  | .int n => if -100000 ≤ n ∧ n ≤ 100000 then .ok ((List.range n.toNat).map fun (k : Nat) => .int (0 + k)) else .stuck
  | _ => .stuck
end D
theorem denRg {K : PySem.W.Frag} {H : Hp} : ∀ l : List Nat, DenL K H (l.map fun (i : Nat) => V.int (0 + i)) (l.map fun (k : Nat) => D.int (0 + k))
  | [] => .nil
  | a :: l => .cons (.int _) (denRg l)
/-- list(range(n)) -/
theorem dl_listRg {p2 pos2 : Pos} (hc : X.calm = true) (hml : X.mg "list" = none) (hmr : X.mg "range" = none) (he : DE X w R e fe) (hgl : Gl X "list" := by rfl) (hgr : Gl X "range" := by rfl) (hs : starEach [e] X.env = (false, eval e X.env) :: starEach [] X.env := by rfl)
    (hs2 : starEach [.Call (.Name "range" p2) [e] [] pos2] X.env = (false, eval (.Call (.Name "range" p2) [e] [] pos2) X.env) :: starEach [] X.env := by rfl) : DL X w R (.Call (.Name "list" p) [.Call (.Name "range" p2) [e] [] pos2] [] pos) (fun env => (fe env).bind D.rngL) :=
  PE.weak (pe_listRg hc hgl hml (prg_1 hgr hmr he hs) hs2) fun σ H Q ⟨S, env, sub, ok, po⟩ => by
    refine ⟨S, env, sub, ok, PostF.bind po fun d _ v H1 e1 dv po1 => ?_⟩
    cases d <;> first | exact po1.elim | skip
    rename_i i _
    unfold D.rngL at po1
    dsimp only at po1
    split at po1
    · rename_i hn
      refine ⟨_, den_int dv, ⟨by omega, by omega, by omega, by omega, by omega⟩, fun q hq => ?_⟩
      have r : DenL X.K (hid S H1) (rgV 0 i) ((List.range i.toNat).map fun (k : Nat) => D.int (0 + k)) := by
        unfold rgV
        rw [Int.sub_zero]
        exact denRg _
      exact PostF.new po1 (sub.mono e1) hq r
    · exact po1.elim
end
end Dx
set_option Elab.async false
set_option linter.all false
set_option maxRecDepth 100000
set_option maxHeartbeats 4000000
namespace Dx
open PySem PySem.Spec PyProof.Rows L2
open RZ RT
open D (okd okdA py pyA)
structure ClsIs (K : PySem.W.Frag) (C : Str) : Prop where
  cl : Cls K (He.ga K C)
  f1 : PySem.W.findIn K (.ref (He.ga K C)) "__class__" = some (some (.builtin "object.__class__"))
  f2 : PySem.W.specialIn K (.builtin "object.__class__") "__get__" = some (some (.builtin "getset_descriptor.__get__"))
  f3 : PySem.W.takesIn K (.builtin "object.__class__") = some true
  f4 : PySem.W.mroIn K (He.ga K C) (.type "object") = some true
  self : PySem.W.kitOne K (.ref (He.ga K C)) (.ref (He.ga K C)) = some true
  no : ∀ t ∈ ["NoneType", "bool", "int", "str", "list", "tuple"], PySem.W.kitOne K (.type t) (.ref (He.ga K C)) = some false
def eIsC (C : Str) (f : EE) : EE := fun env => (f env).bind fun d => match d with
  | .obj c _ => if c = C then .ok (.bl true) else .stuck
  | d => match D.ty d with | some _ => .ok (.bl false) | none => .stuck
section
variable {X : Cx} {w : Wi} {R : List Nat} {e : Expr} {fe : EE} {px py pos : Pos} {y : Str}
theorem de_isC (C : ClsIs X.K y) (g : X.mg y = some (.ref (He.ga X.K y))) (hm : X.mg "isinstance" = none) (he : DE X w R e fe) (hgy : Gl X y := by rfl) (hdb : (y == ("__debug__" : Str)) = false := by decide) (hg : Gl X "isinstance" := by rfl)
    (hs : starEach [e, .Name y py] X.env = (false, eval e X.env) :: starEach [.Name y py] X.env := by rfl) (hs2 : starEach [.Name y py] X.env = (false, eval (.Name y py) X.env) :: starEach [] X.env := by rfl) (hpl : (backTo pos (starEach [.Name y py] X.env)).any (·.1) = false := by rfl) : DE X w R (.Call (.Name "isinstance" px) [e, .Name y py] [] pos) (eIsC y fe) := by
  refine PE.weak (pe_callB call_isi hg hm (by decide +kernel) (pa_cons he (pa_cons (pe_glob (v := .ref (He.ga X.K y)) hgy g (show L2.RelV (.ref _) (.ref _) from rfl) hdb) pa_nil hs2) hs) (by decide) (by decide) hs hpl) fun σ H Q ⟨S, env, sub, ok, po⟩ => ?_
  refine ⟨S, env, sub, ok, Post.bind (Rel2 := Den X.K) po fun d _ v H1 e1 dv po1 => ?_⟩
  have other : ∀ t, D.ty d = some t → PostV X.K w S σ H1 Q (.ok (.bl false)) → rIsi X.K [v, .ref (He.ga X.K y)] H1 Q := fun t ht po => by
    refine ⟨v, _, .type t, .ref (He.ga X.K y), false, rfl, .own _, ty_den dv ht, C.no t ?_, Post.okay (Rel := Den X.K) po (.bl _)⟩
    cases d <;> cases ht <;> simp
  cases d with
  | obj c gs =>
    dsimp only at po1
    split at po1
    · rename_i ec
      subst ec
      obtain ⟨a, dx, fs, rfl, h1, r1⟩ := den_obj dv
      exact ⟨_, _, .ref (He.ga X.K c), .ref (He.ga X.K c), true, rfl, .own _, .base (.ins (hid_out h1).2 C.cl C.f1 C.f2 C.f3 C.f4), C.self, Post.okay (Rel := Den X.K) po1 (.bl _)⟩
    · exact po1.elim
  | raw u => exact po1.elim
  | non => exact other _ rfl po1
  | bl b => exact other _ rfl po1
  | int i => exact other _ rfl po1
  | str z => exact other _ rfl po1
  | lst l => exact other _ rfl po1
  | tup l => exact other _ rfl po1
  | fz l => exact other _ rfl po1
end
def sNo : Sl → Out := fun _ => .stuck
section
variable {X : Cx} {w : Wi} {fr : Bool} {L O O' : List Nat}
theorem ds_no (st : Stmt) : DS X w fr L O O' st sNo := ⟨fun pins s σ H D I ⟨Hf, S, B, P, env, st, po⟩ => po.elim⟩
end
def SpD (K : PySem.W.Frag) (mg : Str → Option Value) (tb : List Addr) (n : Nat) (F : List D → Res D) : Sp := fun vs H Q E => vs.length = n ∧ ∃ (S : List Addr) (ds : List D), Sub S H ∧ (∀ P ∈ tb, GxR.TabG (hid S H) P) ∧ DenL K (hid S H) vs ds ∧
  match F ds with
  | .ok d => ∀ v H1, Ex H H1 → Den K (nw H H1) v d → Q v H1
  | .err c => ∀ H1 u, Ex H H1 → mg c = some u → E u none H1
  | .stuck => False
structure CalleeD (P : Program) (w : World) (K : PySem.W.Frag) (mg : Str → Option Value) (base : Heap) (tb : List Addr) (x : Str) (k n : Nat) (F : List D → Res D) : Prop where
  ex : ∃ (f : Addr) (fd : FuncData) (ps : List Str), FnOk P w K mg base (L2.CX P w) k f fd ps (SpD K mg tb n F) ∧ mg x = some (.ref f) ∧ PySem.W.keepIn K (.ref f) = true ∧ Binds K fd ps []
section
variable {X : Cx} {w : Wi} {R : List Nat} {e : Expr} {es : List Expr} {g : EL} {F : List D → Res D} {x : Str} {p pos : Pos} {k j n : Nat}
theorem dn_call (C : CalleeD X.prog X.w X.K X.mg X.base w.tb x k n F) (hr : Room j X.A) (tk : Takes X (wx X.mg w)) (ha : DA X w R (e :: es) g) (hk : k ≤ j := by decide) (hg : Gl X x := by rfl) (hdb : (x == ("__debug__" : Str)) = false := by decide)
    (he : starEach (e :: es) X.env = (false, eval e X.env) :: starEach es X.env := by rfl) (hpl : (backTo pos (starEach es X.env)).any (·.1) = false := by rfl) (hn : (e :: es).length = n := by rfl) : DN X w R (.Call (.Name x p) (e :: es) [] pos) (eCall g F) := by
  obtain ⟨f, fd, ps, G, hm, hkp, hb⟩ := C.ex
  refine PE.weak (pe_callS G (hr.mono hk) hg hm hkp hb (fun σ => passAt tk σ) ha.pa hdb he hpl) fun σ H Q ⟨S, env, sub, ok, po⟩ => ?_
  refine ⟨S, env, sub, ok, PostN.bind po fun ds hd vs H1 e1 dv po1 => ⟨by rw [dv.len]; rw [ha.len env ds hd]; exact hn, S, ds, sub.mono e1, (ok.mono (hid_ex e1)).tab, dv, ?_⟩⟩
  cases q : F ds with
  | ok d => rw [q] at po1; exact fun v H2 e2 r => po1 v H2 e2 r
  | err c => rw [q] at po1; exact fun H2 u e2 hu => ⟨c, hu, rfl, po1 H2 e2⟩
  | stuck => rw [q] at po1; exact po1
/-- its answer is given to a name, whatever the arguments lean on -/
theorem ds_setN {fr : Bool} {L O : List Nat} {i : Nat} {f : EE} {pos' : Pos} (hi : i ∉ O) (hN : X.N.Nodup) (he : DN X w R e f) (hx : X.N[i]? = some x := by rfl) (hl : Loc X.env.scope x := by first | exact .inl rfl | exact .inr rfl) (hs : swapsWith e (some (.Name x pos')) pos.line X.env = pure false := by rfl) (hf : X.fn x = true ∨ X.env.scope.names.lookup x = some .local := by first | exact .inl rfl | exact .inr rfl) :
    DS X w fr L O O (.Assign [.Name x pos'] e pos) (sSet i f) := PS.weak (ps_set hN hx hl he hs hf) fun Dn σ H ⟨Hf, S, B, P, env, st, po⟩ => by
  unfold sSet at po
  refine ⟨S, env, st.subS, st.all, ?_⟩
  cases q : f env with
  | ok d =>
    rw [q] at po
    intro v H1 e1 dv
    exact po P _ _ ((st.grow e1).set hi (dv.mono (nw_hid st.subT)))
  | err c => rw [q] at po; exact fun H1 e1 => po P σ H1 (st.grow e1).bare
  | stuck => rw [q] at po; exact po
end
section
variable {X : Cx} {w : Wi} {fr : Bool} {L O O' Ra Rb Rc : List Nat} {a b c : Expr} {rest : List Stmt} {fl : EL} {f : EE} {t : EB} {s1 s2 : Sl → Out} {i : Nat} {x : Str} {p1 pos pos' : Pos}
theorem dss_ifOwn (hRa : ∀ j ∈ Ra, j ∉ O) (hRb : ∀ j ∈ Rb, j ∉ O) (hRc : ∀ j ∈ Rc, j ∉ O) (hi : i ∉ O) (hN : X.N.Nodup) (hc : DT X w Rc c t) (ha : DL X w Ra a fl) (hb : DE X w Rb b f) (h1 : DSs X w fr L (i :: O) O' rest s1) (h2 : DSs X w fr L O O' rest s2)
    (hx : X.N[i]? = some x := by rfl) (hl : Loc X.env.scope x := by first | exact .inl rfl | exact .inr rfl) (hs : swapsWith (.IfExp c a b p1) (some (.Name x pos')) pos.line X.env = pure false := by rfl) (hf : X.fn x = true ∨ X.env.scope.names.lookup x = some .local := by first | exact .inl rfl | exact .inr rfl) :
    DSs X w fr L O O' (.Assign [.Name x pos'] (.IfExp c a b p1) pos :: rest) (fun env => (t env).branch env (sSeq (sOwn i fl) s1) (sSeq (sSet i f) s2)) := by
  have hrest : PSs X rest (fun Dn σ H => sS X.K w fr L (i :: O) O' s1 Dn σ H ∨ sS X.K w fr L O O' s2 Dn σ H) := ⟨fun pins s σ H D I h => h.elim (fun h => h1.run pins s σ H D I h) (fun h => h2.run pins s σ H D I h)⟩
  refine PSs.weak (pss_cons (ps_set hN hx hl (pe_ifExp hc ha hb) hs hf) hrest) fun Dn σ H ⟨Hf, S, B, P, env, st, po⟩ => ?_
  refine ⟨S ++ O.map P, env, st.subT, st.rd hRc, ?_⟩
  replace po : PostS X.K w Hf S B fr L O' Dn ((t env).branch env (sSeq (sOwn i fl) s1) (sSeq (sSet i f) s2)) := po
  unfold Res.branch at po
  cases q : t env with
  | stuck => rw [q] at po; exact po
  | err c' => rw [q] at po; exact fun H1 e1 => po P σ H1 (st.grow e1).bare
  | ok k =>
    rw [q] at po
    intro k' H1 e1 hk
    cases (show k' = k from hk)
    have st1 := st.grow e1
    cases k with
    | true =>
      dsimp only at po
      rw [if_pos rfl] at po
      show tF X.K w Ra fl σ H1 _
      unfold sSeq sOwn at po
      refine ⟨S ++ O.map P, env, st1.subT, st1.rd hRa, ?_⟩
      cases q2 : fl env with
      | stuck => rw [q2] at po; exact po
      | err c' => rw [q2] at po; exact fun H2 e2 => po P σ H2 (st1.grow e2).bare
      | ok ds =>
        rw [q2, bind_ok] at po
        intro p vs H2 hp e2 h2' r
        by_cases hlen : i < env.length
        · rw [if_pos hlen] at po
          exact .inl ⟨Hf, S, B, _, _, st1.new hi hlen e2 hp h2' r, po⟩
        · rw [if_neg hlen] at po
          exact po.elim
    | false =>
      dsimp only at po
      rw [if_neg Bool.false_ne_true] at po
      show tS (Den X.K) X.K w Rb f σ H1 _
      unfold sSeq sSet at po
      refine ⟨S ++ O.map P, env, st1.subT, st1.rd hRb, ?_⟩
      cases q2 : f env with
      | stuck => rw [q2] at po; exact po
      | err c' => rw [q2] at po; exact fun H2 e2 => po P σ H2 (st1.grow e2).bare
      | ok d =>
        rw [q2, map_ok] at po
        intro v H2 e2 dv
        exact .inr ⟨Hf, S, B, P, _, (st1.grow e2).set hi dv, po⟩
end
end Dx
set_option Elab.async false
set_option linter.all false
set_option maxRecDepth 100000
set_option maxHeartbeats 4000000
namespace Dx
open PySem PySem.Spec PyProof.Rows L2
open RZ RT
def startE (n : Nat) (ds : List D) : Sl := ds.map some ++ List.replicate (n - ds.length) none
def toldSem (n : Nat) (cs : List Str) (F : Str → Res D) (fm : EE) : List D → Res D := fun ds => match fm (startE n ds) with
  | .ok d => .ok d
  | .err c => if c ∈ cs then (match F c with | .ok d => if D.flat d = true then .ok d else .stuck | _ => .stuck) else .stuck
  | .stuck => .stuck
section
variable {P : Program} {w : World} {K : PySem.W.Frag} {mg : Str → Option Value} {base : Heap} {tb : List Addr}
theorem told_ok {x qual sh T n fw : Str} {pm : Arguments} {bd : List Stmt} {sc : Scope} {f : Addr} {fd : FuncData} {N ps : List Str} {k j i1 i : Nat} {cs : List Str} {F : Str → Res D} {ce : Expr} {fm : EE} {R : List Nat} {p1 np q q2 q3 q4 pos' pos p5 p6 r1 : Pos}
    (FD : FunD K x qual pm bd sc [] [] f fd) (hbd : bd = [.Try [.Assign [.Name sh p1] ce r1] [.ExceptHandler (some (.Name T np)) (some n) [.Return (some (.Call (.Name fw q) [.Name n q2] [] q3)) q4] pos'] [] [] pos, .Return (some (.Name sh p5)) p6])
    (Sc : FnScope N ps sc) (hsh : N[i1]? = some sh) (hn : N[i]? = some n) (hlsh : sc.names.lookup sh = some .local) (hln : sc.names.lookup n = some .local) (hT : mg T = some (.ref (He.ga K T))) (hgT : sc.names.lookup T = some .globalImplicit) (hgf : sc.names.lookup fw = some .globalImplicit)
    (hcs : ∀ c ∈ cs, mg c = some (.ref (He.ga K c))) (ex : ∀ c ∈ cs, PySem.W.exmOne K (.ref (He.ga K c)) (.ref (He.ga K T)) = some true) (C : HCallee P w K mg base tb fw j cs F) (hj : j ≤ k)
    (hd : (sh == ("__debug__" : Str)) = false) (hcd : (sh == ("__classdict__" : Str)) = false) (hdn : (n == ("__debug__" : Str)) = false) (hcn : (n == ("__classdict__" : Str)) = false) (hdT : (T == ("__debug__" : Str)) = false) (hdf : (fw == ("__debug__" : Str)) = false)
    (hb : ∀ (cdv : Value), fd.code = cdv → ∀ (A : Around) (outer : List Env) (s : Shared) (H : Hp) (E : XK), Room k (A.deeper (envOfC qual sc s.heap.objs.size f cdv)) → ∀ (W : WX) (pn : List (Addr × Obj)) (xe : Value → Shared → Prop), Takes ((cxOf (L2.CX P w) P w K mg base N qual sc f cdv A outer s H E).tr pn xe) (wx mg (wW mg W tb)) →
      DN ((cxOf (L2.CX P w) P w K mg base N qual sc f cdv A outer s H E).tr pn xe) (wW mg W tb) R ce fm ∧ swapsWith ce (some (.Name sh p1)) r1.line ((cxOf (L2.CX P w) P w K mg base N qual sc f cdv A outer s H E).tr pn xe).env = pure false) :
    FnOk P w K mg base (L2.CX P w) (k + 1) f fd ps (SpD K mg tb ps.length (toldSem N.length cs F fm)) := by
  subst hbd
  refine okX FD Sc (fun vs H Q E h => h.1) fun cdv hcode A outer s H vs Q E hr h => ?_
  have hX := (rfl : (cxOf (L2.CX P w) P w K mg base N qual sc f cdv A outer s H E).env = envOfC qual sc s.heap.objs.size f cdv)
  have vSh : Vis (cxOf (L2.CX P w) P w K mg base N qual sc f cdv A outer s H E).env.scope sh := .inl hlsh
  have vN : Vis (cxOf (L2.CX P w) P w K mg base N qual sc f cdv A outer s H E).env.scope n := .inl hln
  have tr := ps_try_as (X := cxOf (L2.CX P w) P w K mg base N qual sc f cdv A outer s H E) (x := T) (n := n) (c := .ref (He.ga K T)) (i := i) (np := np) (pos := pos) (pos' := pos') (tb := fun W => tAsg (tN K (wW mg W tb) R fm) (gName i1)) (Wout := fun _ _ _ _ => False) rfl rfl Sc.nd hn hln ⟨hgT, hdT, .inl hT⟩ takes0
    (fun W pn xe tk ps => pss_one (ps_set (i := i1) Sc.nd hsh (.inl hlsh) (hb cdv hcode A outer s H E hr W pn xe (takesW tk)).1 (hb cdv hcode A outer s H E hr W pn xe (takesW tk)).2 (.inr hlsh)))
    (fun a oe cls d pn hz hf => suite_ret (X := cxOf (L2.CX P w) P w K mg base N qual sc f cdv A outer s H E) (w := ⟨fun _ _ _ => False, tb⟩) (q := q) (q2 := q2) (q3 := q3) (q4 := q4) C (L2H.roomH_of (hr.mono hj)) hgf hdf hn vN hdn hcn rfl rfl a oe cls d pn hz hf)
  refine ⟨_, pss_cons tr (pss_one (ps_ret (pe_var (i := i1) hsh vSh hd hcd))), ?_⟩
  obtain ⟨hl, S, ds, sub, tabs, dv, po⟩ := h
  have hlen : (start N vs).length = N.length := by
    have h1 := FD
    unfold L2.start
    have : vs.length ≤ N.length := by
      have e := congrArg List.length Sc.pre
      rw [List.length_take] at e
      omega
    simp
    omega
  have li1 : i1 < (start N vs).length := by rw [hlen]; exact (List.getElem?_eq_some_iff.mp hsh).1
  have li : i < (start N vs).length := by rw [hlen]; exact (List.getElem?_eq_some_iff.mp hn).1
  refine ⟨S, startE N.length ds, sub, ⟨?_, tabs, fun j _ d hd => start_get dv N.length j d hd⟩, ?_⟩
  · show _ = (start N vs).length
    unfold L2.start startE
    simp [dv.len]
  · unfold toldSem at po
    cases q : fm (startE N.length ds) with
    | stuck => rw [q] at po; exact po
    | ok d =>
      rw [q] at po
      exact fun v H1 e1 hv => ⟨v, List.getElem?_set_self li1, po v H1 e1 hv⟩
    | err c =>
      rw [q] at po
      dsimp only at po
      by_cases hc : c ∈ cs
      · rw [if_pos hc] at po
        have fin : ∃ d, F c = .ok d ∧ D.flat d = true ∧ ∀ v H1, Ex H H1 → Den K (nw H H1) v d → Q v H1 := by
          cases hF : F c with
          | ok d =>
            rw [hF] at po
            dsimp only at po
            by_cases hfl : D.flat d = true
            · rw [if_pos hfl] at po
              exact ⟨d, rfl, hfl, po⟩
            · rw [if_neg hfl] at po
              exact po.elim
          | err c' => rw [hF] at po; exact po.elim
          | stuck => rw [hF] at po; exact po.elim
        obtain ⟨d, hF, hfl, po⟩ := fin
        intro H1 e1 u hu
        rw [hcs c hc] at hu
        cases hu
        refine ⟨true, ex c hc, fun _ a ha => ⟨c, hc, rfl, rfl, ?_⟩, fun z => nomatch z⟩
        refine ⟨.ref a, List.getElem?_set_self li, rfl, fun T m => (hid_le.tab (tabs T m) |> e1.tab), ?_⟩
        rw [hF]
        exact ⟨hfl, fun v H2 e2 hd => po v H2 (e1.trans e2) (hd _)⟩
      · rw [if_neg hc] at po
        exact po.elim
end
end Dx
set_option Elab.async false
set_option linter.all false
set_option maxRecDepth 100000
set_option maxHeartbeats 4000000
namespace Dx
open PySem PySem.Spec PyProof.Rows L2
open RZ RT
theorem room_u {k : Nat} {A : Around} (h : Room k A) : A.units + 65 < cLine := by have := h.un; omega
theorem roomH_u {k : Nat} {A : Around} (h : L2H.RoomH k A) : A.units + 65 < cLine := by have := h.un; omega
theorem u64 {A : Around} (h : A.units + 65 < cLine) : A.units + 64 < cLine := by omega
theorem genS_of {env : Env} {scope : Scope} {x : Str} (h1 : scope.kind = .function) (h2 : scope.isCoroutine = false) (h3 : (scope.names.all fun y => (match y.2 with | .cell => false | .free => false | _ => true)) = true) (h4 : scope.names.lookup (".0" : Str) = some .local) (h5 : scope.names.lookup x = some .local) : GxR.GenS env scope x := by
  have h := List.all_eq_true.mp h3
  refine ⟨h1, h2, fun y hy e => ?_, h4, h5, fun y hy e => ?_⟩
  · have := h y hy
    rw [e] at this
    cases this
  · have := h y hy
    rw [e] at this
    cases this
section
variable {X : Cx} {w : Wi} {Ri Rt Re ow : List Nat} {elt tg iter : Expr} {ifs : List Expr} {scope : Scope} {own : List (Str × Nat)} {pos : Pos} {items : EL} {t : EB} {f : EE}
/-- as dl_lc, the slots told by themselves -/
theorem dl_lcE (tgt : Tgt) (hc : X.calm = true) (hN : X.N.Nodup) (hi : DI X w Ri tg iter items) (ok : BlkOk X.N X.env.scope scope own) (hs : ∀ i ∈ tgt.slots, i ∈ own.map (·.2))
    (hg : ∀ (s : Shared) (H : Hp) (C : Addr) (cl : List (Str × Addr)) (fp : List Addr), PG (X.blk s H scope (compEnvC scope cl C X.env) fp) tg (gT X.K tgt))
    (ht : ∀ (s : Shared) (H : Hp) (C : Addr) (cl : List (Str × Addr)) (fp : List Addr), BT (X.blk s H scope (compEnvC scope cl C X.env) fp) w.no Rt ifs t)
    (he : ∀ (s : Shared) (H : Hp) (C : Addr) (cl : List (Str × Addr)) (fp : List Addr), DE (X.blk s H scope (compEnvC scope cl C X.env) fp) w.no Re elt f) (how : own.map (·.2) = ow := by rfl) (hf : ∀ x, foldedSetIterable iter X.env x = pure x := by intro _; rfl) :
    DL X w (Ri ++ (Rt ++ Re)) (.ListComp elt [⟨tg, iter, ifs, 0⟩] scope pos) (eLc items tgt ow t f) := by
  subst how
  exact dl_lc tgt hc hN hi ok hs hg ht he hf
end
section
variable {X : Cx} {w : Wi}
theorem ds_ownLcE {Ri Rt Re ow O L : List Nat} {elt tg iter : Expr} {ifs : List Expr} {scope : Scope} {own : List (Str × Nat)} {cpos pos pos' : Pos} {items : EL} {t : EB} {f : EE} {fr : Bool} {i : Nat} {x : Str} (tgt : Tgt) (hR : ∀ j ∈ Ri ++ (Rt ++ Re), j ∉ O) (hi : i ∉ O) (hc : X.calm = true) (hN : X.N.Nodup) (hit : DI X w Ri tg iter items) (ok : BlkOk X.N X.env.scope scope own) (hs : ∀ i ∈ tgt.slots, i ∈ own.map (·.2))
    (hg : ∀ (s : Shared) (H : Hp) (C : Addr) (cl : List (Str × Addr)) (fp : List Addr), PG (X.blk s H scope (compEnvC scope cl C X.env) fp) tg (gT X.K tgt))
    (ht : ∀ (s : Shared) (H : Hp) (C : Addr) (cl : List (Str × Addr)) (fp : List Addr), BT (X.blk s H scope (compEnvC scope cl C X.env) fp) w.no Rt ifs t)
    (he : ∀ (s : Shared) (H : Hp) (C : Addr) (cl : List (Str × Addr)) (fp : List Addr), DE (X.blk s H scope (compEnvC scope cl C X.env) fp) w.no Re elt f)
    (how : own.map (·.2) = ow := by rfl) (hy : X.N[i]? = some x := by rfl) (hyl : X.env.scope.names.lookup x = some .local := by rfl) (hsw : swapsWith (.ListComp elt [⟨tg, iter, ifs, 0⟩] scope cpos) (some (.Name x pos')) pos.line X.env = pure true := by exact sw_true rfl rfl rfl (by decide +kernel)) (hf : ∀ x, foldedSetIterable iter X.env x = pure x := by intro _; rfl) :
    DS X w fr L O (i :: O) (.Assign [.Name x pos'] (.ListComp elt [⟨tg, iter, ifs, 0⟩] scope cpos) pos) (sOwn i (eLc items tgt ow t f)) := by
  subst how
  exact ds_ownLc tgt hR hi hc hN hit ok hs hg ht he hy hyl hsw hf
end
end Dx
set_option Elab.async false
set_option linter.all false
set_option maxRecDepth 100000
set_option maxHeartbeats 4000000
namespace Dx
open PySem PySem.Spec PyProof.Rows L2
open PySem.W (findIn specialIn takesIn mroIn subIn hasDictIn kitOne)
def excCB (K : PySem.W.Frag) (D : Addr) : Bool :=
  He.eqO (findIn K (.ref D) "__getattribute__") (some (some (.builtin "BaseException.__getattribute__"))) && (He.eqO (findIn K (.ref D) "__getattr__") (some none) && (decide (subIn K (.ref D) (.type "BaseException") = some true) && (hasDictIn K D && (He.eqO (findIn K (.ref D) "__class__") (some (some (.builtin "object.__class__"))) && (He.eqO (specialIn K (.builtin "object.__class__") "__get__") (some (some (.builtin "getset_descriptor.__get__"))) && (decide (takesIn K (.builtin "object.__class__") = some true) && decide (mroIn K D (.type "object") = some true)))))))
theorem excCB_ok {K : PySem.W.Frag} {D : Addr} (h : excCB K D = true) : ExcC K D := by
  unfold excCB at h
  rw [Bool.and_eq_true, Bool.and_eq_true, Bool.and_eq_true, Bool.and_eq_true, Bool.and_eq_true, Bool.and_eq_true, Bool.and_eq_true] at h
  obtain ⟨a, b, c, d, e, f, g, i⟩ := h
  exact ⟨He.eqO_ok a, He.eqO_ok b, of_decide_eq_true c, d, He.eqO_ok e, He.eqO_ok f, of_decide_eq_true g, of_decide_eq_true i⟩
def exC (K : PySem.W.Frag) (cs : List Str) : Bool := cs.all fun c => excCB K (He.ga K c)
def exK (K : PySem.W.Frag) (sub : Str → Str → Bool) (cs ys : List Str) : Bool := cs.all fun c => ys.all fun y => decide (kitOne K (.ref (He.ga K c)) (.ref (He.ga K y)) = some (sub c y))
def exV (K : PySem.W.Frag) (cs : List Str) : Bool := cs.all fun c => decide (kitOne K (.ref (He.ga K c)) (.type "ValueError") = some true)
theorem exC_ok {K : PySem.W.Frag} {cs : List Str} (h : exC K cs = true) : ∀ c ∈ cs, ExcC K (He.ga K c) := fun c hc => excCB_ok (List.all_eq_true.mp h c hc)
theorem exK_ok {K : PySem.W.Frag} {sub : Str → Str → Bool} {cs ys : List Str} (h : exK K sub cs ys = true) : ∀ c ∈ cs, ∀ y ∈ ys, kitOne K (.ref (He.ga K c)) (.ref (He.ga K y)) = some (sub c y) := fun c hc y hy => of_decide_eq_true (List.all_eq_true.mp (List.all_eq_true.mp h c hc) y hy)
theorem exV_ok {K : PySem.W.Frag} {cs : List Str} (h : exV K cs = true) : ∀ c ∈ cs, kitOne K (.ref (He.ga K c)) (.type "ValueError") = some true := fun c hc => of_decide_eq_true (List.all_eq_true.mp h c hc)
def exI (K : PySem.W.Frag) (C : Str) : Bool :=
  He.eqO (findIn K (.ref (He.ga K C)) "__class__") (some (some (.builtin "object.__class__"))) && (He.eqO (specialIn K (.builtin "object.__class__") "__get__") (some (some (.builtin "getset_descriptor.__get__"))) && (decide (takesIn K (.builtin "object.__class__") = some true) && (decide (mroIn K (He.ga K C) (.type "object") = some true) && (decide (kitOne K (.ref (He.ga K C)) (.ref (He.ga K C)) = some true) && ["NoneType", "bool", "int", "str", "list", "tuple"].all fun t => decide (kitOne K (.type t) (.ref (He.ga K C)) = some false)))))
theorem exI_ok {K : PySem.W.Frag} {C : Str} (h : exI K C = true) (cl : Cls K (He.ga K C)) : ClsIs K C := by
  unfold exI at h
  rw [Bool.and_eq_true, Bool.and_eq_true, Bool.and_eq_true, Bool.and_eq_true, Bool.and_eq_true] at h
  obtain ⟨a, b, c, d, e, f⟩ := h
  exact ⟨cl, He.eqO_ok a, He.eqO_ok b, of_decide_eq_true c, of_decide_eq_true d, of_decide_eq_true e, fun t ht => of_decide_eq_true (List.all_eq_true.mp f t ht)⟩
theorem excD_of {K : PySem.W.Frag} {h : Heap} {mg : Str → Option Value} {x : Str} (X : K.In h) (G : h.Ns mainGlobals mg) (g : He.Fa.ok K (.glo x) = true) (e : He.Fa.ok K (.exc x) = true) : ExcD K mg x := by
  obtain ⟨a, b, c, d⟩ := He.exc_ok e
  exact ⟨He.glo_ok X G g, a, b, c, d⟩
theorem hasTab_of {K : PySem.W.Frag} {base : Heap} {mg : Str → Option Value} {tb : List Addr} {name qual : Str} {pm : Arguments} {bd : List Stmt} {sc : Scope} {p : He.Defn} {fd : FuncData} (F : FunD K name qual pm bd sc [] [] (He.fAd K p) fd) (T : LamX.TabB base mg (He.cT K p).1 (He.cT K p).2) (m : (He.cT K p).2 ∈ tb) : HasTab base mg tb fd.code := by
  obtain ⟨oc, od, dV, kV, doc, pm', an, cdv, ct, osl, e, lk, hcd, _, _⟩ := F.ex
  obtain ⟨c, hc⟩ := He.codeIn_ref hcd
  have hfc : fd.code = .ref c := by rw [e]; exact hc
  have hco := He.codeOf_eq lk hfc
  refine ⟨(He.cT K p).1, (He.cT K p).2, ?_, ⟨T.code, T.bm, T.gP⟩, m⟩
  rw [hfc]
  show _ = Value.ref (He.codeOf K p)
  rw [hco]
/-- the law's promise: a list of at most 63 ints is handed in, True comes out -/
def spLaw (K : PySem.W.Frag) (tb : List Addr) : Sp := fun vs H Q _ => ∃ (a : Addr) (ns : List Int), vs = [.ref a] ∧ SqL K H a (ns.map V.int) ∧ ns.length ≤ 63 ∧ (∀ T ∈ tb, GxR.TabG H T) ∧ ∀ H', Q (.bl true) H'
theorem denInts {K : PySem.W.Frag} {H : Hp} : ∀ ns : List Int, DenL K H (ns.map V.int) (dInts ns)
  | [] => .nil
  | n :: ns => .cons (.int n) (denInts ns)
theorem law_sp {K : PySem.W.Frag} {mg : Str → Option Value} {tb : List Addr} {F : List D → Res D} (hF : ∀ ns : List Int, ns.length ≤ 63 → F [.fz (dInts ns)] = .ok (.bl true)) : ∀ vs H Q E, spLaw K tb vs H Q E → SpF K mg tb 1 false F vs H Q E := fun vs H Q E h => by
  obtain ⟨a, ns, rfl, hs, hl, tabs, k⟩ := h
  refine ⟨rfl, [], [.fz (dInts ns)], (fun _ m => absurd m (List.not_mem_nil)), fun T m => ex_hid0.tab (tabs T m), .one (.fz (ex_l ex_hid0 hs) (denInts ns)), ?_⟩
  rw [hF ns hl]
  intro v H1 _ hv
  rw [den_bl hv]
  exact k H1
theorem tab_new {H : Hp} {P : Addr} (h : H P = some (.tbl #[])) : GxR.TabG H P := ⟨#[], h, by first | trivial | exact .nil | (intro x hx; cases hx) | (simp [TriplesOk])⟩
end Dx
set_option Elab.async false
set_option linter.all false
set_option maxRecDepth 100000
set_option maxHeartbeats 4000000
namespace Dx
open PySem L2
section
variable {i j n : Nat} {a b d c : D} {f g h fo fe : EE} {t u : EB} {l m : EL} {env e : Sl} {s s1 s2 sb : Sl → Out} {ds es : List D} {x y : Int} {k : Bool} {z C M w : Str} {ad : Addr} {cs : List Str} {F : Str → Res D} {gs : List (Str × D)}
@[simp] theorem sRaise_ap : sRaise C env = .err C env := rfl
def tryR (i : Nat) (cs : List Str) (F : Str → Res D) : Out → Out
  | .err c e => if c ∈ cs ∧ i < e.length then (match F c with | .ok d => if D.flat d = true then .ret d else .stuck | _ => .stuck) else .stuck
  | o => o
theorem sTry_ap : sTry i cs F sb env = tryR i cs F (sb env) := by
  unfold sTry tryR
  cases sb env <;> rfl
@[simp] theorem tryR_nxt : tryR i cs F (.nxt e) = .nxt e := rfl
@[simp] theorem tryR_ret : tryR i cs F (.ret d) = .ret d := rfl
theorem tryR_err (h1 : C ∈ cs) (h2 : i < e.length) (h3 : F C = .ok d) (h4 : D.flat d = true) : tryR i cs F (.err C e) = .ret d := by
  show (if C ∈ cs ∧ i < e.length then (match F C with | .ok d => if D.flat d = true then Out.ret d else .stuck | _ => .stuck) else .stuck) = _
  rw [if_pos ⟨h1, h2⟩, h3]
  dsimp only
  rw [if_pos h4]
@[simp] theorem eMake_ap {G : List D → Res (List (Str × D))} : eMake C l G env = (l env).bind fun ds => (G ds).map (.obj C) := rfl
theorem eMeth_ap {G : List D → Res D} (h1 : fo env = .ok (.obj C gs)) (h2 : gs.lookup M = none) : eMeth C M fo l G env = (l env).bind fun ds => G (.obj C gs :: ds) := by
  unfold eMeth
  rw [h1, bind_ok]
  dsimp only
  rw [if_pos ⟨rfl, h2⟩]
theorem eIsC_obj (h1 : fe env = .ok (.obj C gs)) : eIsC C fe env = .ok (.bl true) := by
  unfold eIsC
  rw [h1, bind_ok]
  dsimp only
  rw [if_pos rfl]
theorem eAllS_ap {pb : Nat → Bool} (h1 : fe env = .ok (.str z)) : eAllS pb fe env = .ok (.bl (z.cps.toList.all pb)) := by
  unfold eAllS
  rw [h1, bind_ok]
theorem eMethL_ap {G : D → D → Res D} (h1 : fo env = .ok (.lst ds)) : eMethL G fo fe env = (fe env).bind fun x => G (.lst ds) x := by
  unfold eMethL
  rw [h1, bind_ok]
@[simp] theorem upper_str (h : z.length ≤ 100000) : D.upper (.str z) = .ok (.str (Txt.upper z)) := by unfold D.upper; exact lim_ok h
theorem fld_ap (h : gs.lookup M = some d) : D.fld C M (.obj C gs) = .ok d := by
  unfold D.fld
  dsimp only
  rw [if_pos rfl, h]
@[simp] theorem isi_non_list : D.isi [.non, .raw (.ty "list")] = .ok (.bl false) := rfl
@[simp] theorem isi_non_tuple : D.isi [.non, .raw (.ty "tuple")] = .ok (.bl false) := rfl
@[simp] theorem isi_non_str : D.isi [.non, .raw (.ty "str")] = .ok (.bl false) := rfl
@[simp] theorem isi_non_int : D.isi [.non, .raw (.ty "int")] = .ok (.bl false) := rfl
@[simp] theorem isi_int_str : D.isi [.int x, .raw (.ty "str")] = .ok (.bl false) := rfl
@[simp] theorem isi_bl_str : D.isi [.bl k, .raw (.ty "str")] = .ok (.bl false) := rfl
@[simp] theorem isi_lst_str : D.isi [.lst ds, .raw (.ty "str")] = .ok (.bl false) := rfl
@[simp] theorem isi_tup_str : D.isi [.tup ds, .raw (.ty "str")] = .ok (.bl false) := rfl
@[simp] theorem isi_str_int : D.isi [.str z, .raw (.ty "int")] = .ok (.bl false) := rfl
@[simp] theorem isi_str_bool : D.isi [.str z, .raw (.ty "bool")] = .ok (.bl false) := rfl
@[simp] theorem isi_str_list : D.isi [.str z, .raw (.ty "list")] = .ok (.bl false) := rfl
@[simp] theorem isi_str_tuple : D.isi [.str z, .raw (.ty "tuple")] = .ok (.bl false) := rfl
@[simp] theorem isi_lst_int : D.isi [.lst ds, .raw (.ty "int")] = .ok (.bl false) := rfl
@[simp] theorem isi_tup_int : D.isi [.tup ds, .raw (.ty "int")] = .ok (.bl false) := rfl
@[simp] theorem isi_non_bool : D.isi [.non, .raw (.ty "bool")] = .ok (.bl false) := rfl
@[simp] theorem isi_int_list : D.isi [.int x, .raw (.ty "list")] = .ok (.bl false) := rfl
@[simp] theorem isi_int_tuple : D.isi [.int x, .raw (.ty "tuple")] = .ok (.bl false) := rfl
end
end Dx
set_option Elab.async false
set_option linter.all false
set_option maxRecDepth 100000
set_option maxHeartbeats 4000000
namespace Dx
open PySem L2
section
variable {i j n : Nat} {a b d c : D} {f g h f1 f2 f3 fo fe : EE} {t u : EB} {l m : EL} {env e e1 e2 : Sl} {s s1 s2 sb : Sl → Out} {ds es : List D} {x y : Int} {k q : Bool} {z C M w : Str} {ad : Addr} {F : List D → Res D} {gs : List (Str × D)} {o : Out} {G G2 : D → D → Res D} {U : D → Res D}
theorem ev_var (h : env[i]? = some (some d)) : eVar i env = .ok d := eVar_ap h
theorem ev_c : eC d env = .ok d := id rfl
theorem ev_bin (h1 : f1 env = .ok a) (h2 : f2 env = .ok b) (h3 : G a b = .ok d) : eBin G f1 f2 env = .ok d := by
  show ((f1 env).bind fun x => (f2 env).bind fun y => G x y) = _; rw [h1, h2]; exact h3
theorem ev_un (h1 : f env = .ok a) (h2 : U a = .ok d) : eUn U f env = .ok d := by
  show (f env).bind U = _; rw [h1]; exact h2
theorem ev_test (h1 : f env = .ok (.bl k)) : eTest f env = .ok k := by
  show (f env).bind D.isBl = _; rw [h1]; rfl
theorem ev_truth (h1 : f env = .ok a) (h2 : D.truth a = .ok k) : eTruth f env = .ok k := by
  show (f env).bind D.truth = _; rw [h1]; exact h2
theorem ev_notB (h1 : t env = .ok k) : eNotB t env = .ok (!k) := by
  show (t env).map (!·) = _; rw [h1]; rfl
theorem ev_chain (h1 : f1 env = .ok a) (h2 : f2 env = .ok b) (h3 : G a b = .ok (.bl k)) (h4 : f3 env = .ok c) (h5 : G2 b c = .ok (.bl q)) : eChain G G2 f1 f2 f3 env = .ok (.bl (k && q)) := by
  show ((f1 env).bind fun x => (f2 env).bind fun y => (G x y).bind fun z => (D.isBl z).bind fun b => if b = true then (f3 env).bind fun u => G2 y u else .ok (.bl false)) = _
  rw [h1, h2]; show ((G a b).bind _) = _; rw [h3, h4]; cases k <;> first | rfl | exact h5
theorem ev_chain_f (h1 : f1 env = .ok a) (h2 : f2 env = .ok b) (h3 : G a b = .ok (.bl k)) (hk : k = false) : eChain G G2 f1 f2 f3 env = .ok (.bl false) := by
  subst hk
  show ((f1 env).bind fun x => (f2 env).bind fun y => (G x y).bind fun z => (D.isBl z).bind fun b => if b = true then (f3 env).bind fun u => G2 y u else .ok (.bl false)) = _
  rw [h1, h2]; show ((G a b).bind _) = _; rw [h3]; rfl
theorem ev_nil : eNil env = .ok [] := id rfl
theorem ev_cons (h1 : f env = .ok d) (h2 : l env = .ok ds) : eCons f l env = .ok (d :: ds) := by
  show ((f env).bind fun d => (l env).map (d :: ·)) = _; rw [h1, h2]; rfl
theorem ev_tup (h1 : l env = .ok ds) : eTup l env = .ok (.tup ds) := by
  show (l env).map D.tup = _; rw [h1]; rfl
theorem ev_L (h1 : l env = .ok ds) : eL l env = .ok (.lst ds) := by
  show (l env).map D.lst = _; rw [h1]; rfl
theorem ev_call (h1 : l env = .ok ds) (h2 : F ds = .ok d) : eCall l F env = .ok d := by
  show (l env).bind F = _; rw [h1]; exact h2
theorem ev_callL {F : List D → Res (List D)} (h1 : l env = .ok ds) (h2 : F ds = .ok es) : eCallL l F env = .ok es := by
  show (l env).bind F = _; rw [h1]; exact h2
theorem ev_items (h1 : f env = .ok d) (h2 : D.items d = .ok ds) : eItems f env = .ok ds := by
  show (f env).bind D.items = _; rw [h1]; exact h2
theorem ev_rev (h1 : f env = .ok d) (h2 : D.rev d = .ok ds) : eRev f env = .ok ds := by
  show (f env).bind D.rev = _; rw [h1]; exact h2
theorem ev_yes : eYes env = .ok true := id rfl
theorem ev_part (h1 : f env = .ok (.int x)) : ePart f env = .ok (some x) := by rw [ePart_ap, h1]; rfl
theorem ev_nopart : eNoPart env = .ok none := id rfl
theorem ev_sl {lo hi : Sl → Res (Option Int)} {p r : Option Int} (h1 : f env = .ok d) (h2 : lo env = .ok p) (h3 : hi env = .ok r) (h4 : D.sl d p r = .ok c) : eSl f lo hi env = .ok c := by
  rw [eSl_ap, h1, h2]; show ((hi env).bind _) = _; rw [h3]; exact h4
theorem ev_slL {lo hi : Sl → Res (Option Int)} {p r : Option Int} (h1 : f env = .ok d) (h2 : lo env = .ok p) (h3 : hi env = .ok r) (h4 : D.slL d p r = .ok ds) : eSlL f lo hi env = .ok ds := by
  rw [eSlL_ap, h1, h2]; show ((hi env).bind _) = _; rw [h3]; exact h4
theorem ev_lc {tg : Tgt} {own : List Nat} (h1 : l env = .ok ds) (h2 : ds.length ≤ 100000) (h3 : wipeE env own = e1) (h4 : lcGo tg t f e1 ds = .ok es) : eLc l tg own t f env = .ok es := by
  rw [eLc_ap, h1]; show lim ds.length _ = _; rw [lim_ok h2, h3]; exact h4
theorem ev_make {H : List D → Res (List (Str × D))} (h1 : l env = .ok ds) (h2 : H ds = .ok gs) : eMake C l H env = .ok (.obj C gs) := by
  rw [eMake_ap, h1]; show (H ds).map _ = _; rw [h2]; rfl
theorem ev_meth (h1 : fo env = .ok (.obj C gs)) (h2 : gs.lookup M = none) (h3 : l env = .ok ds) (h4 : F (.obj C gs :: ds) = .ok d) : eMeth C M fo l F env = .ok d := by
  rw [eMeth_ap h1 h2, h3]; exact h4
theorem ev_methL (h1 : fo env = .ok (.lst ds)) (h2 : fe env = .ok a) (h3 : G (.lst ds) a = .ok d) : eMethL G fo fe env = .ok d := by
  rw [eMethL_ap h1, h2]; exact h3
theorem ev_isC_obj (h1 : fe env = .ok (.obj C gs)) : eIsC C fe env = .ok (.bl true) := eIsC_obj h1
theorem ev_allS {pb : Nat → Bool} (h1 : fe env = .ok (.str z)) : eAllS pb fe env = .ok (.bl (z.cps.toList.all pb)) := eAllS_ap h1
theorem ev_set0 {a : Option D} {l : Sl} {v : Option D} : (a :: l).set 0 v = v :: l := id rfl
theorem ev_setS {a : Option D} {l l' : Sl} {v : Option D} {i : Nat} (h : l.set i v = l') : (a :: l).set (i + 1) v = a :: l' := by rw [List.set_cons_succ, h]
theorem ev_wipe0 : wipeE env [] = env := id rfl
theorem ev_wipe {ow : List Nat} (h1 : wipeE env ow = e1) (h2 : e1.set i none = e2) : wipeE env (i :: ow) = e2 := by
  show (wipeE env ow).set i none = _; rw [h1, h2]
theorem ev_next : sNext env = .nxt env := id rfl
theorem ev_sSet (h1 : f env = .ok d) (h2 : env.set i (some d) = e1) : sSet i f env = .nxt e1 := by
  show toOut env ((f env).map fun d => .nxt (env.set i (some d))) = _; rw [h1, ← h2]; rfl
theorem ev_sOwn (h1 : l env = .ok ds) (h3 : i < env.length) (h2 : env.set i (some (.lst ds)) = e1) : sOwn i l env = .nxt e1 := by
  show toOut env ((l env).bind fun ds => if i < env.length then .ok (.nxt (env.set i (some (.lst ds)))) else .stuck) = _
  rw [h1, ← h2]; show toOut env (if i < env.length then _ else _) = _; rw [if_pos h3]; rfl
theorem ev_ret (h1 : f env = .ok d) : sRet f env = .ret d := by
  show toOut env ((f env).map .ret) = _; rw [h1]; rfl
theorem ev_retL (h1 : l env = .ok ds) : sRetL l env = .ret (.lst ds) := by
  show toOut env ((l env).map fun ds => .ret (.lst ds)) = _; rw [h1]; rfl
theorem ev_retV (h : env[i]? = some (some d)) : sRetV i env = .ret d := by
  unfold sRetV; rw [h]
theorem ev_drop (h1 : f env = .ok d) : sDrop f env = .nxt env := by
  show toOut env ((f env).map fun _ => .nxt env) = _; rw [h1]; rfl
theorem ev_ret_err (h1 : f env = .err C) : sRet f env = .err C env := by
  show toOut env ((f env).map .ret) = _; rw [h1]; rfl
/-- a branch that is open yet -/
def pick {α : Type} (k : Bool) (a b : α) : α := if k = true then a else b
theorem ev_pick_t {α : Type} {p q r : α} (h : k = true) (h2 : p = r) : pick k p q = r := by subst h; exact h2
theorem ev_pick_f {α : Type} {p q r : α} (h : k = false) (h2 : q = r) : pick k p q = r := by subst h; exact h2
theorem ev_sIf (h1 : t env = .ok k) (h2 : pick k (s1 env) (s2 env) = o) : sIf t s1 s2 env = o := by
  show (t env).branch env s1 s2 = _; rw [h1]; exact h2
theorem ev_eIf (h1 : t env = .ok k) (h2 : pick k (f env) (g env) = .ok d) : eIf t f g env = .ok d := by
  show ((t env).bind fun b => if b = true then f env else g env) = _; rw [h1]; exact h2
theorem ev_andB_p (h1 : t env = .ok k) (h2 : pick k (u env) (.ok false) = .ok q) : eAndB t u env = .ok q := by
  show ((t env).bind fun b => if b = true then u env else .ok false) = _; rw [h1]; exact h2
theorem ev_orB_p (h1 : t env = .ok k) (h2 : pick k (.ok true) (u env) = .ok q) : eOrB t u env = .ok q := by
  show ((t env).bind fun b => if b = true then .ok true else u env) = _; rw [h1]; exact h2
theorem ev_andV_p (h1 : f env = .ok (.bl k)) (h2 : pick k (g env) (.ok (.bl false)) = .ok d) : eAndV f g env = .ok d := by
  show ((f env).bind fun d => (D.isBl d).bind fun b => if b = true then g env else .ok (.bl false)) = _; rw [h1]; exact h2
theorem ev_orV_p (h1 : f env = .ok (.bl k)) (h2 : pick k (.ok (.bl true)) (g env) = .ok d) : eOrV f g env = .ok d := by
  show ((f env).bind fun d => (D.isBl d).bind fun b => if b = true then .ok (.bl true) else g env) = _; rw [h1]; exact h2
theorem ev_pick_and {p : Res Bool} {q : Bool} (h : p = .ok q) : pick k p (.ok false) = .ok (k && q) := by rw [h]; cases k <;> rfl
theorem ev_pick_or {p : Res Bool} {q : Bool} (h : p = .ok q) : pick k (.ok true) p = .ok (k || q) := by rw [h]; cases k <;> rfl
theorem ev_pick_andV {p : Res D} {q : Bool} (h : p = .ok (.bl q)) : pick k p (.ok (.bl false)) = .ok (.bl (k && q)) := by rw [h]; cases k <;> rfl
theorem ev_pick_orV {p : Res D} {q : Bool} (h : p = .ok (.bl q)) : pick k (.ok (.bl true)) p = .ok (.bl (k || q)) := by rw [h]; cases k <;> rfl
theorem ev_app (h2 : env[i]? = some (some (.lst ds))) (h1 : f env = .ok d) (h3 : ds.length + 1 ≤ 100000) (h4 : env.set i (some (.lst (ds ++ [d]))) = e1) : sApp i f env = .nxt e1 := by
  unfold sApp; rw [h1]; show toOut env (match env[i]? with | some (some (.lst ds)) => _ | _ => _) = _
  rw [h2]; dsimp only; rw [lim_ok h3, h4]; rfl
theorem ev_appF (h2 : env[i]? = some (some (.lst ds))) (h1 : f env = .ok d) (h0 : D.flat d = true) (h3 : ds.length + 1 ≤ 100000) (h4 : env.set i (some (.lst (ds ++ [d]))) = e1) : sAppF i f env = .nxt e1 := by
  unfold sAppF; rw [h1]; show toOut env (if D.flat d = true then (match env[i]? with | some (some (.lst ds)) => _ | _ => _) else _) = _
  rw [if_pos h0, h2]; dsimp only; rw [lim_ok h3, h4]; rfl
theorem ev_lst {γ : List D → List D} (h2 : env[i]? = some (some (.lst ds))) (h4 : env.set i (some (.lst (γ ds))) = e1) : sLst γ i env = .nxt e1 := by
  unfold sLst; rw [h2]; dsimp only; rw [h4]
theorem ev_aug (h1 : env[i]? = some (some a)) (h2 : f env = .ok b) (h3 : G a b = .ok d) (h4 : D.flat d = true) (h5 : env.set i (some d) = e1) : sAug i G f env = .nxt e1 := by
  unfold sAug; rw [h1]; show toOut env ((f env).bind fun c => (G a c).bind fun r => if D.flat r = true then .ok (.nxt (env.set i (some r))) else .stuck) = _
  rw [h2]; show toOut env ((G a b).bind _) = _; rw [h3]; show toOut env (if D.flat d = true then _ else _) = _; rw [if_pos h4, h5]; rfl
theorem ev_tgt_two (h1 : f env = .ok (.tup [a, b])) (h2 : env.set i (some a) = e) (h3 : e.set j (some b) = e1) : sTgt (.two i j) f env = .nxt e1 := by
  unfold sTgt; rw [h1, ← h3, ← h2]; rfl
theorem ev_setAll0 {is : List Nat} : setAll is ([] : List D) env = env := by cases is <;> rfl
theorem ev_setAllN {l : List D} : setAll [] l env = env := id rfl
theorem ev_setAll {is : List Nat} {l : List D} (h1 : env.set i (some d) = e1) (h2 : setAll is l e1 = e2) : setAll (i :: is) (d :: l) env = e2 := by
  show setAll is l (env.set i (some d)) = _; rw [h1, h2]
theorem ev_for {tg : Tgt} (h1 : l env = .ok ds) (h2 : forGo tg s ds env = o) : sFor l tg s env = o := by
  show (l env).walk env (forGo tg s) = _; rw [h1]; exact h2
theorem ev_raise : sRaise C env = .err C env := id rfl
theorem ev_lim {α : Type} {n : Nat} {r r' : Res α} (h : n ≤ 100000) (h2 : r = r') : lim n r = r' := by rw [lim_ok h]; exact h2
end
section
variable {i n : Nat} {d : D} {env e e1 : Sl} {s s1 s2 : Sl → Out} {ds : List D} {C : Str} {o o1 : Out} {r : Res D}
theorem ev_then (h1 : s1 env = o1) (h2 : o1.andThen s2 = o) : sSeq s1 s2 env = o := by
  show (s1 env).andThen s2 = _; rw [h1]; exact h2
theorem ev_then_nxt (h : s e = o) : (Out.nxt e).andThen s = o := h
theorem ev_then_ret : (Out.ret d).andThen s = .ret d := id rfl
theorem ev_then_err : (Out.err C e).andThen s = .err C e := id rfl
theorem ev_lc_nil {tg : Tgt} {t : EB} {f : EE} : lcGo tg t f env [] = .ok [] := id rfl
theorem ev_lc_yes {f : EE} {y : D} {ys : List D} (h1 : env.set i (some d) = e1) (h2 : f e1 = .ok y) (h3 : lcGo (.one i) eYes f env ds = .ok ys) : lcGo (.one i) eYes f env (d :: ds) = .ok (y :: ys) := by
  rw [lcGo_one, h1, h2, h3]; rfl
/-- the frame at the start -/
def pad : Nat → List D → Sl
  | 0, _ => []
  | n + 1, [] => none :: pad n []
  | n + 1, d :: ds => some d :: pad n ds
theorem pad_eq : ∀ {n : Nat} {ds : List D}, ds.length ≤ n → ds.map some ++ List.replicate (n - ds.length) none = pad n ds
  | 0, [], _ => rfl
  | 0, _ :: _, h => by simp at h
  | n + 1, [], _ => by
    have := pad_eq (n := n) (ds := []) (Nat.zero_le _)
    simp only [List.map_nil, List.nil_append, List.length_nil, Nat.sub_zero] at this ⊢
    rw [List.replicate_succ, this]; rfl
  | n + 1, d :: ds, h => by
    have := pad_eq (n := n) (ds := ds) (by simpa using h)
    simp only [List.map_cons, List.cons_append, List.length_cons, Nat.add_sub_add_right] at this ⊢
    rw [this]; rfl
theorem ev_pad0 {l : List D} : pad 0 l = [] := id rfl
theorem ev_padN (h : pad n [] = e) : pad (n + 1) [] = none :: e := by rw [← h]; rfl
theorem ev_padC (h : pad n ds = e) : pad (n + 1) (d :: ds) = some d :: e := by rw [← h]; rfl
theorem ev_fnSem (h0 : ds.length ≤ n) (h : pad n ds = e) (h1 : s e = o) (h2 : outRes o = r) : fnSem n s ds = r := by
  unfold fnSem; rw [pad_eq h0, h, h1]; exact h2
theorem ev_fnSemL (h0 : ds.length ≤ n) (h : pad n ds = e) (h1 : s e = o) (h2 : outResL o = r) : fnSemL n s ds = r := by
  unfold fnSemL; rw [pad_eq h0, h, h1]; exact h2
theorem ev_out_ret : outRes (.ret d) = .ok d := id rfl
theorem ev_out_nxt : outRes (.nxt e) = .ok .non := id rfl
theorem ev_out_err : outRes (.err C e) = .err C := id rfl
theorem ev_outL_ret : outResL (.ret d) = .ok d := id rfl
theorem ev_outL_err : outResL (.err C e) = .err C := id rfl
end
section
variable {a b : D} {l : List D} {r : Res D} {rb : Res Bool} {rl : Res (List D)}
theorem gt_add (h : D.add a b = r) : D.add a b = r := h
theorem gt_isi (h : D.isi l = r) : D.isi l = r := h
theorem gt_ix (h : D.ix a b = r) : D.ix a b = r := h
theorem gt_len (h : D.len l = r) : D.len l = r := h
theorem gt_mul (h : D.mul a b = r) : D.mul a b = r := h
theorem gt_eq (h : D.eq a b = r) : D.eq a b = r := h
theorem gt_ne (h : D.ne a b = r) : D.ne a b = r := h
theorem gt_lim {α : Type} {n : Nat} {x y : Res α} (h : lim n x = y) : lim n x = y := h
theorem gt_truth (h : D.truth a = rb) : D.truth a = rb := h
theorem gt_pick {α : Type} {k : Bool} {p q x : α} (h : pick k p q = x) : pick k p q = x := h
theorem gt_look {gs : List (Str × D)} {M : Str} {o : Option D} (h : gs.lookup M = o) : gs.lookup M = o := h
theorem gt_seq {s1 s2 : Sl → Out} {e : Sl} {o : Out} (h : sSeq s1 s2 e = o) : sSeq s1 s2 e = o := h
theorem ev_bind {α β : Type} {r : Res α} {k : α → Res β} {a : α} {x : Res β} (h1 : r = .ok a) (h2 : k a = x) : r.bind k = x := by rw [h1]; exact h2
theorem ev_branch {r : Res Bool} {k : Bool} {env : Sl} {s1 s2 : Sl → Out} {o : Out} (h1 : r = .ok k) (h2 : pick k (s1 env) (s2 env) = o) : r.branch env s1 s2 = o := by rw [h1]; exact h2
theorem ok_ok {α : Type} {a : α} : Res.ok a = Res.ok a := rfl
theorem isi_of {d : D} {n : String} {t : String} {k : Bool} (h1 : D.ty d = some t) (h2 : D.isTy t n = some k) : D.isi [d, .raw (.ty n)] = .ok (.bl k) := by
  show (match D.ty d with | some a => _ | none => _) = _; rw [h1]; dsimp only; rw [h2]
theorem ist_ii : D.isTy "int" "int" = some true := by decide +kernel
theorem ist_bi : D.isTy "bool" "int" = some true := by decide +kernel
theorem ist_si : D.isTy "str" "int" = some false := by decide +kernel
theorem ist_li : D.isTy "list" "int" = some false := by decide +kernel
theorem ist_ti : D.isTy "tuple" "int" = some false := by decide +kernel
theorem ist_ni : D.isTy "NoneType" "int" = some false := by decide +kernel
theorem ist_ib : D.isTy "int" "bool" = some false := by decide +kernel
theorem ist_bb : D.isTy "bool" "bool" = some true := by decide +kernel
theorem ist_sb : D.isTy "str" "bool" = some false := by decide +kernel
theorem ist_lb : D.isTy "list" "bool" = some false := by decide +kernel
theorem ist_tb : D.isTy "tuple" "bool" = some false := by decide +kernel
theorem ist_nb : D.isTy "NoneType" "bool" = some false := by decide +kernel
theorem ist_is : D.isTy "int" "str" = some false := by decide +kernel
theorem ist_bs : D.isTy "bool" "str" = some false := by decide +kernel
theorem ist_ss : D.isTy "str" "str" = some true := by decide +kernel
theorem ist_ls : D.isTy "list" "str" = some false := by decide +kernel
theorem ist_ts : D.isTy "tuple" "str" = some false := by decide +kernel
theorem ist_ns : D.isTy "NoneType" "str" = some false := by decide +kernel
theorem ist_il : D.isTy "int" "list" = some false := by decide +kernel
theorem ist_bl : D.isTy "bool" "list" = some false := by decide +kernel
theorem ist_sl : D.isTy "str" "list" = some false := by decide +kernel
theorem ist_ll : D.isTy "list" "list" = some true := by decide +kernel
theorem ist_tl : D.isTy "tuple" "list" = some false := by decide +kernel
theorem ist_nl : D.isTy "NoneType" "list" = some false := by decide +kernel
theorem ist_it : D.isTy "int" "tuple" = some false := by decide +kernel
theorem ist_bt : D.isTy "bool" "tuple" = some false := by decide +kernel
theorem ist_st : D.isTy "str" "tuple" = some false := by decide +kernel
theorem ist_lt : D.isTy "list" "tuple" = some false := by decide +kernel
theorem ist_tt : D.isTy "tuple" "tuple" = some true := by decide +kernel
theorem ist_nt : D.isTy "NoneType" "tuple" = some false := by decide +kernel
theorem ty_int {x : Int} : D.ty (.int x) = some "int" := id rfl
theorem ty_bl {x : Bool} : D.ty (.bl x) = some "bool" := id rfl
theorem ty_str {x : Str} : D.ty (.str x) = some "str" := id rfl
theorem ty_lst {x : List D} : D.ty (.lst x) = some "list" := id rfl
theorem ty_fz {x : List D} : D.ty (.fz x) = some "list" := id rfl
theorem ty_tup {x : List D} : D.ty (.tup x) = some "tuple" := id rfl
theorem ty_non : D.ty .non = some "NoneType" := id rfl
theorem nt_t : D.nt (.bl true) = .ok (.bl false) := id rfl
theorem nt_f : D.nt (.bl false) = .ok (.bl true) := id rfl
theorem int1_t : D.int1 [.bl true] = .ok (.int 1) := id rfl
theorem int1_f : D.int1 [.bl false] = .ok (.int 0) := id rfl
theorem add_lst_ok {xs ys : List D} (h : xs.length + ys.length ≤ 100000) : D.add (.lst xs) (.lst ys) = .ok (.lst (xs ++ ys)) := lim_ok h
theorem add_tup_ok {x : D} {xs ys : List D} (h : (x :: xs).length + ys.length ≤ 100000) : D.add (.tup (x :: xs)) (.tup ys) = .ok (.tup (x :: xs ++ ys)) := lim_ok h
theorem add_str_ok {z z' : Str} (h : z.length + z'.length ≤ 100000) : D.add (.str z) (.str z') = .ok (.str (z ++ z')) := lim_ok h
theorem sl_str_ok {z : Str} {lo hi : Option Int} (h : z.length ≤ 100000) : D.sl (.str z) lo hi = .ok (.str (L2.cutS z lo hi)) := lim_ok h
theorem gt_sl {p q : Option Int} (h : D.sl a p q = r) : D.sl a p q = r := h
theorem len_str_ok {z : Str} (h : z.length ≤ 100000) : D.len [.str z] = .ok (.int z.length) := lim_ok h
theorem ix0_lst {x : D} {xs : List D} : D.ix (.lst (x :: xs)) (.int 0) = .ok x := by
  show (match L2.atI (x :: xs) 0 with | some d => Res.ok d | none => .stuck) = _
  rw [show L2.atI (x :: xs) 0 = some x from L2.atI_nat (j := 0) rfl]
theorem ix_lst_at {xs : List D} {i : Nat} {x : D} (h : xs[i]? = some x) : D.ix (.lst xs) (.int (i : Int)) = .ok x := by
  show (match L2.atI xs i with | some d => Res.ok d | none => .stuck) = _
  rw [L2.atI_nat h]
theorem ix_tup_at {xs : List D} {i : Nat} {x : D} (h : xs[i]? = some x) : D.ix (.tup xs) (.int (i : Int)) = .ok x := by
  show (match L2.atI xs i with | some d => Res.ok d | none => .stuck) = _
  rw [L2.atI_nat h]
theorem ix_lst_int {xs : List D} {i : Int} {x : D} (h0 : 0 ≤ i) (h : xs[i.toNat]? = some x) : D.ix (.lst xs) (.int i) = .ok x := by
  obtain ⟨k, rfl⟩ := Int.eq_ofNat_of_zero_le h0; exact ix_lst_at h
theorem ix_tup_int {xs : List D} {i : Int} {x : D} (h0 : 0 ≤ i) (h : xs[i.toNat]? = some x) : D.ix (.tup xs) (.int i) = .ok x := by
  obtain ⟨k, rfl⟩ := Int.eq_ofNat_of_zero_le h0; exact ix_tup_at h
end
end Dx
set_option linter.all false
open PySem Dx
local macro_rules | `(tactic| walk_at "size") => `(tactic| (focus (simp; omega)))
local macro_rules | `(tactic| walk_at "size") => `(tactic| (focus (simp; done)))
local macro_rules | `(tactic| walk_at "size") => `(tactic| (simp only [List.length_cons, List.length_nil, List.length_append, List.length_map]; omega))
local macro_rules | `(tactic| walk_at "size") => `(tactic| omega)
local macro_rules | `(tactic| walk_at "size") => `(tactic| with_reducible assumption)
local macro_rules | `(tactic| walk_at "dec") => `(tactic| (simp only [decide_eq_true_eq, decide_eq_false_iff_not, Bool.not_eq_true', Bool.not_eq_false', Bool.not_true, Bool.not_false, Bool.and_eq_true, Bool.or_eq_true, Bool.and_eq_false_iff, Bool.or_eq_false_iff, beq_iff_eq, beq_eq_false_iff_ne, bne_iff_ne, ne_eq, Bool.and_true, Bool.true_and, Bool.and_false, Bool.false_and, Bool.or_true, Bool.true_or, Bool.or_false, Bool.false_or, reduceCtorEq, List.length_cons, List.length_nil, List.length_append, List.length_map]; first | done | omega))
local macro_rules | `(tactic| walk_at "dec") => `(tactic| with_reducible assumption)
local macro_rules | `(tactic| walk_at "dec") => `(tactic| with_reducible exact rfl)
local macro_rules | `(tactic| walk_at "evop") => `(tactic| with_reducible assumption)
local macro_rules | `(tactic| walk_at "evop") => `(tactic| ((with_reducible apply rng1_ok) <;> walk_at "size"))
local macro_rules | `(tactic| walk_at "evop") => `(tactic| with_reducible exact parts_two)
local macro_rules | `(tactic| walk_at "evop") => `(tactic| with_reducible exact parts_one)
local macro_rules | `(tactic| walk_at "evop") => `(tactic| with_reducible exact zip2_tup)
local macro_rules | `(tactic| walk_at "evop") => `(tactic| with_reducible exact zip2_lst)
local macro_rules | `(tactic| walk_at "evop") => `(tactic| with_reducible exact tupOf_tup)
local macro_rules | `(tactic| walk_at "evop") => `(tactic| with_reducible exact tupOf_lst)
local macro_rules | `(tactic| walk_at "evop") => `(tactic| with_reducible exact listOf_fz)
local macro_rules | `(tactic| walk_at "evop") => `(tactic| with_reducible exact listOf_tup)
local macro_rules | `(tactic| walk_at "evop") => `(tactic| with_reducible exact listOf_lst)
local macro_rules | `(tactic| walk_at "evop") => `(tactic| with_reducible exact rev_tup)
local macro_rules | `(tactic| walk_at "evop") => `(tactic| with_reducible exact rev_lst)
local macro_rules | `(tactic| walk_at "evop") => `(tactic| with_reducible exact items_str)
local macro_rules | `(tactic| walk_at "evop") => `(tactic| with_reducible exact items_fz)
local macro_rules | `(tactic| walk_at "evop") => `(tactic| with_reducible exact items_tup)
local macro_rules | `(tactic| walk_at "evop") => `(tactic| with_reducible exact items_lst)
local macro_rules | `(tactic| walk_at "evop") => `(tactic| with_reducible exact abs1_int)
local macro_rules | `(tactic| walk_at "evop") => `(tactic| with_reducible exact max2_int)
local macro_rules | `(tactic| walk_at "evop") => `(tactic| with_reducible exact min2_int)
local macro_rules | `(tactic| walk_at "evop") => `(tactic| with_reducible exact int1_int)
local macro_rules | `(tactic| walk_at "evop") => `(tactic| with_reducible exact int1_bl)
local macro_rules | `(tactic| walk_at "evop") => `(tactic| with_reducible exact int1_f)
local macro_rules | `(tactic| walk_at "evop") => `(tactic| with_reducible exact int1_t)
local macro_rules | `(tactic| walk_at "evop") => `(tactic| with_reducible exact nt_bl)
local macro_rules | `(tactic| walk_at "evop") => `(tactic| with_reducible exact nt_f)
local macro_rules | `(tactic| walk_at "evop") => `(tactic| with_reducible exact nt_t)
local macro_rules | `(tactic| walk_at "evop") => `(tactic| ((with_reducible apply gt_lim); (with_reducible apply ev_lim); walk_at "size"; exact rfl))
local macro_rules | `(tactic| walk_at "evop") => `(tactic| ((with_reducible apply gt_isi); (with_reducible apply isi_of) <;> with_reducible first | exact ty_int | exact ty_bl | exact ty_str | exact ty_lst | exact ty_fz | exact ty_tup | exact ty_non | exact ist_ii | exact ist_bi | exact ist_si | exact ist_li | exact ist_ti | exact ist_ni | exact ist_ib | exact ist_bb | exact ist_sb | exact ist_lb | exact ist_tb | exact ist_nb | exact ist_is | exact ist_bs | exact ist_ss | exact ist_ls | exact ist_ts | exact ist_ns | exact ist_il | exact ist_bl | exact ist_sl | exact ist_ll | exact ist_tl | exact ist_nl | exact ist_it | exact ist_bt | exact ist_st | exact ist_lt | exact ist_tt | exact ist_nt))
local macro_rules | `(tactic| walk_at "evop") => `(tactic| ((with_reducible apply gt_truth); first | with_reducible exact truth_bl | with_reducible exact truth_int | with_reducible exact truth_non | with_reducible assumption))
local macro_rules | `(tactic| walk_at "evop") => `(tactic| ((with_reducible apply gt_len); first | with_reducible assumption | with_reducible exact len_lst | with_reducible exact len_tup | with_reducible exact len_fz | (apply len_str_ok; walk_at "size") | with_reducible assumption))
local macro_rules | `(tactic| walk_at "evop") => `(tactic| ((with_reducible apply gt_ix); first | with_reducible assumption | with_reducible exact ix0_lst | (apply ix_tup_int (by decide); exact rfl) | (apply ix_lst_int (by decide); exact rfl) | exact rfl))
local macro_rules | `(tactic| walk_at "evop") => `(tactic| ((with_reducible apply gt_ne); first | with_reducible assumption | with_reducible exact ne_int _ _ | with_reducible exact ne_str _ _))
local macro_rules | `(tactic| walk_at "evop") => `(tactic| ((with_reducible apply gt_eq); first | with_reducible assumption | with_reducible exact eq_int _ _ | with_reducible exact eq_str _ _))
local macro_rules | `(tactic| walk_at "evop") => `(tactic| with_reducible exact ge_int)
local macro_rules | `(tactic| walk_at "evop") => `(tactic| with_reducible exact gt_int)
local macro_rules | `(tactic| walk_at "evop") => `(tactic| with_reducible exact le_int)
local macro_rules | `(tactic| walk_at "evop") => `(tactic| with_reducible exact lt_int)
local macro_rules | `(tactic| walk_at "evop") => `(tactic| ((with_reducible apply fdiv_int) <;> first | omega | with_reducible assumption))
local macro_rules | `(tactic| walk_at "evop") => `(tactic| ((with_reducible apply mod_int); first | omega | with_reducible assumption))
local macro_rules | `(tactic| walk_at "evop") => `(tactic| ((with_reducible apply gt_mul); first | with_reducible assumption | exact mul_l (fits_of (by omega) (by omega)) | exact mul_r (fits_of (by omega) (by omega))))
local macro_rules | `(tactic| walk_at "evop") => `(tactic| with_reducible exact neg_int)
local macro_rules | `(tactic| walk_at "evop") => `(tactic| with_reducible exact iadd_int)
local macro_rules | `(tactic| walk_at "evop") => `(tactic| with_reducible exact sub_int)
local macro_rules | `(tactic| walk_at "evop") => `(tactic| ((with_reducible apply gt_sl); first | with_reducible assumption | ((with_reducible apply sl_str_ok); first | (decide +kernel) | walk_at "size")))
local macro_rules | `(tactic| walk_at "evop") => `(tactic| ((with_reducible apply gt_add); first | with_reducible assumption | with_reducible exact add_int | ((with_reducible apply add_lst_ok); walk_at "size") | ((with_reducible apply add_tup_ok); walk_at "size") | ((with_reducible apply add_str_ok); first | (decide +kernel) | walk_at "size")))
local macro_rules | `(tactic| walk_at "ev1") => `(tactic| (show (_ : Nat) ≤ _; walk_at "size"))
local macro_rules | `(tactic| walk_at "ev1") => `(tactic| (show (_ : Nat) < _; first | (focus (simp; done)) | omega))
local macro_rules | `(tactic| walk_at "ev1") => `(tactic| walk_at "evop")
local macro_rules | `(tactic| walk_at "ev1") => `(tactic| with_reducible apply ev_lc_yes)
local macro_rules | `(tactic| walk_at "ev1") => `(tactic| with_reducible exact ev_lc_nil)
local macro_rules | `(tactic| walk_at "ev1") => `(tactic| with_reducible apply ev_bind)
local macro_rules | `(tactic| walk_at "ev1") => `(tactic| with_reducible apply ev_branch)
local macro_rules | `(tactic| walk_at "ev1") => `(tactic| with_reducible exact ev_outL_err)
local macro_rules | `(tactic| walk_at "ev1") => `(tactic| with_reducible exact ev_outL_ret)
local macro_rules | `(tactic| walk_at "ev1") => `(tactic| with_reducible exact ev_out_err)
local macro_rules | `(tactic| walk_at "ev1") => `(tactic| with_reducible exact ev_out_nxt)
local macro_rules | `(tactic| walk_at "ev1") => `(tactic| with_reducible exact ev_out_ret)
local macro_rules | `(tactic| walk_at "ev1") => `(tactic| with_reducible apply ev_padC)
local macro_rules | `(tactic| walk_at "ev1") => `(tactic| with_reducible apply ev_padN)
local macro_rules | `(tactic| walk_at "ev1") => `(tactic| with_reducible exact ev_pad0)
local macro_rules | `(tactic| walk_at "ev1") => `(tactic| ((with_reducible apply ev_fnSemL); (focus (simp; done))))
local macro_rules | `(tactic| walk_at "ev1") => `(tactic| ((with_reducible apply ev_fnSem); (focus (simp; done))))
local macro_rules | `(tactic| walk_at "ev1") => `(tactic| (with_reducible apply ev_sOwn))
local macro_rules | `(tactic| walk_at "ev1") => `(tactic| ((with_reducible apply ev_aug); focus exact rfl))
local macro_rules | `(tactic| walk_at "ev1") => `(tactic| ((with_reducible apply ev_lst); focus exact rfl))
local macro_rules | `(tactic| walk_at "ev1") => `(tactic| ((with_reducible apply ev_appF); focus exact rfl))
local macro_rules | `(tactic| walk_at "ev1") => `(tactic| ((with_reducible apply ev_app); focus exact rfl))
local macro_rules | `(tactic| walk_at "ev1") => `(tactic| ((with_reducible apply gt_look); exact rfl))
local macro_rules | `(tactic| walk_at "ev1") => `(tactic| (with_reducible apply ev_meth))
local macro_rules | `(tactic| walk_at "ev1") => `(tactic| with_reducible apply ev_chain)
local macro_rules | `(tactic| walk_at "ev1") => `(tactic| ((with_reducible apply ev_chain_f); iterate 3 focus (walk_at "ev"); focus (walk_at "dec")))
local macro_rules | `(tactic| walk_at "ev1") => `(tactic| ((with_reducible apply ev_retV); exact rfl))
local macro_rules | `(tactic| walk_at "ev1") => `(tactic| with_reducible apply ev_methL)
local macro_rules | `(tactic| walk_at "ev1") => `(tactic| with_reducible apply ev_isC_obj)
local macro_rules | `(tactic| walk_at "ev1") => `(tactic| with_reducible apply ev_allS)
local macro_rules | `(tactic| walk_at "ev1") => `(tactic| with_reducible apply ev_make)
local macro_rules | `(tactic| walk_at "ev1") => `(tactic| with_reducible apply ev_setAll)
local macro_rules | `(tactic| walk_at "ev1") => `(tactic| with_reducible exact ev_setAllN)
local macro_rules | `(tactic| walk_at "ev1") => `(tactic| with_reducible exact ev_setAll0)
local macro_rules | `(tactic| walk_at "ev1") => `(tactic| with_reducible apply ev_tgt_two)
local macro_rules | `(tactic| walk_at "ev1") => `(tactic| with_reducible apply ev_retL)
local macro_rules | `(tactic| walk_at "ev1") => `(tactic| with_reducible apply ev_drop)
local macro_rules | `(tactic| walk_at "ev1") => `(tactic| with_reducible exact ev_raise)
local macro_rules | `(tactic| walk_at "ev1") => `(tactic| with_reducible apply ev_for)
local macro_rules | `(tactic| walk_at "ev1") => `(tactic| with_reducible apply ev_wipe)
local macro_rules | `(tactic| walk_at "ev1") => `(tactic| with_reducible exact ev_wipe0)
local macro_rules | `(tactic| walk_at "ev1") => `(tactic| with_reducible apply ev_lc)
local macro_rules | `(tactic| walk_at "ev1") => `(tactic| with_reducible apply ev_slL)
local macro_rules | `(tactic| walk_at "ev1") => `(tactic| with_reducible apply ev_sl)
local macro_rules | `(tactic| walk_at "ev1") => `(tactic| with_reducible exact ev_nopart)
local macro_rules | `(tactic| walk_at "ev1") => `(tactic| with_reducible apply ev_part)
local macro_rules | `(tactic| walk_at "ev1") => `(tactic| with_reducible exact ev_yes)
local macro_rules | `(tactic| walk_at "ev1") => `(tactic| with_reducible apply ev_rev)
local macro_rules | `(tactic| walk_at "ev1") => `(tactic| with_reducible apply ev_items)
local macro_rules | `(tactic| walk_at "ev1") => `(tactic| with_reducible apply ev_callL)
local macro_rules | `(tactic| walk_at "ev1") => `(tactic| with_reducible apply ev_L)
local macro_rules | `(tactic| walk_at "ev1") => `(tactic| with_reducible apply ev_tup)
local macro_rules | `(tactic| walk_at "ev1") => `(tactic| with_reducible apply ev_un)
local macro_rules | `(tactic| walk_at "ev1") => `(tactic| with_reducible apply ev_eIf)
local macro_rules | `(tactic| walk_at "ev1") => `(tactic| with_reducible apply ev_orV_p)
local macro_rules | `(tactic| walk_at "ev1") => `(tactic| with_reducible apply ev_andV_p)
local macro_rules | `(tactic| walk_at "ev1") => `(tactic| with_reducible apply ev_orB_p)
local macro_rules | `(tactic| walk_at "ev1") => `(tactic| with_reducible apply ev_andB_p)
local macro_rules | `(tactic| walk_at "ev1") => `(tactic| with_reducible apply ev_notB)
local macro_rules | `(tactic| walk_at "ev1") => `(tactic| with_reducible apply ev_truth)
local macro_rules | `(tactic| walk_at "ev1") => `(tactic| ((with_reducible apply gt_pick); first | (apply ev_pick_t; focus (walk_at "dec")) | (apply ev_pick_f; focus (walk_at "dec")) | with_reducible first | apply ev_pick_and | apply ev_pick_or | apply ev_pick_andV | apply ev_pick_orV))
local macro_rules | `(tactic| walk_at "ev1") => `(tactic| with_reducible apply ev_ret)
local macro_rules | `(tactic| walk_at "ev1") => `(tactic| with_reducible apply ev_sSet)
local macro_rules | `(tactic| walk_at "ev1") => `(tactic| with_reducible apply ev_sIf)
local macro_rules | `(tactic| walk_at "ev1") => `(tactic| with_reducible exact ev_next)
local macro_rules | `(tactic| walk_at "ev1") => `(tactic| with_reducible exact ev_then_err)
local macro_rules | `(tactic| walk_at "ev1") => `(tactic| with_reducible exact ev_then_ret)
local macro_rules | `(tactic| walk_at "ev1") => `(tactic| with_reducible apply ev_then_nxt)
local macro_rules | `(tactic| walk_at "ev1") => `(tactic| with_reducible apply ev_then)
local macro_rules | `(tactic| walk_at "ev1") => `(tactic| with_reducible apply ev_setS)
local macro_rules | `(tactic| walk_at "ev1") => `(tactic| with_reducible exact ev_set0)
local macro_rules | `(tactic| walk_at "ev1") => `(tactic| with_reducible apply ev_test)
local macro_rules | `(tactic| walk_at "ev1") => `(tactic| with_reducible apply ev_call)
local macro_rules | `(tactic| walk_at "ev1") => `(tactic| with_reducible exact ev_nil)
local macro_rules | `(tactic| walk_at "ev1") => `(tactic| with_reducible apply ev_cons)
local macro_rules | `(tactic| walk_at "ev1") => `(tactic| with_reducible apply ev_bin)
local macro_rules | `(tactic| walk_at "ev1") => `(tactic| ((with_reducible apply gt_seq); with_reducible assumption))
local macro_rules | `(tactic| walk_at "ev1") => `(tactic| ((with_reducible apply ev_var); exact rfl))
local macro_rules | `(tactic| walk_at "ev1") => `(tactic| with_reducible exact ok_ok)
local macro_rules | `(tactic| walk_at "ev1") => `(tactic| with_reducible exact ev_c)
local macro_rules | `(tactic| walk_at "ev") => `(tactic| repeat walk_at "ev1")
set_option Elab.async false
set_option linter.all false
set_option maxRecDepth 100000
set_option maxHeartbeats 4000000
namespace Dx
open PySem L2
def S (l : List Nat) : Str := ⟨l.toArray⟩
theorem S_len (l : List Nat) : (S l).length = l.length := by simp [S, Str.length]
theorem S_list (l : List Nat) : (S l).cps.toList = l := by simp [S]
theorem S_add (a b : List Nat) : S a ++ S b = S (a ++ b) := by
  show (⟨a.toArray ++ b.toArray⟩ : Str) = ⟨(a ++ b).toArray⟩
  rw [List.append_toArray]
theorem S_inj {a b : List Nat} (h : S a = S b) : a = b := by rw [← S_list a, h, S_list]
theorem S_of (z : Str) : z = S z.cps.toList := by simp [S]
theorem S_eq {a b : List Nat} : (S a == S b) = decide (a = b) := by
  by_cases h : a = b
  · subst h; simp
  · rw [decide_eq_false h, beq_eq_false_iff_ne]; exact fun e => h (S_inj e)
theorem add_S {a b : List Nat} (h : a.length + b.length ≤ 100000) : D.add (.str (S a)) (.str (S b)) = .ok (.str (S (a ++ b))) := by
  rw [add_str, S_len, S_len, lim_ok h, S_add]
theorem len_S {l : List Nat} (h : l.length ≤ 100000) : D.len [.str (S l)] = .ok (.int l.length) := by
  rw [len_str, S_len, lim_ok h]
theorem ix_S {l : List Nat} {i : Nat} (h : i < l.length) (h2 : l.length ≤ 100000) : D.ix (.str (S l)) (.int (i : Int)) = .ok (.str (S [l.getD i 0])) := by
  show lim (S l).length _ = _
  rw [S_len, lim_ok h2, S_list, L2.atI_nat (List.getElem?_eq_getElem h)]
  simp [List.getD_eq_getElem?_getD, List.getElem?_eq_getElem h, S]
theorem sIx_nat (n d p : Nat) : HT.sIx n d (some (p : Int)) = min p n := by
  unfold HT.sIx
  dsimp only
  rw [if_neg (by omega)]
  rfl
theorem sIx_none (n d : Nat) : HT.sIx n d none = d := rfl
theorem sl_to {l : List Nat} {p : Int} (h0 : 0 ≤ p) (h2 : l.length ≤ 100000) : D.sl (.str (S l)) none (some p) = .ok (.str (S (l.take p.toNat))) := by
  obtain ⟨p, rfl⟩ := Int.eq_ofNat_of_zero_le h0
  show lim (S l).length _ = _
  rw [S_len, lim_ok h2]
  unfold L2.cutS
  rw [sIx_nat, sIx_none, S_len, S_list, List.drop_zero]
  show Res.ok (D.str (S _)) = _
  rw [Nat.sub_zero]
  congr 3
  rw [List.take_eq_take_iff]
  simp
theorem sl_from {l : List Nat} {p : Int} (h0 : 0 ≤ p) (h2 : l.length ≤ 100000) : D.sl (.str (S l)) (some p) none = .ok (.str (S (l.drop p.toNat))) := by
  obtain ⟨p, rfl⟩ := Int.eq_ofNat_of_zero_le h0
  show lim (S l).length _ = _
  rw [S_len, lim_ok h2]
  unfold L2.cutS
  rw [sIx_nat, sIx_none, S_len, S_list]
  show Res.ok (D.str (S _)) = _
  congr 3
  rw [List.take_of_length_le (by rw [List.length_drop]; omega)]
  show List.drop (min p l.length) l = List.drop p l
  by_cases h : p ≤ l.length
  · rw [Nat.min_eq_left h]
  · rw [Nat.min_eq_right (by omega), List.drop_eq_nil_of_le (Nat.le_refl _), List.drop_eq_nil_of_le (by omega)]
theorem slD_to {xs : List D} {p : Int} (h0 : 0 ≤ p) : D.sl (.lst xs) none (some p) = .ok (.lst (xs.take p.toNat)) := by
  obtain ⟨p, rfl⟩ := Int.eq_ofNat_of_zero_le h0
  show Res.ok (D.lst (D.cutD xs none (some (p : Int)))) = _
  unfold D.cutD
  rw [sIx_nat, sIx_none, List.drop_zero, Nat.sub_zero]
  congr 2
  rw [List.take_eq_take_iff]
  simp
theorem slD_from {xs : List D} {p : Int} (h0 : 0 ≤ p) : D.sl (.lst xs) (some p) none = .ok (.lst (xs.drop p.toNat)) := by
  obtain ⟨p, rfl⟩ := Int.eq_ofNat_of_zero_le h0
  show Res.ok (D.lst (D.cutD xs (some (p : Int)) none)) = _
  unfold D.cutD
  rw [sIx_nat, sIx_none]
  congr 2
  rw [List.take_of_length_le (by rw [List.length_drop]; omega)]
  show List.drop (min p xs.length) xs = List.drop p xs
  by_cases h : p ≤ xs.length
  · rw [Nat.min_eq_left h]
  · rw [Nat.min_eq_right (by omega), List.drop_eq_nil_of_le (Nat.le_refl _), List.drop_eq_nil_of_le (by omega)]
theorem ix_mem {xs : List D} {i : Int} (h0 : 0 ≤ i) (h1 : i < xs.length) : ∃ x, x ∈ xs ∧ D.ix (.lst xs) (.int i) = .ok x := by
  have hl : i.toNat < xs.length := by omega
  exact ⟨xs[i.toNat], List.getElem_mem hl, ix_lst_int h0 (List.getElem?_eq_getElem hl)⟩
def az (c : Nat) : Bool := decide (97 ≤ c) && decide (c ≤ 122)
structure nm (l : List Nat) : Prop where
  lo : 1 ≤ l.length
  hi : l.length ≤ 8
  az : ∀ c ∈ l, az c = true
def alphaL : List Nat := List.range' 97 26
theorem alpha_toList : ("abcdefghijklmnopqrstuvwxyz" : Str).cps.toList = List.range' 97 26 := by decide +kernel
theorem alpha_S : ("abcdefghijklmnopqrstuvwxyz" : Str) = S alphaL := by rw [S_of "abcdefghijklmnopqrstuvwxyz", alpha_toList]; rfl
theorem empty_S : ("" : Str) = S [] := by decide +kernel
theorem ix_alpha (x : Int) : ∃ c, az c = true ∧ D.ix (.str "abcdefghijklmnopqrstuvwxyz") (.int (x % 26)) = .ok (.str (S [c])) := by
  have h1 := Int.emod_nonneg x (b := 26) (by decide)
  have h2 := Int.emod_lt_of_pos x (b := 26) (by decide)
  obtain ⟨i, hi⟩ := Int.eq_ofNat_of_zero_le h1
  rw [hi] at h2 ⊢
  have hl : i < alphaL.length := by simp [alphaL]; omega
  refine ⟨alphaL.getD i 0, ?_, by rw [alpha_S]; exact ix_S hl (by decide)⟩
  have hm : alphaL.getD i 0 ∈ alphaL := by
    rw [List.getD_eq_getElem?_getD, List.getElem?_eq_getElem hl]
    exact List.getElem_mem hl
  unfold alphaL at hm
  rw [List.mem_range'] at hm
  obtain ⟨j, hj, e⟩ := hm
  unfold alphaL
  unfold az
  rw [e]
  simp
  omega
theorem okdA_all (n : Nat) : ∀ xs : List D, D.okdA n xs = xs.all (D.okd n)
  | [] => by simp [D.okdA]
  | x :: xs => by rw [D.okdA, okdA_all n xs, List.all_cons]
theorem okd_lst {n : Nat} {xs : List D} (h : ∀ x ∈ xs, D.okd n x = true) : D.okd (n + 1) (.lst xs) = true := by
  rw [D.okd, okdA_all]; exact List.all_eq_true.mpr h
theorem okd_tup {n : Nat} {xs : List D} (h : ∀ x ∈ xs, D.okd n x = true) : D.okd (n + 1) (.tup xs) = true := by
  rw [D.okd, okdA_all]; exact List.all_eq_true.mpr h
theorem okd_int {n : Nat} {i : Int} : D.okd n (.int i) = true := by cases n <;> rfl
theorem okd_bl {n : Nat} {i : Bool} : D.okd n (.bl i) = true := by cases n <;> rfl
theorem okd_non {n : Nat} : D.okd n .non = true := by cases n <;> rfl
def okS (l : List Nat) : Prop := ∀ c ∈ l, c < 1114112
theorem okd_S {l : List Nat} {n : Nat} (h : okS l) : D.okd n (.str (S l)) = true := by
  cases n <;> (show (S l).cps.all (fun x => decide (x < 1114112)) = true; rw [Array.all_eq_true_iff_forall_mem]; intro c m; exact decide_eq_true (h c (by simpa [S] using m)))
theorem nm.okS {l : List Nat} (h : nm l) : okS l := fun c m => by
  have := h.az c m
  unfold Dx.az at this
  simp at this
  omega
theorem okS.app {a b : List Nat} (h : okS a) (h2 : okS b) : okS (a ++ b) := fun c m => (List.mem_append.mp m).elim (h c) (h2 c)
theorem okS.take {a : List Nat} (h : okS a) (n : Nat) : okS (a.take n) := fun c m => h c (List.mem_of_mem_take m)
theorem okS.drop {a : List Nat} (h : okS a) (n : Nat) : okS (a.drop n) := fun c m => h c (List.mem_of_mem_drop m)
theorem exN {P : Sl → Prop} {X : Out} {e : Sl} (h : X = .nxt e) (h2 : P e) : ∃ e1, X = .nxt e1 ∧ P e1 := ⟨e, h, h2⟩
theorem exR {P : D → Prop} {X : Res D} {d : D} (h : X = .ok d) (h2 : P d) : ∃ d, X = .ok d ∧ P d := ⟨d, h, h2⟩
theorem for_inv {tg : Tgt} {s : Sl → Out} (I : Nat → Sl → Prop) : ∀ {ds : List D} (n : Nat) {env : Sl}, I n env →
    (∀ k d e, ds[k]? = some d → I (n + k) e → ∃ ps e1, parts tg d = .ok ps ∧ s (setAll tg.slots ps e) = .nxt e1 ∧ I (n + k + 1) e1) → ∃ e1, forGo tg s ds env = .nxt e1 ∧ I (n + ds.length) e1
  | [], n, env, h0, _ => ⟨env, rfl, h0⟩
  | d :: ds, n, env, h0, st => by
    obtain ⟨ps, e1, h1, h2, h3⟩ := st 0 d env rfl h0
    obtain ⟨e2, h4, h5⟩ := for_inv I (ds := ds) (n + 1) (env := e1) h3 fun k d e hk hi => by
      have := st (k + 1) d e (by simpa using hk) (by rwa [show n + (k + 1) = n + 1 + k by omega])
      rwa [show n + (k + 1) + 1 = n + 1 + k + 1 by omega] at this
    refine ⟨e2, ?_, by rw [List.length_cons, show n + (ds.length + 1) = n + 1 + ds.length by omega]; exact h5⟩
    unfold forGo
    rw [h1]
    show (s (setAll tg.slots ps env)).loop (forGo tg s ds) = _
    rw [h2]
    exact h4
/-- over range(n) -/
theorem for_range {i : Nat} {s : Sl → Out} (I : Nat → Sl → Prop) {m : Nat} {env : Sl} (h0 : I 0 env)
    (st : ∀ (k : Nat) e, k < m → I k e → ∃ e1, s (e.set i (some (.int (k : Int)))) = .nxt e1 ∧ I (k + 1) e1) : ∃ e1, forGo (.one i) s ((List.range m).map fun (k : Nat) => .int k) env = .nxt e1 ∧ I m e1 := by
  obtain ⟨e1, h1, h2⟩ := for_inv (tg := .one i) (s := s) I (ds := (List.range m).map fun (k : Nat) => .int k) 0 (env := env) h0 fun k d e hk hi => by
    rw [List.getElem?_map] at hk
    have hlt : k < m := by
      by_cases h : k < m
      · exact h
      · rw [List.getElem?_eq_none (by simp; omega)] at hk; cases hk
    rw [List.getElem?_range hlt] at hk
    cases hk
    obtain ⟨e1, a, b⟩ := st k e hlt (by simpa using hi)
    exact ⟨_, e1, rfl, a, by simpa using b⟩
  exact ⟨e1, h1, by simpa using h2⟩
theorem lc_all {i : Nat} {f : EE} {base : Sl} {γ : D → D} : ∀ {ds : List D}, (∀ d ∈ ds, f (base.set i (some d)) = .ok (γ d)) → lcGo (.one i) eYes f base ds = .ok (ds.map γ)
  | [], _ => rfl
  | d :: ds, h => by
    rw [lcGo_one, h d List.mem_cons_self, eYes_ap, consR_t, lc_all fun c m => h c (List.mem_cons_of_mem _ m)]
    rfl
theorem lc_filter {i : Nat} {t : EB} {f : EE} {base : Sl} {γ : D → D} {p : D → Bool} : ∀ {ds : List D}, (∀ d ∈ ds, t (base.set i (some d)) = .ok (p d) ∧ (p d = true → f (base.set i (some d)) = .ok (γ d))) → lcGo (.one i) t f base ds = .ok ((ds.filter p).map γ)
  | [], _ => rfl
  | d :: ds, h => by
    have h1 := h d List.mem_cons_self
    have ih := lc_filter (ds := ds) fun c m => h c (List.mem_cons_of_mem _ m)
    rw [lcGo_one, h1.1]
    cases q : p d with
    | true => rw [h1.2 q, consR_t, ih, List.filter_cons_of_pos q]; rfl
    | false => rw [consR_f, ih, List.filter_cons_of_neg (by simp [q])]
end Dx
set_option Elab.async false
set_option linter.all false
set_option maxRecDepth 100000
set_option maxHeartbeats 4000000
namespace My
open PySem PySem.Spec PyProof.Rows L2 Dx
def topS (i : Nat) : Stmt := PySem.Challenge.pw_tillbasket_k02_shops_refused.main.body.getD i (.Pass ⟨0, 0, 0, 0⟩)
def inC : Stmt → Nat → Stmt
  | .ClassDef _ _ _ b _ _ _ _ _ _ _, i => b.getD i (.Pass ⟨0, 0, 0, 0⟩)
  | _, _ => .Pass ⟨0, 0, 0, 0⟩
def csE : List Str := ["BadKinds", "BadName", "Twice", "BadPrice", "BadBasket", "TooMany", "BadOffer", "NoKind", "NoOffer"]
def excSub (c y : Str) : Bool := decide (c = y) || decide (y = "TillError")
structure Fx (P : Program) (w : World) (K : PySem.W.Frag) (mg : Str → Option Value) (base : Heap) (tb : List Addr) : Prop where
  z_ValueError : mg "ValueError" = none
  z_all : mg "all" = none
  z_bool : mg "bool" = none
  z_int : mg "int" = none
  z_isinstance : mg "isinstance" = none
  z_len : mg "len" = none
  z_list : mg "list" = none
  z_max : mg "max" = none
  z_range : mg "range" = none
  z_str : mg "str" = none
  z_tuple : mg "tuple" = none
  g_HIGHEST_PRICE : ∃ t, mg "HIGHEST_PRICE" = some (Value.int 100000 t)
  g_LONGEST_NAME : ∃ t, mg "LONGEST_NAME" = some (Value.int 8 t)
  g_MOST_KINDS : ∃ t, mg "MOST_KINDS" = some (Value.int 5 t)
  xd_BadKinds : ExcD K mg "BadKinds"
  xd_BadName : ExcD K mg "BadName"
  xd_BadPrice : ExcD K mg "BadPrice"
  xd_NoKind : ExcD K mg "NoKind"
  xd_Twice : ExcD K mg "Twice"
  gx_BadBasket : mg "BadBasket" = some (.ref (He.ga K "BadBasket"))
  gx_BadKinds : mg "BadKinds" = some (.ref (He.ga K "BadKinds"))
  gx_BadName : mg "BadName" = some (.ref (He.ga K "BadName"))
  gx_BadOffer : mg "BadOffer" = some (.ref (He.ga K "BadOffer"))
  gx_BadPrice : mg "BadPrice" = some (.ref (He.ga K "BadPrice"))
  gx_NoKind : mg "NoKind" = some (.ref (He.ga K "NoKind"))
  gx_NoOffer : mg "NoOffer" = some (.ref (He.ga K "NoOffer"))
  gx_Shop : mg "Shop" = some (.ref (He.ga K "Shop"))
  gx_TillError : mg "TillError" = some (.ref (He.ga K "TillError"))
  gx_TooMany : mg "TooMany" = some (.ref (He.ga K "TooMany"))
  gx_Twice : mg "Twice" = some (.ref (He.ga K "Twice"))
  ci_Shop : ClsIs K "Shop"
  na_Shop_names : NoAttr K (He.ga K "Shop") "names"
  na_Shop_prices : NoAttr K (He.ga K "Shop") "prices"
  gcs : ∀ c ∈ csE, mg c = some (.ref (He.ga K c))
  exm : ∀ c ∈ csE, PySem.W.exmOne K (.ref (He.ga K c)) (.ref (He.ga K "TillError")) = some true
  xc : ∀ c ∈ csE, ExcC K (He.ga K c)
  kt : ∀ c ∈ csE, ∀ y ∈ [("TillError" : Str), ("BadKinds" : Str), ("BadName" : Str), ("Twice" : Str), ("BadPrice" : Str), ("BadBasket" : Str), ("TooMany" : Str), ("BadOffer" : Str), ("NoKind" : Str), ("NoOffer" : Str)], PySem.W.kitOne K (.ref (He.ga K c)) (.ref (He.ga K y)) = some (excSub c y)
  ktV : ∀ c ∈ csE, PySem.W.kitOne K (.ref (He.ga K c)) (.type "ValueError") = some true
section
variable {P : Program} {w : World} {K : PySem.W.Frag} {mg : Str → Option Value} {base : Heap} {tb : List Addr}
abbrev s_l_cell_at : Stmt := topS 23
def n_l_cell_at : List Str := ["_law_script", "_law_k"]
theorem sc_l_cell_at : FnScope n_l_cell_at ["_law_script", "_law_k"] (defScope s_l_cell_at) := ⟨rfl, rfl, rfl, by decide +kernel, rfl, by decide +kernel, by decide +kernel⟩
def f_l_cell_at : Sl → Out :=
  sSeq (sIf (eTest (eBin D.lt (eVar 1) (eCall (eCons (eVar 0) (eNil)) D.len)))
  (sRet (eBin D.ix (eVar 0) (eVar 1)))
  (sNext))
  (sRet (eC (.int 0)))
def F_l_cell_at : List D → Res D := fnSem 2 f_l_cell_at
theorem ok_l_cell_at (T : Fx P w K mg base tb) {f : Addr} {fd : FuncData} (F : FunD K "_law_cell_at" "_law_cell_at" (defArgs s_l_cell_at) (defBody s_l_cell_at) (defScope s_l_cell_at) [] [] f fd)  : FnOk P w K mg base (L2.CX P w) 1 f fd ["_law_script", "_law_k"] (SpF K mg tb 2 false F_l_cell_at) :=
  fn_ok (N := n_l_cell_at) F sc_l_cell_at (O' := []) fun cdv hcd A outer s H E hr nd tk hp =>
    dss_cons (ds_if (dt_lt (de_var 1) (de_len T.z_len (da_cons (de_var 0) (da_nil))))
      (dss_one (ds_ret (de_ix (de_var 0) (de_var 1))))
      (dss_nil))
      (dss_one (ds_ret (de_int)))
abbrev s_l_is_name : Stmt := topS 28
def n_l_is_name : List Str := ["_law_thing", "_law_sign"]
theorem sc_l_is_name : FnScope n_l_is_name ["_law_thing"] (defScope s_l_is_name) := ⟨rfl, rfl, rfl, by decide +kernel, rfl, by decide +kernel, by decide +kernel⟩
def g_l_is_name_1 : EE :=
  eVar 1
def t_l_is_name_1 : EB :=
  eTest (eBin D.nin (eVar 1) (eC (.str "abcdefghijklmnopqrstuvwxyz")))
def f_l_is_name : Sl → Out :=
  sSeq (sIf (eOrB (eNotB (eTruth (eCall (eCons (eVar 0) (eCons (eC (.raw (.ty "str"))) (eNil))) D.isi))) (eNotB (eTest (eChain D.le D.le (eC (.int 1)) (eCall (eCons (eVar 0) (eNil)) D.len) (eC (.int 8))))))
  (sRet (eC (.bl false)))
  (sNext))
  (sRet (eBin D.eq (eCall (eCons (eL (eLc (eItems (eVar 0)) (.one 1) [1] (t_l_is_name_1) (g_l_is_name_1))) (eNil)) D.len) (eC (.int 0))))
def F_l_is_name : List D → Res D := fnSem 2 f_l_is_name
theorem ok_l_is_name (T : Fx P w K mg base tb) {f : Addr} {fd : FuncData} (F : FunD K "_law_is_name" "_law_is_name" (defArgs s_l_is_name) (defBody s_l_is_name) (defScope s_l_is_name) [] [] f fd)  : FnOk P w K mg base (L2.CX P w) 1 f fd ["_law_thing"] (SpF K mg tb 1 false F_l_is_name) :=
  fn_ok (N := n_l_is_name) F sc_l_is_name (O' := []) fun cdv hcd A outer s H E hr nd tk hp =>
    dss_cons (ds_if (dt_bool (dw_or (dt_not (dt_truth (de_isi T.z_isinstance (da_cons (de_var 0) (da_cons (de_ty T.z_str) (da_nil)))))) (dw_or1 (dt_not (dt_chain opr_le opr_le op2_le op2_le (de_int) (de_len T.z_len (da_cons (de_var 0) (da_nil))) (de_int))))))
      (dss_one (ds_ret (de_bl)))
      (dss_nil))
      (dss_one (ds_ret (de_eq hr (de_len T.z_len (da_cons (de_ofL (dl_lcE (.one 1) rfl nd (di_any (de_var 0)) (blkOk_by (N := n_l_is_name) (sc := defScope s_l_is_name) (own := [("_law_sign", 1)]) (by decide +kernel)) (by decide) (fun _ _ _ _ _ => (pg_one 1 nd)) (fun _ _ _ _ _ => bt_one (dt_nin (de_var 1) (de_str))) (fun _ _ _ _ _ => de_var 1))) (da_nil))) (de_int))))
abbrev s_l_due : Stmt := topS 29
def n_l_due : List Str := ["_law_kinds_here", "_law_names", "_law_kind"]
theorem sc_l_due : FnScope n_l_due ["_law_kinds_here"] (defScope s_l_due) := ⟨rfl, rfl, rfl, by decide +kernel, rfl, by decide +kernel, by decide +kernel⟩
def b_l_due_1 : Sl → Out :=
  sSeq (sIf (eOrB (eNotB (eTruth (eCall (eCons (eVar 2) (eCons (eC (.raw (.ty "tuple"))) (eNil))) D.isi))) (eOrB (eTest (eBin D.ne (eCall (eCons (eVar 2) (eNil)) D.len) (eC (.int 2)))) (eNotB (eTruth (eCall (eCons (eBin D.ix (eVar 2) (eC (.int 0))) (eNil)) F_l_is_name)))))
  (sRet (eC (.str "name")))
  (sNext))
  (sSeq (sIf (eTest (eBin D.inn (eBin D.ix (eVar 2) (eC (.int 0))) (eVar 1)))
  (sRet (eC (.str "twice")))
  (sNext))
  (sSeq (sIf (eOrB (eNotB (eTruth (eCall (eCons (eBin D.ix (eVar 2) (eC (.int 1))) (eCons (eC (.raw (.ty "int"))) (eNil))) D.isi))) (eOrB (eTruth (eCall (eCons (eBin D.ix (eVar 2) (eC (.int 1))) (eCons (eC (.raw (.ty "bool"))) (eNil))) D.isi)) (eNotB (eTest (eChain D.le D.le (eC (.int 0)) (eBin D.ix (eVar 2) (eC (.int 1))) (eC (.int 100000)))))))
  (sRet (eC (.str "price")))
  (sNext))
  (sApp 1 (eBin D.ix (eVar 2) (eC (.int 0))))))
def f_l_due : Sl → Out :=
  sSeq (sIf (eOrB (eNotB (eTruth (eCall (eCons (eVar 0) (eCons (eC (.raw (.ty "list"))) (eNil))) D.isi))) (eNotB (eTest (eChain D.le D.le (eC (.int 1)) (eCall (eCons (eVar 0) (eNil)) D.len) (eC (.int 5))))))
  (sRet (eC (.str "kinds")))
  (sNext))
  (sSeq (sOwn 1 (eNil))
  (sSeq (sFor (eItems (eVar 0)) (.one 2)
  (b_l_due_1))
  (sRet (eC (.str "")))))
def F_l_due : List D → Res D := fnSem 3 f_l_due
theorem ok_l_due (T : Fx P w K mg base tb) {f : Addr} {fd : FuncData} (F : FunD K "_law_due" "_law_due" (defArgs s_l_due) (defBody s_l_due) (defScope s_l_due) [] [] f fd) (c_l_is_name : Callee P w K mg base tb "_law_is_name" 1 1 false F_l_is_name) : FnOk P w K mg base (L2.CX P w) 2 f fd ["_law_kinds_here"] (SpF K mg tb 1 false F_l_due) :=
  fn_ok (N := n_l_due) F sc_l_due (O' := []) fun cdv hcd A outer s H E hr nd tk hp =>
    dss_cons (ds_if (dt_bool (dw_or (dt_not (dt_truth (de_isi T.z_isinstance (da_cons (de_var 0) (da_cons (de_ty T.z_list) (da_nil)))))) (dw_or1 (dt_not (dt_chain opr_le opr_le op2_le op2_le (de_int) (de_len T.z_len (da_cons (de_var 0) (da_nil))) (de_int))))))
      (dss_one (ds_ret (de_str)))
      (dss_nil))
      (dss_cons (ds_own (i := 1) (by decide) (by decide) nd (dl_lst (da_nil)))
      (dss_cons (ds_for (.one 2) (by decide) (by decide) hp rfl (di_any (de_var 0)) (pg_one 2 nd)
      (dss_cons (ds_if (dt_bool (dw_or (dt_not (dt_truth (de_isi T.z_isinstance (da_cons (de_var 2) (da_cons (de_ty T.z_tuple) (da_nil)))))) (dw_or (dt_ne hr (de_len T.z_len (da_cons (de_var 2) (da_nil))) (de_int)) (dw_or1 (dt_not (dt_truth (de_call c_l_is_name hr tk (da_cons (de_ix (de_var 2) (de_int)) (da_nil)))))))))
      (dss_one (ds_ret (de_str)))
      (dss_nil))
      (dss_cons (ds_if (dt_in (de_ix (de_var 2) (de_int)) (de_var 1))
      (dss_one (ds_ret (de_str)))
      (dss_nil))
      (dss_cons (ds_if (dt_bool (dw_or (dt_not (dt_truth (de_isi T.z_isinstance (da_cons (de_ix (de_var 2) (de_int)) (da_cons (de_ty T.z_int) (da_nil)))))) (dw_or (dt_truth (de_isi T.z_isinstance (da_cons (de_ix (de_var 2) (de_int)) (da_cons (de_ty T.z_bool) (da_nil))))) (dw_or1 (dt_not (dt_chain opr_le opr_le op2_le op2_le (de_int) (de_ix (de_var 2) (de_int)) (de_int)))))))
      (dss_one (ds_ret (de_str)))
      (dss_nil))
      (dss_one (ds_app (i := 1) (by decide) (by decide) (de_ix (de_var 2) (de_int))))))))
      (dss_one (ds_ret (de_str)))))
abbrev s_l_faulty : Stmt := topS 27
def n_l_faulty : List Str := ["_law_kinds_here", "_law_kind", "_law_number_here", "_law_at", "_law_name", "_law_price", "_law_step", "_law_other", "_law_bad"]
theorem sc_l_faulty : FnScope n_l_faulty ["_law_kinds_here", "_law_kind", "_law_number_here"] (defScope s_l_faulty) := ⟨rfl, rfl, rfl, by decide +kernel, rfl, by decide +kernel, by decide +kernel⟩
def g_l_faulty_1 : EE :=
  eTup (eCons (eBin D.add (eC (.str "n")) (eSl (eVar 4) (eNoPart) (ePart (eC (.int 6))))) (eCons (eC (.int 3)) (eNil)))
def f_l_faulty : Sl → Out :=
  sSeq (sSet 3 (eBin D.mod (eVar 2) (eCall (eCons (eVar 0) (eNil)) D.len)))
  (sSeq (sTgt (.two 4 5) (eBin D.ix (eVar 0) (eVar 3)))
  (sSeq (sSet 6 (eBin D.add (eC (.int 1)) (eBin D.mod (eBin D.fdiv (eVar 2) (eC (.int 5))) (eCall (eCons (eC (.int 1)) (eCons (eBin D.sub (eCall (eCons (eVar 0) (eNil)) D.len) (eC (.int 1))) (eNil))) D.max2))))
  (sSeq (sSet 7 (eBin D.ix (eBin D.ix (eVar 0) (eBin D.mod (eBin D.add (eVar 3) (eVar 6)) (eCall (eCons (eVar 0) (eNil)) D.len))) (eC (.int 0))))
  (sSeq (sSet 8 (eL (eCons (eL (eCallL (eCons (eBin D.ix (eVar 0) (eVar 3)) (eNil)) D.listOf)) (eCons (eTup (eCons (eVar 4) (eCons (eVar 5) (eCons (eC (.int 0)) (eNil))))) (eCons (eTup (eCons (eC (.str "")) (eCons (eVar 5) (eNil)))) (eCons (eTup (eCons (eSl (eBin D.add (eVar 4) (eC (.str "abcdefgh"))) (eNoPart) (ePart (eC (.int 9)))) (eCons (eVar 5) (eNil)))) (eCons (eTup (eCons (eBin D.add (eC (.str "A")) (eSl (eVar 4) (eNoPart) (ePart (eC (.int 6))))) (eCons (eVar 5) (eNil)))) (eNil))))))))
  (sSeq (sSet 8 (eBin D.add (eVar 8) (eL (eCons (eTup (eCons (eC (.str "a b")) (eCons (eVar 5) (eNil)))) (eCons (eTup (eCons (eC (.int 7)) (eCons (eVar 5) (eNil)))) (eCons (eTup (eCons (eVar 7) (eCons (eVar 5) (eNil)))) (eCons (eTup (eCons (eVar 4) (eCons (eUn D.neg (eC (.int 1))) (eNil)))) (eNil))))))))
  (sSeq (sSet 8 (eBin D.add (eVar 8) (eL (eCons (eTup (eCons (eVar 4) (eCons (eBin D.add (eC (.int 100001)) (eBin D.fdiv (eVar 2) (eC (.int 5)))) (eNil)))) (eCons (eTup (eCons (eVar 4) (eCons (eC (.bl true)) (eNil)))) (eCons (eTup (eCons (eVar 4) (eCons (eC (.str "5")) (eNil)))) (eCons (eC .non) (eNil))))))))
  (sSeq (sIf (eTest (eBin D.lt (eVar 1) (eC (.int 13))))
  (sRet (eBin D.add (eBin D.add (eSl (eVar 0) (eNoPart) (ePart (eVar 3))) (eL (eCons (eBin D.ix (eVar 8) (eVar 1)) (eNil)))) (eSl (eVar 0) (ePart (eBin D.add (eVar 3) (eC (.int 1)))) (eNoPart))))
  (sNext))
  (sSeq (sIf (eTest (eBin D.eq (eVar 1) (eC (.int 13))))
  (sRet (eL (eNil)))
  (sNext))
  (sSeq (sIf (eTest (eBin D.eq (eVar 1) (eC (.int 14))))
  (sRet (eL (eLc (eItems (eL (eCons (eC (.str "a")) (eCons (eC (.str "b")) (eCons (eC (.str "c")) (eCons (eC (.str "d")) (eCons (eC (.str "e")) (eCons (eC (.str "f")) (eNil))))))))) (.one 4) [4] (eYes) (g_l_faulty_1))))
  (sNext))
  (sRet (eCall (eCons (eVar 0) (eNil)) D.tupOf)))))))))))
def F_l_faulty : List D → Res D := fnSem 9 f_l_faulty
theorem ok_l_faulty (T : Fx P w K mg base tb) {f : Addr} {fd : FuncData} (F : FunD K "_law_faulty" "_law_faulty" (defArgs s_l_faulty) (defBody s_l_faulty) (defScope s_l_faulty) [] [] f fd)  : FnOk P w K mg base (L2.CX P w) 1 f fd ["_law_kinds_here", "_law_kind", "_law_number_here"] (SpF K mg tb 3 false F_l_faulty) :=
  fn_ok (N := n_l_faulty) F sc_l_faulty (O' := []) fun cdv hcd A outer s H E hr nd tk hp =>
    dss_cons (ds_set (i := 3) (by decide) (by decide) nd (de_mod (de_var 2) (de_len T.z_len (da_cons (de_var 0) (da_nil)))))
      (dss_cons (ds_tgt (.two 4 5) (by decide) (by decide) (de_ix (de_var 0) (de_var 3)) (pg_two 4 5 rfl nd))
      (dss_cons (ds_set (i := 6) (by decide) (by decide) nd (de_add (de_int) (de_mod (de_fdiv (de_var 2) (de_int)) (de_max2 rfl T.z_max (da_cons (de_int) (da_cons (de_sub (de_len T.z_len (da_cons (de_var 0) (da_nil))) (de_int)) (da_nil)))))))
      (dss_cons (ds_set (i := 7) (by decide) (by decide) nd (de_ix (de_ix (de_var 0) (de_mod (de_add (de_var 3) (de_var 6)) (de_len T.z_len (da_cons (de_var 0) (da_nil))))) (de_int)))
      (dss_cons (ds_set (i := 8) (by decide) (by decide) nd (de_ofL (dl_lst (da_cons (de_ofL (dl_list T.z_list (da_cons (de_ix (de_var 0) (de_var 3)) (da_nil)))) (da_cons (de_tup (da_cons (de_var 4) (da_cons (de_var 5) (da_cons (de_int) (da_nil))))) (da_cons (de_tup (da_cons (de_str) (da_cons (de_var 5) (da_nil)))) (da_cons (de_tup (da_cons (de_sl (de_add (de_var 4) (de_str)) (dp_none) (dp_some (de_int))) (da_cons (de_var 5) (da_nil)))) (da_cons (de_tup (da_cons (de_add (de_str) (de_sl (de_var 4) (dp_none) (dp_some (de_int)))) (da_cons (de_var 5) (da_nil)))) (da_nil)))))))))
      (dss_cons (ds_set (i := 8) (by decide) (by decide) nd (de_add (de_var 8) (de_ofL (dl_lst (da_cons (de_tup (da_cons (de_str) (da_cons (de_var 5) (da_nil)))) (da_cons (de_tup (da_cons (de_int) (da_cons (de_var 5) (da_nil)))) (da_cons (de_tup (da_cons (de_var 7) (da_cons (de_var 5) (da_nil)))) (da_cons (de_tup (da_cons (de_var 4) (da_cons (de_neg (de_int)) (da_nil)))) (da_nil)))))))))
      (dss_cons (ds_set (i := 8) (by decide) (by decide) nd (de_add (de_var 8) (de_ofL (dl_lst (da_cons (de_tup (da_cons (de_var 4) (da_cons (de_add (de_int) (de_fdiv (de_var 2) (de_int))) (da_nil)))) (da_cons (de_tup (da_cons (de_var 4) (da_cons (de_bl) (da_nil)))) (da_cons (de_tup (da_cons (de_var 4) (da_cons (de_str) (da_nil)))) (da_cons (de_non) (da_nil)))))))))
      (dss_cons (ds_if (dt_lt (de_var 1) (de_int))
      (dss_one (ds_ret (de_add (de_add (de_sl (de_var 0) (dp_none) (dp_some (de_var 3))) (de_ofL (dl_lst (da_cons (de_ix (de_var 8) (de_var 1)) (da_nil))))) (de_sl (de_var 0) (dp_some (de_add (de_var 3) (de_int))) (dp_none)))))
      (dss_nil))
      (dss_cons (ds_if (dt_eq hr (de_var 1) (de_int))
      (dss_one (ds_ret (de_ofL (dl_lst (da_nil)))))
      (dss_nil))
      (dss_cons (ds_if (dt_eq hr (de_var 1) (de_int))
      (dss_one (ds_ret (de_ofL (dl_lcE (.one 4) rfl nd (di_any (de_ofL (dl_lst (da_cons (de_str) (da_cons (de_str) (da_cons (de_str) (da_cons (de_str) (da_cons (de_str) (da_cons (de_str) (da_nil)))))))))) (blkOk_by (N := n_l_faulty) (sc := defScope s_l_faulty) (own := [("_law_name", 4)]) (by decide +kernel)) (by decide) (fun _ _ _ _ _ => (pg_one 4 nd)) (fun _ _ _ _ _ => bt_nil) (fun _ _ _ _ _ => de_tup (da_cons (de_add (de_str) (de_sl (de_var 4) (dp_none) (dp_some (de_int)))) (da_cons (de_int) (da_nil))))))))
      (dss_nil))
      (dss_one (ds_ret (de_tuple T.z_tuple (da_cons (de_var 0) (da_nil))))))))))))))
abbrev s_l_number : Stmt := topS 24
def n_l_number : List Str := ["_law_script", "_law_k", "_law_base"]
theorem sc_l_number : FnScope n_l_number ["_law_script", "_law_k"] (defScope s_l_number) := ⟨rfl, rfl, rfl, by decide +kernel, rfl, by decide +kernel, by decide +kernel⟩
def f_l_number : Sl → Out :=
  sSeq (sIf (eTest (eBin D.eq (eCall (eCons (eVar 0) (eNil)) D.len) (eC (.int 0))))
  (sRet (eBin D.mul (eC (.int 5003)) (eVar 1)))
  (sNext))
  (sSeq (sSet 2 (eBin D.add (eBin D.add (eBin D.ix (eVar 0) (eBin D.mod (eVar 1) (eCall (eCons (eVar 0) (eNil)) D.len))) (eBin D.mul (eC (.int 7919)) (eBin D.fdiv (eVar 1) (eCall (eCons (eVar 0) (eNil)) D.len)))) (eBin D.mul (eC (.int 101)) (eVar 1))))
  (sRet (eBin D.mod (eBin D.mul (eVar 2) (eC (.int 48271))) (eC (.int 2147483647)))))
def F_l_number : List D → Res D := fnSem 3 f_l_number
theorem ok_l_number (T : Fx P w K mg base tb) {f : Addr} {fd : FuncData} (F : FunD K "_law_number" "_law_number" (defArgs s_l_number) (defBody s_l_number) (defScope s_l_number) [] [] f fd)  : FnOk P w K mg base (L2.CX P w) 1 f fd ["_law_script", "_law_k"] (SpF K mg tb 2 false F_l_number) :=
  fn_ok (N := n_l_number) F sc_l_number (O' := []) fun cdv hcd A outer s H E hr nd tk hp =>
    dss_cons (ds_if (dt_eq hr (de_len T.z_len (da_cons (de_var 0) (da_nil))) (de_int))
      (dss_one (ds_ret (de_mul (de_int) (de_var 1))))
      (dss_nil))
      (dss_cons (ds_set (i := 2) (by decide) (by decide) nd (de_add (de_add (de_ix (de_var 0) (de_mod (de_var 1) (de_len T.z_len (da_cons (de_var 0) (da_nil))))) (de_mul (de_int) (de_fdiv (de_var 1) (de_len T.z_len (da_cons (de_var 0) (da_nil)))))) (de_mul (de_int) (de_var 1))))
      (dss_one (ds_ret (de_mod (de_mul (de_var 2) (de_int)) (de_int)))))
abbrev s_l_name_by : Stmt := topS 25
def n_l_name_by : List Str := ["_law_script", "_law_k", "_law_some", "_law_alike", "_law_number_here", "_law_step", "_law_name", "_law_j", "_law_place_here", "_law_sign"]
theorem sc_l_name_by : FnScope n_l_name_by ["_law_script", "_law_k"] (defScope s_l_name_by) := ⟨rfl, rfl, rfl, by decide +kernel, rfl, by decide +kernel, by decide +kernel⟩
def b_l_name_by_1 : Sl → Out :=
  sSet 6 (eBin D.add (eVar 6) (eBin D.ix (eVar 2) (eBin D.mod (eBin D.add (eBin D.fdiv (eVar 4) (eC (.int 208))) (eBin D.mul (eVar 7) (eVar 5))) (eC (.int 26)))))
def f_l_name_by : Sl → Out :=
  sSeq (sSet 2 (eC (.str "abcdefghijklmnopqrstuvwxyz")))
  (sSeq (sSet 3 (eBin D.eq (eBin D.mod (eBin D.fdiv (eCall (eCons (eVar 0) (eCons (eC (.int 0)) (eNil))) F_l_cell_at) (eC (.int 5))) (eC (.int 2))) (eC (.int 1))))
  (sSeq (sSet 4 (eCall (eCons (eVar 0) (eCons (eBin D.add (eC (.int 1)) (eBin D.mul (eBin D.mul (eC (.int 3)) (eVar 1)) (eCall (eCons (eUn D.nt (eVar 3)) (eNil)) D.int1))) (eNil))) F_l_number))
  (sSeq (sSet 5 (eBin D.add (eC (.int 1)) (eBin D.mod (eBin D.fdiv (eVar 4) (eC (.int 5408))) (eC (.int 25)))))
  (sSeq (sSet 6 (eC (.str "")))
  (sSeq (sFor (eCallL (eCons (eBin D.add (eC (.int 1)) (eBin D.mod (eVar 4) (eC (.int 8)))) (eNil)) D.rng1) (.one 7)
  (b_l_name_by_1))
  (sSeq (sIf (eTruth (eVar 3))
  (sSeq (sSet 8 (eBin D.mod (eBin D.fdiv (eVar 4) (eC (.int 8))) (eCall (eCons (eVar 6) (eNil)) D.len)))
  (sSeq (sSet 9 (eBin D.ix (eVar 2) (eBin D.mod (eBin D.add (eBin D.fdiv (eVar 4) (eC (.int 64))) (eBin D.mul (eC (.int 5)) (eVar 1))) (eC (.int 26)))))
  (sSet 6 (eBin D.add (eBin D.add (eSl (eVar 6) (eNoPart) (ePart (eVar 8))) (eVar 9)) (eSl (eVar 6) (ePart (eBin D.add (eVar 8) (eC (.int 1)))) (eNoPart))))))
  (sNext))
  (sRet (eVar 6))))))))
def F_l_name_by : List D → Res D := fnSem 10 f_l_name_by
theorem ok_l_name_by (T : Fx P w K mg base tb) {f : Addr} {fd : FuncData} (F : FunD K "_law_name_by" "_law_name_by" (defArgs s_l_name_by) (defBody s_l_name_by) (defScope s_l_name_by) [] [] f fd) (c_l_cell_at : Callee P w K mg base tb "_law_cell_at" 1 2 false F_l_cell_at) (c_l_number : Callee P w K mg base tb "_law_number" 1 2 false F_l_number) : FnOk P w K mg base (L2.CX P w) 2 f fd ["_law_script", "_law_k"] (SpF K mg tb 2 false F_l_name_by) :=
  fn_ok (N := n_l_name_by) F sc_l_name_by (O' := []) fun cdv hcd A outer s H E hr nd tk hp =>
    dss_cons (ds_set (i := 2) (by decide) (by decide) nd (de_str))
      (dss_cons (ds_set (i := 3) (by decide) (by decide) nd (de_eq hr (de_mod (de_fdiv (de_call c_l_cell_at hr tk (da_cons (de_var 0) (da_cons (de_int) (da_nil)))) (de_int)) (de_int)) (de_int)))
      (dss_cons (ds_set (i := 4) (by decide) (by decide) nd (de_call c_l_number hr tk (da_cons (de_var 0) (da_cons (de_add (de_int) (de_mul (de_mul (de_int) (de_var 1)) (de_intc T.z_int (da_cons (de_not (de_var 3)) (da_nil))))) (da_nil)))))
      (dss_cons (ds_set (i := 5) (by decide) (by decide) nd (de_add (de_int) (de_mod (de_fdiv (de_var 4) (de_int)) (de_int))))
      (dss_cons (ds_set (i := 6) (by decide) (by decide) nd (de_str))
      (dss_cons (ds_for (.one 7) (by decide) (by decide) hp rfl (di_range1 T.z_range (da_cons (de_add (de_int) (de_mod (de_var 4) (de_int))) (da_nil))) (pg_one 7 nd)
      (dss_one (ds_set (i := 6) (by decide) (by decide) nd (de_add (de_var 6) (de_ix (de_var 2) (de_mod (de_add (de_fdiv (de_var 4) (de_int)) (de_mul (de_var 7) (de_var 5))) (de_int)))))))
      (dss_cons (ds_if (dt_truth (de_var 3))
      (dss_cons (ds_set (i := 8) (by decide) (by decide) nd (de_mod (de_fdiv (de_var 4) (de_int)) (de_len T.z_len (da_cons (de_var 6) (da_nil)))))
      (dss_cons (ds_set (i := 9) (by decide) (by decide) nd (de_ix (de_var 2) (de_mod (de_add (de_fdiv (de_var 4) (de_int)) (de_mul (de_int) (de_var 1))) (de_int))))
      (dss_one (ds_set (i := 6) (by decide) (by decide) nd (de_add (de_add (de_sl (de_var 6) (dp_none) (dp_some (de_var 8))) (de_var 9)) (de_sl (de_var 6) (dp_some (de_add (de_var 8) (de_int))) (dp_none)))))))
      (dss_nil))
      (dss_one (ds_ret (de_var 6)))))))))
abbrev s_l_kinds : Stmt := topS 26
def n_l_kinds : List Str := ["_law_script", "_law_kinds_here", "_law_names", "_law_k", "_law_number_here", "_law_name", "_law_price"]
theorem sc_l_kinds : FnScope n_l_kinds ["_law_script"] (defScope s_l_kinds) := ⟨rfl, rfl, rfl, by decide +kernel, rfl, by decide +kernel, by decide +kernel⟩
def b_l_kinds_1 : Sl → Out :=
  sSeq (sSet 4 (eCall (eCons (eVar 0) (eCons (eBin D.add (eBin D.mul (eC (.int 3)) (eVar 3)) (eC (.int 2))) (eNil))) F_l_number))
  (sSeq (sSet 5 (eCall (eCons (eVar 0) (eCons (eVar 3) (eNil))) F_l_name_by))
  (sSeq (sSet 6 (eBin D.mod (eBin D.fdiv (eVar 4) (eC (.int 1009))) (eC (.int 100))))
  (sSeq (sIf (eTest (eBin D.eq (eBin D.mod (eVar 4) (eC (.int 3))) (eC (.int 0))))
  (sSet 6 (eBin D.mod (eBin D.fdiv (eVar 4) (eC (.int 1009))) (eC (.int 100001))))
  (sNext))
  (sSeq (sIf (eTest (eBin D.inn (eVar 5) (eVar 2)))
  (sSet 5 (eBin D.add (eSl (eVar 5) (eNoPart) (ePart (eC (.int 7)))) (eBin D.ix (eC (.str "abcde")) (eVar 3))))
  (sNext))
  (sIf (eTest (eBin D.nin (eVar 5) (eVar 2)))
  (sSeq (sApp 2 (eVar 5))
  (sApp 1 (eTup (eCons (eVar 5) (eCons (eVar 6) (eNil))))))
  (sNext))))))
def f_l_kinds : Sl → Out :=
  sSeq (sOwn 1 (eNil))
  (sSeq (sOwn 2 (eNil))
  (sSeq (sFor (eCallL (eCons (eBin D.add (eC (.int 1)) (eBin D.mod (eCall (eCons (eVar 0) (eCons (eC (.int 0)) (eNil))) F_l_cell_at) (eC (.int 5)))) (eNil)) D.rng1) (.one 3)
  (b_l_kinds_1))
  (sRet (eVar 1))))
def F_l_kinds : List D → Res D := fnSem 7 f_l_kinds
theorem ok_l_kinds (T : Fx P w K mg base tb) {f : Addr} {fd : FuncData} (F : FunD K "_law_kinds" "_law_kinds" (defArgs s_l_kinds) (defBody s_l_kinds) (defScope s_l_kinds) [] [] f fd) (c_l_cell_at : Callee P w K mg base tb "_law_cell_at" 1 2 false F_l_cell_at) (c_l_name_by : Callee P w K mg base tb "_law_name_by" 2 2 false F_l_name_by) (c_l_number : Callee P w K mg base tb "_law_number" 1 2 false F_l_number) : FnOk P w K mg base (L2.CX P w) 3 f fd ["_law_script"] (SpF K mg tb 1 false F_l_kinds) :=
  fn_ok (N := n_l_kinds) F sc_l_kinds (O' := []) fun cdv hcd A outer s H E hr nd tk hp =>
    dss_cons (ds_own (i := 1) (by decide) (by decide) nd (dl_lst (da_nil)))
      (dss_cons (ds_own (i := 2) (by decide) (by decide) nd (dl_lst (da_nil)))
      (dss_cons (ds_for (.one 3) (by decide) (by decide) hp rfl (di_range1 T.z_range (da_cons (de_add (de_int) (de_mod (de_call c_l_cell_at hr tk (da_cons (de_var 0) (da_cons (de_int) (da_nil)))) (de_int))) (da_nil))) (pg_one 3 nd)
      (dss_cons (ds_set (i := 4) (by decide) (by decide) nd (de_call c_l_number hr tk (da_cons (de_var 0) (da_cons (de_add (de_mul (de_int) (de_var 3)) (de_int)) (da_nil)))))
      (dss_cons (ds_set (i := 5) (by decide) (by decide) nd (de_call c_l_name_by hr tk (da_cons (de_var 0) (da_cons (de_var 3) (da_nil)))))
      (dss_cons (ds_set (i := 6) (by decide) (by decide) nd (de_mod (de_fdiv (de_var 4) (de_int)) (de_int)))
      (dss_cons (ds_if (dt_eq hr (de_mod (de_var 4) (de_int)) (de_int))
      (dss_one (ds_set (i := 6) (by decide) (by decide) nd (de_mod (de_fdiv (de_var 4) (de_int)) (de_int))))
      (dss_nil))
      (dss_cons (ds_if (dt_in (de_var 5) (de_var 2))
      (dss_one (ds_set (i := 5) (by decide) (by decide) nd (de_add (de_sl (de_var 5) (dp_none) (dp_some (de_int))) (de_ix (de_str) (de_var 3)))))
      (dss_nil))
      (dss_one (ds_if (dt_nin (de_var 5) (de_var 2))
      (dss_cons (ds_app (i := 2) (by decide) (by decide) (de_var 5))
      (dss_one (ds_app (i := 1) (by decide) (by decide) (de_tup (da_cons (de_var 5) (da_cons (de_var 6) (da_nil)))))))
      (dss_nil)))))))))
      (dss_one (ds_ret (de_var 1)))))
abbrev s_p_Shop_place : Stmt := inC (topS 21) 1
def n_p_Shop_place : List Str := ["self", "name"]
theorem sc_p_Shop_place : FnScope n_p_Shop_place ["self", "name"] (defScope s_p_Shop_place) := ⟨rfl, rfl, rfl, by decide +kernel, rfl, by decide +kernel, by decide +kernel⟩
def f_p_Shop_place : Sl → Out :=
  sSeq (sIf (eOrB (eNotB (eTruth (eCall (eCons (eVar 1) (eCons (eC (.raw (.ty "str"))) (eNil))) D.isi))) (eTest (eBin D.nin (eVar 1) (eUn (D.fld "Shop" "names") (eVar 0)))))
  (sRaise "NoKind")
  (sNext))
  (sRet (eMethL D.index (eUn (D.fld "Shop" "names") (eVar 0)) (eVar 1)))
def F_p_Shop_place : List D → Res D := fnSem 2 f_p_Shop_place
theorem ok_p_Shop_place (T : Fx P w K mg base tb) {f : Addr} {fd : FuncData} (F : FunD K "place" "Shop.place" (defArgs s_p_Shop_place) (defBody s_p_Shop_place) (defScope s_p_Shop_place) [] [] f fd)  : FnOk P w K mg base (L2.CX P w) 1 f fd ["self", "name"] (SpF K mg tb 2 false F_p_Shop_place) :=
  fn_ok (N := n_p_Shop_place) F sc_p_Shop_place (O' := []) fun cdv hcd A outer s H E hr nd tk hp =>
    dss_cons (ds_if (dt_bool (dw_or (dt_not (dt_truth (de_isi T.z_isinstance (da_cons (de_var 1) (da_cons (de_ty T.z_str) (da_nil)))))) (dw_or1 (dt_nin (de_var 1) (de_fld (C0 := "Shop") (de_var 0) T.ci_Shop.cl T.na_Shop_names)))))
      (dss_one (ds_raise T.xd_NoKind rfl tk))
      (dss_nil))
      (dss_one (ds_ret (de_index (de_fld (C0 := "Shop") (de_var 0) T.ci_Shop.cl T.na_Shop_names) (de_var 1))))
abbrev s_l_one_class : Stmt := topS 30
def n_l_one_class : List Str := ["_law_e", "_law_told_here"]
theorem sc_l_one_class : FnScope n_l_one_class ["_law_e"] (defScope s_l_one_class) := ⟨rfl, rfl, rfl, by decide +kernel, rfl, by decide +kernel, by decide +kernel⟩
def f_l_one_class (c : Str) (a : Addr) : Sl → Out :=
  sSeq (sSet 1 (eL (eCons (eIsE a (excSub c "BadKinds") (eVar 0)) (eCons (eIsE a (excSub c "BadName") (eVar 0)) (eCons (eIsE a (excSub c "Twice") (eVar 0)) (eCons (eIsE a (excSub c "BadPrice") (eVar 0)) (eNil)))))))
  (sSeq (sSet 1 (eBin D.add (eVar 1) (eL (eCons (eIsE a (excSub c "BadBasket") (eVar 0)) (eCons (eIsE a (excSub c "TooMany") (eVar 0)) (eCons (eIsE a (excSub c "BadOffer") (eVar 0)) (eNil)))))))
  (sSeq (sSet 1 (eBin D.add (eVar 1) (eL (eCons (eIsE a (excSub c "NoKind") (eVar 0)) (eCons (eIsE a (excSub c "NoOffer") (eVar 0)) (eNil))))))
  (sRet (eAndV (eBin D.eq (eMethL D.countB (eVar 1) (eC (.bl true))) (eC (.int 1))) (eAndV (eIsE a (excSub c "TillError") (eVar 0)) (eIsE a true (eVar 0)))))))
def F_l_one_class (c : Str) : Res D := outRes (f_l_one_class c 0 (initEnv 2 0 []))
theorem ok_l_one_class (T : Fx P w K mg base tb) {f : Addr} {fd : FuncData} (F : FunD K "_law_one_class" "_law_one_class" (defArgs s_l_one_class) (defBody s_l_one_class) (defScope s_l_one_class) [] [] f fd) (hF : ∀ c ∈ csE, ∀ a, outRes (f_l_one_class c a (initEnv 2 a [])) = F_l_one_class c)  : ∀ c ∈ csE, FnHP P w K mg base (L2.CX P w) 1 f fd ["_law_e"] (ZpC K c) fun p => SpH K tb (F_l_one_class c) p.1 :=
  fun c hc => fn_okH (N := n_l_one_class) (O' := []) F sc_l_one_class rfl (hF c hc) fun cdv hcd A outer s H E p hz hr nd =>
    dss_cons (ds_set (i := 1) (by decide) (by decide) nd (de_ofL (dl_lst (da_cons (de_isE (p := p) List.mem_cons_self hz (T.xc c hc) T.gx_BadKinds (T.kt c hc "BadKinds" (by decide)) (de_var 0) T.z_isinstance) (da_cons (de_isE (p := p) List.mem_cons_self hz (T.xc c hc) T.gx_BadName (T.kt c hc "BadName" (by decide)) (de_var 0) T.z_isinstance) (da_cons (de_isE (p := p) List.mem_cons_self hz (T.xc c hc) T.gx_Twice (T.kt c hc "Twice" (by decide)) (de_var 0) T.z_isinstance) (da_cons (de_isE (p := p) List.mem_cons_self hz (T.xc c hc) T.gx_BadPrice (T.kt c hc "BadPrice" (by decide)) (de_var 0) T.z_isinstance) (da_nil))))))))
      (dss_cons (ds_set (i := 1) (by decide) (by decide) nd (de_add (de_var 1) (de_ofL (dl_lst (da_cons (de_isE (p := p) List.mem_cons_self hz (T.xc c hc) T.gx_BadBasket (T.kt c hc "BadBasket" (by decide)) (de_var 0) T.z_isinstance) (da_cons (de_isE (p := p) List.mem_cons_self hz (T.xc c hc) T.gx_TooMany (T.kt c hc "TooMany" (by decide)) (de_var 0) T.z_isinstance) (da_cons (de_isE (p := p) List.mem_cons_self hz (T.xc c hc) T.gx_BadOffer (T.kt c hc "BadOffer" (by decide)) (de_var 0) T.z_isinstance) (da_nil))))))))
      (dss_cons (ds_set (i := 1) (by decide) (by decide) nd (de_add (de_var 1) (de_ofL (dl_lst (da_cons (de_isE (p := p) List.mem_cons_self hz (T.xc c hc) T.gx_NoKind (T.kt c hc "NoKind" (by decide)) (de_var 0) T.z_isinstance) (da_cons (de_isE (p := p) List.mem_cons_self hz (T.xc c hc) T.gx_NoOffer (T.kt c hc "NoOffer" (by decide)) (de_var 0) T.z_isinstance) (da_nil)))))))
      (dss_one (ds_ret (de_and (de_cmp (opr_eq (u64 (roomH_u hr))) op2_eq (de_countB (de_var 1) (de_bl)) (de_int) (nomark _)) (de_and (de_isE (p := p) List.mem_cons_self hz (T.xc c hc) T.gx_TillError (T.kt c hc "TillError" (by decide)) (de_var 0) T.z_isinstance) (de_one (de_isEB (n := "ValueError") (p := p) List.mem_cons_self hz (T.xc c hc) T.z_ValueError (by decide +kernel) (T.ktV c hc) (de_var 0) T.z_isinstance))))))))
abbrev s_l_word : Stmt := topS 31
def n_l_word : List Str := ["_law_e", "_law_told_here"]
theorem sc_l_word : FnScope n_l_word ["_law_e"] (defScope s_l_word) := ⟨rfl, rfl, rfl, by decide +kernel, rfl, by decide +kernel, by decide +kernel⟩
def f_l_word (c : Str) (a : Addr) : Sl → Out :=
  sSeq (sSet 1 (eC (.str "")))
  (sSeq (sIf (eTruth (eIsE a (excSub c "BadKinds") (eVar 0)))
  (sSet 1 (eBin D.add (eVar 1) (eC (.str "kinds"))))
  (sNext))
  (sSeq (sIf (eTruth (eIsE a (excSub c "BadName") (eVar 0)))
  (sSet 1 (eBin D.add (eVar 1) (eC (.str "name"))))
  (sNext))
  (sSeq (sIf (eTruth (eIsE a (excSub c "Twice") (eVar 0)))
  (sSet 1 (eBin D.add (eVar 1) (eC (.str "twice"))))
  (sNext))
  (sSeq (sIf (eTruth (eIsE a (excSub c "BadPrice") (eVar 0)))
  (sSet 1 (eBin D.add (eVar 1) (eC (.str "price"))))
  (sNext))
  (sSeq (sIf (eTruth (eIsE a (excSub c "NoKind") (eVar 0)))
  (sSet 1 (eBin D.add (eVar 1) (eC (.str "none"))))
  (sNext))
  (sRet (eIf (eTruth (eCallH a (F_l_one_class c) (eVar 0))) (eVar 1) (eC (.str "other")))))))))
def F_l_word (c : Str) : Res D := outRes (f_l_word c 0 (initEnv 2 0 []))
theorem ok_l_word (T : Fx P w K mg base tb) {f : Addr} {fd : FuncData} (F : FunD K "_law_word" "_law_word" (defArgs s_l_word) (defBody s_l_word) (defScope s_l_word) [] [] f fd) (hF : ∀ c ∈ csE, ∀ a, outRes (f_l_word c a (initEnv 2 a [])) = F_l_word c) (c_l_one_class : HCallee P w K mg base tb "_law_one_class" 1 csE F_l_one_class) : ∀ c ∈ csE, FnHP P w K mg base (L2.CX P w) 2 f fd ["_law_e"] (ZpC K c) fun p => SpH K tb (F_l_word c) p.1 :=
  fun c hc => fn_okH (N := n_l_word) (O' := []) F sc_l_word rfl (hF c hc) fun cdv hcd A outer s H E p hz hr nd =>
    dss_cons (ds_set (i := 1) (by decide) (by decide) nd (de_str))
      (dss_cons (ds_if (dt_truth (de_isE (p := p) List.mem_cons_self hz (T.xc c hc) T.gx_BadKinds (T.kt c hc "BadKinds" (by decide)) (de_var 0) T.z_isinstance))
      (dss_one (ds_set (i := 1) (by decide) (by decide) nd (de_add (de_var 1) (de_str))))
      (dss_nil))
      (dss_cons (ds_if (dt_truth (de_isE (p := p) List.mem_cons_self hz (T.xc c hc) T.gx_BadName (T.kt c hc "BadName" (by decide)) (de_var 0) T.z_isinstance))
      (dss_one (ds_set (i := 1) (by decide) (by decide) nd (de_add (de_var 1) (de_str))))
      (dss_nil))
      (dss_cons (ds_if (dt_truth (de_isE (p := p) List.mem_cons_self hz (T.xc c hc) T.gx_Twice (T.kt c hc "Twice" (by decide)) (de_var 0) T.z_isinstance))
      (dss_one (ds_set (i := 1) (by decide) (by decide) nd (de_add (de_var 1) (de_str))))
      (dss_nil))
      (dss_cons (ds_if (dt_truth (de_isE (p := p) List.mem_cons_self hz (T.xc c hc) T.gx_BadPrice (T.kt c hc "BadPrice" (by decide)) (de_var 0) T.z_isinstance))
      (dss_one (ds_set (i := 1) (by decide) (by decide) nd (de_add (de_var 1) (de_str))))
      (dss_nil))
      (dss_cons (ds_if (dt_truth (de_isE (p := p) List.mem_cons_self hz (T.xc c hc) T.gx_NoKind (T.kt c hc "NoKind" (by decide)) (de_var 0) T.z_isinstance))
      (dss_one (ds_set (i := 1) (by decide) (by decide) nd (de_add (de_var 1) (de_str))))
      (dss_nil))
      (dss_one (ds_ret (de_if (dt_truth (de_callH (p := p) c_l_one_class hc List.mem_cons_self hz hr (de_var 0))) (de_var 1) (de_str)))))))))
abbrev s_l_place : Stmt := topS 33
def n_l_place : List Str := ["_law_shop", "_law_name", "_law_e"]
theorem sc_l_place : FnScope n_l_place ["_law_shop", "_law_name"] (defScope s_l_place) := ⟨rfl, rfl, rfl, by decide +kernel, rfl, by decide +kernel, by decide +kernel⟩
def f_l_place : Sl → Out :=
  sTry 2 csE F_l_word
  (sRet (eMeth "Shop" "place" (eVar 0) (eCons (eVar 1) (eNil)) F_p_Shop_place))
def F_l_place : List D → Res D := fnSem 3 f_l_place
theorem ok_l_place (T : Fx P w K mg base tb) {f : Addr} {fd : FuncData} (F : FunD K "_law_place" "_law_place" (defArgs s_l_place) (defBody s_l_place) (defScope s_l_place) [] [] f fd) (c_p_Shop_place : MCallee P w K mg base tb "Shop" "place" 1 2 false F_p_Shop_place) (c_l_word : HCallee P w K mg base tb "_law_word" 2 csE F_l_word) : FnOk P w K mg base (L2.CX P w) 3 f fd ["_law_shop", "_law_name"] (SpF K mg tb 2 false F_l_place) :=
  fn_ok (N := n_l_place) F sc_l_place (O' := []) fun cdv hcd A outer s H E hr nd tk hp =>
    dss_one (ds_try (i := 2) (O' := []) rfl rfl nd rfl rfl T.gx_TillError T.gcs T.exm c_l_word (L2H.roomH_of hr) (fun W pn xe tk' hp =>
      dss_one (ds_ret (de_meth c_p_Shop_place hr tk' (de_var 0) (da_cons (de_var 1) (da_nil))))))
abbrev s_p_is_name : Stmt := topS 3
def n_p_is_name : List Str := ["value", "sign"]
theorem sc_p_is_name : FnScope n_p_is_name ["value"] (defScope s_p_is_name) := ⟨rfl, rfl, rfl, by decide +kernel, rfl, by decide +kernel, by decide +kernel⟩
def f_p_is_name : Sl → Out :=
  sSeq (sIf (eOrB (eNotB (eTruth (eCall (eCons (eVar 0) (eCons (eC (.raw (.ty "str"))) (eNil))) D.isi))) (eNotB (eTest (eChain D.le D.le (eC (.int 1)) (eCall (eCons (eVar 0) (eNil)) D.len) (eC (.int 8))))))
  (sRet (eC (.bl false)))
  (sNext))
  (sRet (eAllS (fun c => !decide ([c] < ("a" : Str).cps.toList) && !decide (("z" : Str).cps.toList < [c])) (eVar 0)))
def F_p_is_name : List D → Res D := fnSem 2 f_p_is_name
theorem ok_p_is_name (T : Fx P w K mg base tb) {f : Addr} {fd : FuncData} (F : FunD K "is_name" "is_name" (defArgs s_p_is_name) (defBody s_p_is_name) (defScope s_p_is_name) [] [] f fd) (HT : HasTab base mg tb fd.code)  : FnOk P w K mg base (L2.CX P w) 1 f fd ["value"] (SpF K mg tb 1 false F_p_is_name) :=
  fn_ok (N := n_p_is_name) F sc_p_is_name (O' := []) fun cdv hcd A outer s H E hr nd tk hp =>
    dss_cons (ds_if (dt_bool (dw_or (dt_not (dt_truth (de_isi T.z_isinstance (da_cons (de_var 0) (da_cons (de_ty T.z_str) (da_nil)))))) (dw_or1 (dt_not (dt_chain opr_le opr_le op2_le op2_le (de_int) (de_len T.z_len (da_cons (de_var 0) (da_nil))) (de_glob (v := .int 8) T.g_LONGEST_NAME.choose_spec ⟨_, rfl⟩ (fun _ => .int 8)))))))
      (dss_one (ds_ret (de_bl)))
      (dss_nil))
      (dss_one (ds_ret (de_allS (hcd ▸ HT) hr T.z_all (de_var 0) (genS_of rfl rfl (by decide +kernel) rfl rfl) (elt_le2 rfl rfl))))
abbrev s_p_is_pair : Stmt := topS 4
def n_p_is_pair : List Str := ["value"]
theorem sc_p_is_pair : FnScope n_p_is_pair ["value"] (defScope s_p_is_pair) := ⟨rfl, rfl, rfl, by decide +kernel, rfl, by decide +kernel, by decide +kernel⟩
def f_p_is_pair : Sl → Out :=
  sRet (eAndV (eCall (eCons (eVar 0) (eCons (eC (.raw (.ty "tuple"))) (eNil))) D.isi) (eBin D.eq (eCall (eCons (eVar 0) (eNil)) D.len) (eC (.int 2))))
def F_p_is_pair : List D → Res D := fnSem 1 f_p_is_pair
theorem ok_p_is_pair (T : Fx P w K mg base tb) {f : Addr} {fd : FuncData} (F : FunD K "is_pair" "is_pair" (defArgs s_p_is_pair) (defBody s_p_is_pair) (defScope s_p_is_pair) [] [] f fd)  : FnOk P w K mg base (L2.CX P w) 1 f fd ["value"] (SpF K mg tb 1 false F_p_is_pair) :=
  fn_ok (N := n_p_is_pair) F sc_p_is_pair (O' := []) fun cdv hcd A outer s H E hr nd tk hp =>
    dss_one (ds_ret (de_and (de_isi T.z_isinstance (da_cons (de_var 0) (da_cons (de_ty T.z_tuple) (da_nil)))) (de_one (de_eq hr (de_len T.z_len (da_cons (de_var 0) (da_nil))) (de_int)))))
abbrev s_p_is_whole : Stmt := topS 2
def n_p_is_whole : List Str := ["value", "least", "most"]
theorem sc_p_is_whole : FnScope n_p_is_whole ["value", "least", "most"] (defScope s_p_is_whole) := ⟨rfl, rfl, rfl, by decide +kernel, rfl, by decide +kernel, by decide +kernel⟩
def f_p_is_whole : Sl → Out :=
  sSeq (sIf (eOrB (eNotB (eTruth (eCall (eCons (eVar 0) (eCons (eC (.raw (.ty "int"))) (eNil))) D.isi))) (eTruth (eCall (eCons (eVar 0) (eCons (eC (.raw (.ty "bool"))) (eNil))) D.isi)))
  (sRet (eC (.bl false)))
  (sNext))
  (sRet (eChain D.le D.le (eVar 1) (eVar 0) (eVar 2)))
def F_p_is_whole : List D → Res D := fnSem 3 f_p_is_whole
theorem ok_p_is_whole (T : Fx P w K mg base tb) {f : Addr} {fd : FuncData} (F : FunD K "is_whole" "is_whole" (defArgs s_p_is_whole) (defBody s_p_is_whole) (defScope s_p_is_whole) [] [] f fd)  : FnOk P w K mg base (L2.CX P w) 1 f fd ["value", "least", "most"] (SpF K mg tb 3 false F_p_is_whole) :=
  fn_ok (N := n_p_is_whole) F sc_p_is_whole (O' := []) fun cdv hcd A outer s H E hr nd tk hp =>
    dss_cons (ds_if (dt_bool (dw_or (dt_not (dt_truth (de_isi T.z_isinstance (da_cons (de_var 0) (da_cons (de_ty T.z_int) (da_nil)))))) (dw_or1 (dt_truth (de_isi T.z_isinstance (da_cons (de_var 0) (da_cons (de_ty T.z_bool) (da_nil))))))))
      (dss_one (ds_ret (de_bl)))
      (dss_nil))
      (dss_one (ds_ret (de_chain opr_le opr_le op2_le op2_le (de_var 1) (de_var 0) (de_var 2))))
abbrev s_p_need_kind : Stmt := topS 19
def n_p_need_kind : List Str := ["kind", "names_ahead"]
theorem sc_p_need_kind : FnScope n_p_need_kind ["kind", "names_ahead"] (defScope s_p_need_kind) := ⟨rfl, rfl, rfl, by decide +kernel, rfl, by decide +kernel, by decide +kernel⟩
def f_p_need_kind : Sl → Out :=
  sSeq (sIf (eOrB (eNotB (eTruth (eCall (eCons (eVar 0) (eNil)) F_p_is_pair))) (eNotB (eTruth (eCall (eCons (eBin D.ix (eVar 0) (eC (.int 0))) (eNil)) F_p_is_name))))
  (sRaise "BadName")
  (sNext))
  (sSeq (sIf (eTest (eBin D.inn (eBin D.ix (eVar 0) (eC (.int 0))) (eVar 1)))
  (sRaise "Twice")
  (sNext))
  (sIf (eNotB (eTruth (eCall (eCons (eBin D.ix (eVar 0) (eC (.int 1))) (eCons (eC (.int 0)) (eCons (eC (.int 100000)) (eNil)))) F_p_is_whole)))
  (sRaise "BadPrice")
  (sNext)))
def F_p_need_kind : List D → Res D := fnSem 2 f_p_need_kind
theorem ok_p_need_kind (T : Fx P w K mg base tb) {f : Addr} {fd : FuncData} (F : FunD K "need_kind" "need_kind" (defArgs s_p_need_kind) (defBody s_p_need_kind) (defScope s_p_need_kind) [] [] f fd) (c_p_is_name : Callee P w K mg base tb "is_name" 1 1 false F_p_is_name) (c_p_is_pair : Callee P w K mg base tb "is_pair" 1 1 false F_p_is_pair) (c_p_is_whole : Callee P w K mg base tb "is_whole" 1 3 false F_p_is_whole) : FnOk P w K mg base (L2.CX P w) 2 f fd ["kind", "names_ahead"] (SpF K mg tb 2 false F_p_need_kind) :=
  fn_ok (N := n_p_need_kind) F sc_p_need_kind (O' := []) fun cdv hcd A outer s H E hr nd tk hp =>
    dss_cons (ds_if (dt_bool (dw_or (dt_not (dt_truth (de_call c_p_is_pair hr tk (da_cons (de_var 0) (da_nil))))) (dw_or1 (dt_not (dt_truth (de_call c_p_is_name hr tk (da_cons (de_ix (de_var 0) (de_int)) (da_nil))))))))
      (dss_one (ds_raise T.xd_BadName rfl tk))
      (dss_nil))
      (dss_cons (ds_if (dt_in (de_ix (de_var 0) (de_int)) (de_var 1))
      (dss_one (ds_raise T.xd_Twice rfl tk))
      (dss_nil))
      (dss_one (ds_if (dt_not (dt_truth (de_call c_p_is_whole hr tk (da_cons (de_ix (de_var 0) (de_int)) (da_cons (de_int) (da_cons (de_glob (v := .int 100000) T.g_HIGHEST_PRICE.choose_spec ⟨_, rfl⟩ (fun _ => .int 100000)) (da_nil)))))))
      (dss_one (ds_raise T.xd_BadPrice rfl tk))
      (dss_nil))))
abbrev s_p_need_kinds : Stmt := topS 20
def n_p_need_kinds : List Str := ["kinds", "names_ahead", "kind"]
theorem sc_p_need_kinds : FnScope n_p_need_kinds ["kinds"] (defScope s_p_need_kinds) := ⟨rfl, rfl, rfl, by decide +kernel, rfl, by decide +kernel, by decide +kernel⟩
def b_p_need_kinds_1 : Sl → Out :=
  sSeq (sDrop (eCall (eCons (eVar 2) (eCons (eVar 1) (eNil))) F_p_need_kind))
  (sApp 1 (eBin D.ix (eVar 2) (eC (.int 0))))
def f_p_need_kinds : Sl → Out :=
  sSeq (sIf (eOrB (eNotB (eTruth (eCall (eCons (eVar 0) (eCons (eC (.raw (.ty "list"))) (eNil))) D.isi))) (eNotB (eTest (eChain D.le D.le (eC (.int 1)) (eCall (eCons (eVar 0) (eNil)) D.len) (eC (.int 5))))))
  (sRaise "BadKinds")
  (sNext))
  (sSeq (sOwn 1 (eNil))
  (sFor (eItems (eVar 0)) (.one 2)
  (b_p_need_kinds_1)))
def F_p_need_kinds : List D → Res D := fnSem 3 f_p_need_kinds
theorem ok_p_need_kinds (T : Fx P w K mg base tb) {f : Addr} {fd : FuncData} (F : FunD K "need_kinds" "need_kinds" (defArgs s_p_need_kinds) (defBody s_p_need_kinds) (defScope s_p_need_kinds) [] [] f fd) (c_p_need_kind : Callee P w K mg base tb "need_kind" 2 2 false F_p_need_kind) : FnOk P w K mg base (L2.CX P w) 3 f fd ["kinds"] (SpF K mg tb 1 false F_p_need_kinds) :=
  fn_ok (N := n_p_need_kinds) F sc_p_need_kinds (O' := [1]) fun cdv hcd A outer s H E hr nd tk hp =>
    dss_cons (ds_if (dt_bool (dw_or (dt_not (dt_truth (de_isi T.z_isinstance (da_cons (de_var 0) (da_cons (de_ty T.z_list) (da_nil)))))) (dw_or1 (dt_not (dt_chain opr_le opr_le op2_le op2_le (de_int) (de_len T.z_len (da_cons (de_var 0) (da_nil))) (de_glob (v := .int 5) T.g_MOST_KINDS.choose_spec ⟨_, rfl⟩ (fun _ => .int 5)))))))
      (dss_one (ds_raise T.xd_BadKinds rfl tk))
      (dss_nil))
      (dss_cons (ds_own (i := 1) (by decide) (by decide) nd (dl_lst (da_nil)))
      (dss_one (ds_for (.one 2) (by decide) (by decide) hp rfl (di_any (de_var 0)) (pg_one 2 nd)
      (dss_cons (ds_drop (de_call c_p_need_kind hr tk (da_cons (de_var 2) (da_cons (de_var 1) (da_nil)))))
      (dss_one (ds_app (i := 1) (by decide) (by decide) (de_ix (de_var 2) (de_int))))))))
abbrev s_p_Shop_init : Stmt := inC (topS 21) 0
def n_p_Shop_init : List Str := ["self", "kinds", "kind"]
theorem sc_p_Shop_init : FnScope n_p_Shop_init ["self", "kinds"] (defScope s_p_Shop_init) := ⟨rfl, rfl, rfl, by decide +kernel, rfl, by decide +kernel, by decide +kernel⟩
def g_p_Shop_init_1 : EE :=
  eBin D.ix (eVar 2) (eC (.int 0))
def g_p_Shop_init_2 : EE :=
  eBin D.ix (eVar 2) (eC (.int 1))
def F0_p_Shop_init (a : Addr) (ds : List D) : Res (List (Str × D)) := initTwo 3 "names" "prices" (sDrop (eCall (eCons (eVar 1) (eNil)) F_p_need_kinds)) (eLc (eItems (eVar 1)) (.one 2) [2] (eYes) (g_p_Shop_init_1)) (eLc (eItems (eVar 1)) (.one 2) [2] (eYes) (g_p_Shop_init_2)) a ds
def F_p_Shop_init (ds : List D) : Res (List (Str × D)) := F0_p_Shop_init 0 ds
theorem ok_p_Shop_init (T : Fx P w K mg base tb) {f : Addr} {fd : FuncData} (F : FunD K "__init__" "Shop.__init__" (defArgs s_p_Shop_init) (defBody s_p_Shop_init) (defScope s_p_Shop_init) [] [] f fd) (hF : ∀ a ds, F0_p_Shop_init a ds = F_p_Shop_init ds) (c_p_need_kinds : Callee P w K mg base tb "need_kinds" 3 1 false F_p_need_kinds) : FnOk P w K mg base (L2.CX P w) 4 f fd ["self", "kinds"] (SpI K mg tb 1 "Shop" F_p_Shop_init) :=
  fn_okI (self := "self") (N := n_p_Shop_init) F rfl sc_p_Shop_init rfl rfl (.inl rfl) (by decide) (by decide) T.ci_Shop.cl T.na_Shop_names T.na_Shop_prices (fun _ => rfl) (fun _ _ => rfl) hF fun cdv hcd A outer s H E hr nd tk =>
    ⟨ds_drop (de_call c_p_need_kinds hr tk (da_cons (de_var 1) (da_nil))),
    dl_lcE (.one 2) rfl nd (di_any (de_var 1)) (blkOk_by (N := n_p_Shop_init) (sc := defScope s_p_Shop_init) (own := [("kind", 2)]) (by decide +kernel)) (by decide) (fun _ _ _ _ _ => (pg_one 2 nd)) (fun _ _ _ _ _ => bt_nil) (fun _ _ _ _ _ => de_ix (de_var 2) (de_int)),
    dl_lcE (.one 2) rfl nd (di_any (de_var 1)) (blkOk_by (N := n_p_Shop_init) (sc := defScope s_p_Shop_init) (own := [("kind", 2)]) (by decide +kernel)) (by decide) (fun _ _ _ _ _ => (pg_one 2 nd)) (fun _ _ _ _ _ => bt_nil) (fun _ _ _ _ _ => de_ix (de_var 2) (de_int)), rfl, rfl⟩
abbrev s_l_told : Stmt := topS 32
def n_l_told : List Str := ["_law_kinds_here", "_law_shop", "_law_e"]
theorem sc_l_told : FnScope n_l_told ["_law_kinds_here"] (defScope s_l_told) := ⟨rfl, rfl, rfl, by decide +kernel, rfl, by decide +kernel, by decide +kernel⟩
def F_l_told : List D → Res D := toldSem 3 csE F_l_word (eMake "Shop" (eCons (eVar 0) (eNil)) F_p_Shop_init)
theorem ok_l_told (T : Fx P w K mg base tb) {f : Addr} {fd : FuncData} (F : FunD K "_law_told" "_law_told" (defArgs s_l_told) (defBody s_l_told) (defScope s_l_told) [] [] f fd) (c_p_Shop_init : Maker P w K mg base tb "Shop" 4 1 F_p_Shop_init) (c_l_word : HCallee P w K mg base tb "_law_word" 2 csE F_l_word) : FnOk P w K mg base (L2.CX P w) 6 f fd ["_law_kinds_here"] (SpD K mg tb 1 F_l_told) :=
  told_ok (k := 5) (i1 := 1) (i := 2) F rfl sc_l_told rfl rfl rfl rfl T.gx_TillError rfl rfl T.gcs T.exm c_l_word (by decide) (by decide) (by decide) (by decide) (by decide) (by decide) (by decide) fun cdv hcd A outer s H E hr W pn xe tk =>
    ⟨dn_make c_p_Shop_init hr tk (da_cons (de_var 0) (da_nil)), rfl⟩
abbrev s_p_law : Stmt := topS 34
def n_p_law : List Str := ["_law_script", "_law_kinds_here", "_law_kind", "_law_due_here", "_law_handed", "_law_found", "_law_places", "_law_one", "_law_first", "_law_some", "_law_told_here", "_law_name"]
theorem sc_p_law : FnScope n_p_law ["_law_script"] (defScope s_p_law) := ⟨rfl, rfl, rfl, by decide +kernel, rfl, by decide +kernel, by decide +kernel⟩
def g_p_law_1 : EE :=
  eBin D.ix (eVar 2) (eC (.int 1))
def g_p_law_2 : EE :=
  eBin D.ix (eVar 2) (eC (.int 0))
def g_p_law_3 : EE :=
  eCall (eCons (eVar 5) (eCons (eBin D.ix (eVar 2) (eC (.int 0))) (eNil))) F_l_place
def g_p_law_4 : EE :=
  eVar 7
def t_p_law_1 : EB :=
  eTruth (eCall (eCons (eVar 7) (eCons (eC (.raw (.ty "bool"))) (eNil))) D.isi)
def g_p_law_5 : EE :=
  eCall (eCons (eVar 5) (eCons (eVar 11) (eNil))) F_l_place
def t_p_law_2 : EB :=
  eTest (eBin D.ninD (eVar 11) (eUn (D.fld "Shop" "names") (eVar 5)))
def f_p_law : Sl → Out :=
  sSeq (sSet 1 (eCall (eCons (eVar 0) (eNil)) F_l_kinds))
  (sSeq (sIf (eTest (eBin D.eq (eBin D.mod (eCall (eCons (eVar 0) (eCons (eC (.int 3)) (eNil))) F_l_cell_at) (eC (.int 2))) (eC (.int 1))))
  (sSeq (sSet 2 (eBin D.ix (eL (eCons (eC (.int 7)) (eCons (eC (.int 7)) (eCons (eC (.int 7)) (eCons (eC (.int 7)) (eCons (eC (.int 7)) (eCons (eC (.int 0)) (eCons (eC (.int 1)) (eCons (eC (.int 2)) (eCons (eC (.int 3)) (eCons (eC (.int 4)) (eCons (eC (.int 5)) (eCons (eC (.int 6)) (eCons (eC (.int 8)) (eCons (eC (.int 9)) (eCons (eC (.int 10)) (eCons (eC (.int 11)) (eCons (eC (.int 12)) (eCons (eC (.int 13)) (eCons (eC (.int 14)) (eCons (eC (.int 15)) (eNil)))))))))))))))))))))) (eBin D.mod (eBin D.fdiv (eCall (eCons (eVar 0) (eCons (eC (.int 3)) (eNil))) F_l_cell_at) (eC (.int 2))) (eC (.int 20)))))
  (sSet 1 (eCall (eCons (eVar 1) (eCons (eVar 2) (eCons (eBin D.mod (eCall (eCons (eVar 0) (eCons (eC (.int 4)) (eNil))) F_l_cell_at) (eBin D.pow (eC (.int 10)) (eC (.int 60)))) (eNil)))) F_l_faulty)))
  (sNext))
  (sSeq (sSet 3 (eCall (eCons (eVar 1) (eNil)) F_l_due))
  (fun env => ((eTruth (eCall (eCons (eVar 1) (eCons (eC (.raw (.ty "list"))) (eNil))) D.isi)) env).branch env (sSeq (sOwn 4 (eCallL (eCons (eVar 1) (eNil)) D.listOf)) (sSeq (sSet 5 (eCall (eCons (eVar 4) (eNil)) F_l_told))
  (sSeq (sIf (eTest (eBin D.ne (eVar 4) (eVar 1)))
  (sRet (eC (.bl false)))
  (sNext))
  (sSeq (sIf (eTest (eBin D.ne (eVar 3) (eC (.str ""))))
  (sRet (eAndV (eCall (eCons (eVar 5) (eCons (eC (.raw (.ty "str"))) (eNil))) D.isi) (eBin D.eq (eVar 5) (eVar 3))))
  (sNext))
  (sSeq (sIf (eOrB (eNotB (eTruth (eIsC "Shop" (eVar 5)))) (eOrB (eNotB (eTruth (eCall (eCons (eUn (D.fld "Shop" "names") (eVar 5)) (eCons (eC (.raw (.ty "list"))) (eNil))) D.isi))) (eNotB (eTruth (eCall (eCons (eUn (D.fld "Shop" "prices") (eVar 5)) (eCons (eC (.raw (.ty "list"))) (eNil))) D.isi)))))
  (sRet (eC (.bl false)))
  (sNext))
  (sSeq (sLst (fun _ => []) 4)
  (sSeq (sIf (eOrB (eTest (eBin D.ne (eUn (D.fld "Shop" "names") (eVar 5)) (eL (eLc (eItems (eVar 1)) (.one 2) [2] (eYes) (g_p_law_2))))) (eTest (eBin D.ne (eUn (D.fld "Shop" "prices") (eVar 5)) (eL (eLc (eItems (eVar 1)) (.one 2) [2] (eYes) (g_p_law_1))))))
  (sRet (eC (.bl false)))
  (sNext))
  (sSeq (sOwn 6 (eLc (eItems (eVar 1)) (.one 2) [2] (eYes) (g_p_law_3)))
  (sSeq (sIf (eOrB (eTest (eBin D.ne (eVar 6) (eL ((fun env => ((eCall (eCons (eVar 1) (eNil)) D.len) env).bind D.rngL))))) (eTest (eBin D.gt (eCall (eCons (eL (eLc (eItems (eVar 6)) (.one 7) [7] (t_p_law_1) (g_p_law_4))) (eNil)) D.len) (eC (.int 0)))))
  (sRet (eC (.bl false)))
  (sNext))
  (sSeq (sSet 8 (eBin D.ix (eUn (D.fld "Shop" "names") (eVar 5)) (eC (.int 0))))
  (sSeq (sSet 9 (eL (eCons (eC (.str "zzzzzzzzz")) (eCons (eC (.str "")) (eCons (eC (.int 0)) (eCons (eC .non) (eCons (eUn D.upper (eVar 8)) (eCons (eBin D.add (eC (.str " ")) (eVar 8)) (eCons (eBin D.add (eVar 8) (eC (.str " "))) (eCons (eBin D.add (eVar 8) (eC (.str "\n"))) (eCons (eBin D.add (eVar 8) (eVar 8)) (eCons (eL (eCons (eVar 8) (eNil))) (eNil)))))))))))))
  (sSeq (sOwn 10 (eLc (eItems (eVar 9)) (.one 11) [11] (t_p_law_2) (g_p_law_5)))
  (sRet (eAndV (eBin D.gt (eCall (eCons (eVar 10) (eNil)) D.len) (eC (.int 7))) (eBin D.eq (eVar 10) (eBin D.rep (eL (eCons (eC (.str "none")) (eNil))) (eCall (eCons (eVar 10) (eNil)) D.len))))))))))))))))) (sSeq (sSet 4 (eVar 1)) (sSeq (sSet 5 (eCall (eCons (eVar 4) (eNil)) F_l_told))
  (sSeq (sIf (eTest (eBin D.ne (eVar 4) (eVar 1)))
  (sRet (eC (.bl false)))
  (sNext))
  (sSeq (sIf (eTest (eBin D.ne (eVar 3) (eC (.str ""))))
  (sRet (eAndV (eCall (eCons (eVar 5) (eCons (eC (.raw (.ty "str"))) (eNil))) D.isi) (eBin D.eq (eVar 5) (eVar 3))))
  (sNext))
  (sSeq (sIf (eOrB (eNotB (eTruth (eIsC "Shop" (eVar 5)))) (eOrB (eNotB (eTruth (eCall (eCons (eUn (D.fld "Shop" "names") (eVar 5)) (eCons (eC (.raw (.ty "list"))) (eNil))) D.isi))) (eNotB (eTruth (eCall (eCons (eUn (D.fld "Shop" "prices") (eVar 5)) (eCons (eC (.raw (.ty "list"))) (eNil))) D.isi)))))
  (sRet (eC (.bl false)))
  (sNext))
  (sSeq (sNo)
  (sSeq (sIf (eOrB (eTest (eBin D.ne (eUn (D.fld "Shop" "names") (eVar 5)) (eL (eLc (eItems (eVar 1)) (.one 2) [2] (eYes) (g_p_law_2))))) (eTest (eBin D.ne (eUn (D.fld "Shop" "prices") (eVar 5)) (eL (eLc (eItems (eVar 1)) (.one 2) [2] (eYes) (g_p_law_1))))))
  (sRet (eC (.bl false)))
  (sNext))
  (sSeq (sOwn 6 (eLc (eItems (eVar 1)) (.one 2) [2] (eYes) (g_p_law_3)))
  (sSeq (sIf (eOrB (eTest (eBin D.ne (eVar 6) (eL ((fun env => ((eCall (eCons (eVar 1) (eNil)) D.len) env).bind D.rngL))))) (eTest (eBin D.gt (eCall (eCons (eL (eLc (eItems (eVar 6)) (.one 7) [7] (t_p_law_1) (g_p_law_4))) (eNil)) D.len) (eC (.int 0)))))
  (sRet (eC (.bl false)))
  (sNext))
  (sSeq (sSet 8 (eBin D.ix (eUn (D.fld "Shop" "names") (eVar 5)) (eC (.int 0))))
  (sSeq (sSet 9 (eL (eCons (eC (.str "zzzzzzzzz")) (eCons (eC (.str "")) (eCons (eC (.int 0)) (eCons (eC .non) (eCons (eUn D.upper (eVar 8)) (eCons (eBin D.add (eC (.str " ")) (eVar 8)) (eCons (eBin D.add (eVar 8) (eC (.str " "))) (eCons (eBin D.add (eVar 8) (eC (.str "\n"))) (eCons (eBin D.add (eVar 8) (eVar 8)) (eCons (eL (eCons (eVar 8) (eNil))) (eNil)))))))))))))
  (sSeq (sOwn 10 (eLc (eItems (eVar 9)) (.one 11) [11] (t_p_law_2) (g_p_law_5)))
  (sRet (eAndV (eBin D.gt (eCall (eCons (eVar 10) (eNil)) D.len) (eC (.int 7))) (eBin D.eq (eVar 10) (eBin D.rep (eL (eCons (eC (.str "none")) (eNil))) (eCall (eCons (eVar 10) (eNil)) D.len))))))))))))))))))))
def F_p_law : List D → Res D := fnSem 12 f_p_law
theorem ok_p_law (T : Fx P w K mg base tb) {f : Addr} {fd : FuncData} (F : FunD K "law" "law" (defArgs s_p_law) (defBody s_p_law) (defScope s_p_law) [] [] f fd) (c_l_cell_at : Callee P w K mg base tb "_law_cell_at" 1 2 false F_l_cell_at) (c_l_due : Callee P w K mg base tb "_law_due" 2 1 false F_l_due) (c_l_faulty : Callee P w K mg base tb "_law_faulty" 1 3 false F_l_faulty) (c_l_kinds : Callee P w K mg base tb "_law_kinds" 3 1 false F_l_kinds) (c_l_place : Callee P w K mg base tb "_law_place" 3 2 false F_l_place) (c_l_told : CalleeD P w K mg base tb "_law_told" 6 1 F_l_told) : FnOk P w K mg base (L2.CX P w) 7 f fd ["_law_script"] (SpF K mg tb 1 false F_p_law) :=
  fn_ok (N := n_p_law) F sc_p_law (O' := []) fun cdv hcd A outer s H E hr nd tk hp =>
    dss_cons (ds_set (i := 1) (by decide) (by decide) nd (de_call c_l_kinds hr tk (da_cons (de_var 0) (da_nil))))
      (dss_cons (ds_if (dt_eq hr (de_mod (de_call c_l_cell_at hr tk (da_cons (de_var 0) (da_cons (de_int) (da_nil)))) (de_int)) (de_int))
      (dss_cons (ds_set (i := 2) (by decide) (by decide) nd (de_ix (de_ofL (dl_lst (da_cons (de_int) (da_cons (de_int) (da_cons (de_int) (da_cons (de_int) (da_cons (de_int) (da_cons (de_int) (da_cons (de_int) (da_cons (de_int) (da_cons (de_int) (da_cons (de_int) (da_cons (de_int) (da_cons (de_int) (da_cons (de_int) (da_cons (de_int) (da_cons (de_int) (da_cons (de_int) (da_cons (de_int) (da_cons (de_int) (da_cons (de_int) (da_cons (de_int) (da_nil))))))))))))))))))))))) (de_mod (de_fdiv (de_call c_l_cell_at hr tk (da_cons (de_var 0) (da_cons (de_int) (da_nil)))) (de_int)) (de_int))))
      (dss_one (ds_set (i := 1) (by decide) (by decide) nd (de_call c_l_faulty hr tk (da_cons (de_var 1) (da_cons (de_var 2) (da_cons (de_mod (de_call c_l_cell_at hr tk (da_cons (de_var 0) (da_cons (de_int) (da_nil)))) (de_bin op_pow op2_pow (de_int) (de_int))) (da_nil))))))))
      (dss_nil))
      (dss_cons (ds_set (i := 3) (by decide) (by decide) nd (de_call c_l_due hr tk (da_cons (de_var 1) (da_nil))))
      (dss_ifOwn (i := 4) (by decide) (by decide) (by decide) (by decide) nd (dt_truth (de_isi T.z_isinstance (da_cons (de_var 1) (da_cons (de_ty T.z_list) (da_nil))))) (dl_list T.z_list (da_cons (de_var 1) (da_nil))) (de_var 1)
      (dss_cons (ds_setN (i := 5) (by decide) nd (dn_call c_l_told hr tk (da_cons (de_var 4) (da_nil))))
      (dss_cons (ds_if (dt_ne hr (de_var 4) (de_var 1))
      (dss_one (ds_ret (de_bl)))
      (dss_nil))
      (dss_cons (ds_if (dt_ne hr (de_var 3) (de_str))
      (dss_one (ds_ret (de_and (de_isi T.z_isinstance (da_cons (de_var 5) (da_cons (de_ty T.z_str) (da_nil)))) (de_one (de_eq hr (de_var 5) (de_var 3))))))
      (dss_nil))
      (dss_cons (ds_if (dt_bool (dw_or (dt_not (dt_truth (de_isC T.ci_Shop T.gx_Shop T.z_isinstance (de_var 5)))) (dw_or (dt_not (dt_truth (de_isi T.z_isinstance (da_cons (de_fld (C0 := "Shop") (de_var 5) T.ci_Shop.cl T.na_Shop_names) (da_cons (de_ty T.z_list) (da_nil)))))) (dw_or1 (dt_not (dt_truth (de_isi T.z_isinstance (da_cons (de_fld (C0 := "Shop") (de_var 5) T.ci_Shop.cl T.na_Shop_prices) (da_cons (de_ty T.z_list) (da_nil))))))))))
      (dss_one (ds_ret (de_bl)))
      (dss_nil))
      (dss_cons (ds_clear (i := 4) (by decide))
      (dss_cons (ds_if (dt_bool (dw_or (dt_ne hr (de_fld (C0 := "Shop") (de_var 5) T.ci_Shop.cl T.na_Shop_names) (de_ofL (dl_lcE (.one 2) rfl nd (di_any (de_var 1)) (blkOk_by (N := n_p_law) (sc := defScope s_p_law) (own := [("_law_kind", 2)]) (by decide +kernel)) (by decide) (fun _ _ _ _ _ => (pg_one 2 nd)) (fun _ _ _ _ _ => bt_nil) (fun _ _ _ _ _ => de_ix (de_var 2) (de_int))))) (dw_or1 (dt_ne hr (de_fld (C0 := "Shop") (de_var 5) T.ci_Shop.cl T.na_Shop_prices) (de_ofL (dl_lcE (.one 2) rfl nd (di_any (de_var 1)) (blkOk_by (N := n_p_law) (sc := defScope s_p_law) (own := [("_law_kind", 2)]) (by decide +kernel)) (by decide) (fun _ _ _ _ _ => (pg_one 2 nd)) (fun _ _ _ _ _ => bt_nil) (fun _ _ _ _ _ => de_ix (de_var 2) (de_int))))))))
      (dss_one (ds_ret (de_bl)))
      (dss_nil))
      (dss_cons (ds_post (O1 := [6, 4]) (O' := [4]) (by decide) (ds_ownLcE (i := 6) (.one 2) (by decide) (by decide) rfl nd (di_any (de_var 1)) (blkOk_by (N := n_p_law) (sc := defScope s_p_law) (own := [("_law_kind", 2)]) (by decide +kernel)) (by decide) (fun _ _ _ _ _ => (pg_one 2 nd)) (fun _ _ _ _ _ => bt_nil) (fun _ _ _ _ _ => de_call c_l_place hr takes_w0 (da_cons (de_var 5) (da_cons (de_ix (de_var 2) (de_int)) (da_nil))))))
      (dss_cons (ds_if (dt_bool (dw_or (dt_ne hr (de_var 6) (de_ofL (dl_listRg rfl T.z_list T.z_range (de_len T.z_len (da_cons (de_var 1) (da_nil)))))) (dw_or1 (dt_gt (de_len T.z_len (da_cons (de_ofL (dl_lcE (.one 7) rfl nd (di_any (de_var 6)) (blkOk_by (N := n_p_law) (sc := defScope s_p_law) (own := [("_law_one", 7)]) (by decide +kernel)) (by decide) (fun _ _ _ _ _ => (pg_one 7 nd)) (fun _ _ _ _ _ => bt_one (dt_truth (de_isi T.z_isinstance (da_cons (de_var 7) (da_cons (de_ty T.z_bool) (da_nil)))))) (fun _ _ _ _ _ => de_var 7))) (da_nil))) (de_int)))))
      (dss_one (ds_ret (de_bl)))
      (dss_nil))
      (dss_cons (ds_set (i := 8) (by decide) (by decide) nd (de_ix (de_fld (C0 := "Shop") (de_var 5) T.ci_Shop.cl T.na_Shop_names) (de_int)))
      (dss_cons (ds_set (i := 9) (by decide) (by decide) nd (de_ofL (dl_lst (da_cons (de_str) (da_cons (de_str) (da_cons (de_int) (da_cons (de_non) (da_cons (de_upper (de_var 8)) (da_cons (de_add (de_str) (de_var 8)) (da_cons (de_add (de_var 8) (de_str)) (da_cons (de_add (de_var 8) (de_str)) (da_cons (de_add (de_var 8) (de_var 8)) (da_cons (de_ofL (dl_lst (da_cons (de_var 8) (da_nil)))) (da_nil))))))))))))))
      (dss_cons (ds_post (O1 := [10, 4]) (O' := [4]) (by decide) (ds_ownLcE (i := 10) (.one 11) (by decide) (by decide) rfl nd (di_any (de_var 9)) (blkOk_by (N := n_p_law) (sc := defScope s_p_law) (own := [("_law_name", 11)]) (by decide +kernel)) (by decide) (fun _ _ _ _ _ => (pg_one 11 nd)) (fun _ _ _ _ _ => bt_one (dt_cmp (op_notInD (room_u hr)) op2_ninD (de_var 11) (de_fld (C0 := "Shop") (de_var 5) T.ci_Shop.cl T.na_Shop_names) rfl)) (fun _ _ _ _ _ => de_call c_l_place hr takes_w0 (da_cons (de_var 5) (da_cons (de_var 11) (da_nil))))))
      (dss_one (ds_ret (de_and (de_gt (de_len T.z_len (da_cons (de_var 10) (da_nil))) (de_int)) (de_one (de_eq hr (de_var 10) (de_bin op_rep op2_rep (de_ofL (dl_lst (da_cons (de_str) (da_nil)))) (de_len T.z_len (da_cons (de_var 10) (da_nil))))))))))))))))))))
      (dss_cons (ds_setN (i := 5) (by decide) nd (dn_call c_l_told hr tk (da_cons (de_var 4) (da_nil))))
      (dss_cons (ds_if (dt_ne hr (de_var 4) (de_var 1))
      (dss_one (ds_ret (de_bl)))
      (dss_nil))
      (dss_cons (ds_if (dt_ne hr (de_var 3) (de_str))
      (dss_one (ds_ret (de_and (de_isi T.z_isinstance (da_cons (de_var 5) (da_cons (de_ty T.z_str) (da_nil)))) (de_one (de_eq hr (de_var 5) (de_var 3))))))
      (dss_nil))
      (dss_cons (ds_if (dt_bool (dw_or (dt_not (dt_truth (de_isC T.ci_Shop T.gx_Shop T.z_isinstance (de_var 5)))) (dw_or (dt_not (dt_truth (de_isi T.z_isinstance (da_cons (de_fld (C0 := "Shop") (de_var 5) T.ci_Shop.cl T.na_Shop_names) (da_cons (de_ty T.z_list) (da_nil)))))) (dw_or1 (dt_not (dt_truth (de_isi T.z_isinstance (da_cons (de_fld (C0 := "Shop") (de_var 5) T.ci_Shop.cl T.na_Shop_prices) (da_cons (de_ty T.z_list) (da_nil))))))))))
      (dss_one (ds_ret (de_bl)))
      (dss_nil))
      (dss_cons (ds_no _)
      (dss_cons (ds_if (dt_bool (dw_or (dt_ne hr (de_fld (C0 := "Shop") (de_var 5) T.ci_Shop.cl T.na_Shop_names) (de_ofL (dl_lcE (.one 2) rfl nd (di_any (de_var 1)) (blkOk_by (N := n_p_law) (sc := defScope s_p_law) (own := [("_law_kind", 2)]) (by decide +kernel)) (by decide) (fun _ _ _ _ _ => (pg_one 2 nd)) (fun _ _ _ _ _ => bt_nil) (fun _ _ _ _ _ => de_ix (de_var 2) (de_int))))) (dw_or1 (dt_ne hr (de_fld (C0 := "Shop") (de_var 5) T.ci_Shop.cl T.na_Shop_prices) (de_ofL (dl_lcE (.one 2) rfl nd (di_any (de_var 1)) (blkOk_by (N := n_p_law) (sc := defScope s_p_law) (own := [("_law_kind", 2)]) (by decide +kernel)) (by decide) (fun _ _ _ _ _ => (pg_one 2 nd)) (fun _ _ _ _ _ => bt_nil) (fun _ _ _ _ _ => de_ix (de_var 2) (de_int))))))))
      (dss_one (ds_ret (de_bl)))
      (dss_nil))
      (dss_cons (ds_post (O1 := [6]) (O' := []) (by decide) (ds_ownLcE (i := 6) (.one 2) (by decide) (by decide) rfl nd (di_any (de_var 1)) (blkOk_by (N := n_p_law) (sc := defScope s_p_law) (own := [("_law_kind", 2)]) (by decide +kernel)) (by decide) (fun _ _ _ _ _ => (pg_one 2 nd)) (fun _ _ _ _ _ => bt_nil) (fun _ _ _ _ _ => de_call c_l_place hr takes_w0 (da_cons (de_var 5) (da_cons (de_ix (de_var 2) (de_int)) (da_nil))))))
      (dss_cons (ds_if (dt_bool (dw_or (dt_ne hr (de_var 6) (de_ofL (dl_listRg rfl T.z_list T.z_range (de_len T.z_len (da_cons (de_var 1) (da_nil)))))) (dw_or1 (dt_gt (de_len T.z_len (da_cons (de_ofL (dl_lcE (.one 7) rfl nd (di_any (de_var 6)) (blkOk_by (N := n_p_law) (sc := defScope s_p_law) (own := [("_law_one", 7)]) (by decide +kernel)) (by decide) (fun _ _ _ _ _ => (pg_one 7 nd)) (fun _ _ _ _ _ => bt_one (dt_truth (de_isi T.z_isinstance (da_cons (de_var 7) (da_cons (de_ty T.z_bool) (da_nil)))))) (fun _ _ _ _ _ => de_var 7))) (da_nil))) (de_int)))))
      (dss_one (ds_ret (de_bl)))
      (dss_nil))
      (dss_cons (ds_set (i := 8) (by decide) (by decide) nd (de_ix (de_fld (C0 := "Shop") (de_var 5) T.ci_Shop.cl T.na_Shop_names) (de_int)))
      (dss_cons (ds_set (i := 9) (by decide) (by decide) nd (de_ofL (dl_lst (da_cons (de_str) (da_cons (de_str) (da_cons (de_int) (da_cons (de_non) (da_cons (de_upper (de_var 8)) (da_cons (de_add (de_str) (de_var 8)) (da_cons (de_add (de_var 8) (de_str)) (da_cons (de_add (de_var 8) (de_str)) (da_cons (de_add (de_var 8) (de_var 8)) (da_cons (de_ofL (dl_lst (da_cons (de_var 8) (da_nil)))) (da_nil))))))))))))))
      (dss_cons (ds_post (O1 := [10]) (O' := []) (by decide) (ds_ownLcE (i := 10) (.one 11) (by decide) (by decide) rfl nd (di_any (de_var 9)) (blkOk_by (N := n_p_law) (sc := defScope s_p_law) (own := [("_law_name", 11)]) (by decide +kernel)) (by decide) (fun _ _ _ _ _ => (pg_one 11 nd)) (fun _ _ _ _ _ => bt_one (dt_cmp (op_notInD (room_u hr)) op2_ninD (de_var 11) (de_fld (C0 := "Shop") (de_var 5) T.ci_Shop.cl T.na_Shop_names) rfl)) (fun _ _ _ _ _ => de_call c_l_place hr takes_w0 (da_cons (de_var 5) (da_cons (de_var 11) (da_nil))))))
      (dss_one (ds_ret (de_and (de_gt (de_len T.z_len (da_cons (de_var 10) (da_nil))) (de_int)) (de_one (de_eq hr (de_var 10) (de_bin op_rep op2_rep (de_ofL (dl_lst (da_cons (de_str) (da_nil)))) (de_len T.z_len (da_cons (de_var 10) (da_nil)))))))))))))))))))))))
end
end My
set_option Elab.async false
set_option linter.all false
set_option maxRecDepth 100000
set_option maxHeartbeats 4000000
namespace My
open PySem Dx
theorem xs_0_0 : excSub "BadKinds" "BadKinds" = true := by decide +kernel
theorem xs_0_1 : excSub "BadKinds" "BadName" = false := by decide +kernel
theorem xs_0_2 : excSub "BadKinds" "Twice" = false := by decide +kernel
theorem xs_0_3 : excSub "BadKinds" "BadPrice" = false := by decide +kernel
theorem xs_0_4 : excSub "BadKinds" "BadBasket" = false := by decide +kernel
theorem xs_0_5 : excSub "BadKinds" "TooMany" = false := by decide +kernel
theorem xs_0_6 : excSub "BadKinds" "BadOffer" = false := by decide +kernel
theorem xs_0_7 : excSub "BadKinds" "NoKind" = false := by decide +kernel
theorem xs_0_8 : excSub "BadKinds" "NoOffer" = false := by decide +kernel
theorem xs_0_9 : excSub "BadKinds" "TillError" = true := by decide +kernel
theorem xs_1_0 : excSub "BadName" "BadKinds" = false := by decide +kernel
theorem xs_1_1 : excSub "BadName" "BadName" = true := by decide +kernel
theorem xs_1_2 : excSub "BadName" "Twice" = false := by decide +kernel
theorem xs_1_3 : excSub "BadName" "BadPrice" = false := by decide +kernel
theorem xs_1_4 : excSub "BadName" "BadBasket" = false := by decide +kernel
theorem xs_1_5 : excSub "BadName" "TooMany" = false := by decide +kernel
theorem xs_1_6 : excSub "BadName" "BadOffer" = false := by decide +kernel
theorem xs_1_7 : excSub "BadName" "NoKind" = false := by decide +kernel
theorem xs_1_8 : excSub "BadName" "NoOffer" = false := by decide +kernel
theorem xs_1_9 : excSub "BadName" "TillError" = true := by decide +kernel
theorem xs_2_0 : excSub "Twice" "BadKinds" = false := by decide +kernel
theorem xs_2_1 : excSub "Twice" "BadName" = false := by decide +kernel
theorem xs_2_2 : excSub "Twice" "Twice" = true := by decide +kernel
theorem xs_2_3 : excSub "Twice" "BadPrice" = false := by decide +kernel
theorem xs_2_4 : excSub "Twice" "BadBasket" = false := by decide +kernel
theorem xs_2_5 : excSub "Twice" "TooMany" = false := by decide +kernel
theorem xs_2_6 : excSub "Twice" "BadOffer" = false := by decide +kernel
theorem xs_2_7 : excSub "Twice" "NoKind" = false := by decide +kernel
theorem xs_2_8 : excSub "Twice" "NoOffer" = false := by decide +kernel
theorem xs_2_9 : excSub "Twice" "TillError" = true := by decide +kernel
theorem xs_3_0 : excSub "BadPrice" "BadKinds" = false := by decide +kernel
theorem xs_3_1 : excSub "BadPrice" "BadName" = false := by decide +kernel
theorem xs_3_2 : excSub "BadPrice" "Twice" = false := by decide +kernel
theorem xs_3_3 : excSub "BadPrice" "BadPrice" = true := by decide +kernel
theorem xs_3_4 : excSub "BadPrice" "BadBasket" = false := by decide +kernel
theorem xs_3_5 : excSub "BadPrice" "TooMany" = false := by decide +kernel
theorem xs_3_6 : excSub "BadPrice" "BadOffer" = false := by decide +kernel
theorem xs_3_7 : excSub "BadPrice" "NoKind" = false := by decide +kernel
theorem xs_3_8 : excSub "BadPrice" "NoOffer" = false := by decide +kernel
theorem xs_3_9 : excSub "BadPrice" "TillError" = true := by decide +kernel
theorem xs_4_0 : excSub "BadBasket" "BadKinds" = false := by decide +kernel
theorem xs_4_1 : excSub "BadBasket" "BadName" = false := by decide +kernel
theorem xs_4_2 : excSub "BadBasket" "Twice" = false := by decide +kernel
theorem xs_4_3 : excSub "BadBasket" "BadPrice" = false := by decide +kernel
theorem xs_4_4 : excSub "BadBasket" "BadBasket" = true := by decide +kernel
theorem xs_4_5 : excSub "BadBasket" "TooMany" = false := by decide +kernel
theorem xs_4_6 : excSub "BadBasket" "BadOffer" = false := by decide +kernel
theorem xs_4_7 : excSub "BadBasket" "NoKind" = false := by decide +kernel
theorem xs_4_8 : excSub "BadBasket" "NoOffer" = false := by decide +kernel
theorem xs_4_9 : excSub "BadBasket" "TillError" = true := by decide +kernel
theorem xs_5_0 : excSub "TooMany" "BadKinds" = false := by decide +kernel
theorem xs_5_1 : excSub "TooMany" "BadName" = false := by decide +kernel
theorem xs_5_2 : excSub "TooMany" "Twice" = false := by decide +kernel
theorem xs_5_3 : excSub "TooMany" "BadPrice" = false := by decide +kernel
theorem xs_5_4 : excSub "TooMany" "BadBasket" = false := by decide +kernel
theorem xs_5_5 : excSub "TooMany" "TooMany" = true := by decide +kernel
theorem xs_5_6 : excSub "TooMany" "BadOffer" = false := by decide +kernel
theorem xs_5_7 : excSub "TooMany" "NoKind" = false := by decide +kernel
theorem xs_5_8 : excSub "TooMany" "NoOffer" = false := by decide +kernel
theorem xs_5_9 : excSub "TooMany" "TillError" = true := by decide +kernel
theorem xs_6_0 : excSub "BadOffer" "BadKinds" = false := by decide +kernel
theorem xs_6_1 : excSub "BadOffer" "BadName" = false := by decide +kernel
theorem xs_6_2 : excSub "BadOffer" "Twice" = false := by decide +kernel
theorem xs_6_3 : excSub "BadOffer" "BadPrice" = false := by decide +kernel
theorem xs_6_4 : excSub "BadOffer" "BadBasket" = false := by decide +kernel
theorem xs_6_5 : excSub "BadOffer" "TooMany" = false := by decide +kernel
theorem xs_6_6 : excSub "BadOffer" "BadOffer" = true := by decide +kernel
theorem xs_6_7 : excSub "BadOffer" "NoKind" = false := by decide +kernel
theorem xs_6_8 : excSub "BadOffer" "NoOffer" = false := by decide +kernel
theorem xs_6_9 : excSub "BadOffer" "TillError" = true := by decide +kernel
theorem xs_7_0 : excSub "NoKind" "BadKinds" = false := by decide +kernel
theorem xs_7_1 : excSub "NoKind" "BadName" = false := by decide +kernel
theorem xs_7_2 : excSub "NoKind" "Twice" = false := by decide +kernel
theorem xs_7_3 : excSub "NoKind" "BadPrice" = false := by decide +kernel
theorem xs_7_4 : excSub "NoKind" "BadBasket" = false := by decide +kernel
theorem xs_7_5 : excSub "NoKind" "TooMany" = false := by decide +kernel
theorem xs_7_6 : excSub "NoKind" "BadOffer" = false := by decide +kernel
theorem xs_7_7 : excSub "NoKind" "NoKind" = true := by decide +kernel
theorem xs_7_8 : excSub "NoKind" "NoOffer" = false := by decide +kernel
theorem xs_7_9 : excSub "NoKind" "TillError" = true := by decide +kernel
theorem xs_8_0 : excSub "NoOffer" "BadKinds" = false := by decide +kernel
theorem xs_8_1 : excSub "NoOffer" "BadName" = false := by decide +kernel
theorem xs_8_2 : excSub "NoOffer" "Twice" = false := by decide +kernel
theorem xs_8_3 : excSub "NoOffer" "BadPrice" = false := by decide +kernel
theorem xs_8_4 : excSub "NoOffer" "BadBasket" = false := by decide +kernel
theorem xs_8_5 : excSub "NoOffer" "TooMany" = false := by decide +kernel
theorem xs_8_6 : excSub "NoOffer" "BadOffer" = false := by decide +kernel
theorem xs_8_7 : excSub "NoOffer" "NoKind" = false := by decide +kernel
theorem xs_8_8 : excSub "NoOffer" "NoOffer" = true := by decide +kernel
theorem xs_8_9 : excSub "NoOffer" "TillError" = true := by decide +kernel
theorem one_class_any (c : Str) (hc : c ∈ csE) (a : Addr) : outRes (f_l_one_class c a (initEnv 2 a [])) = .ok (.bl true) := by
  have h : ∀ e : Sl, e[0]? = some (some (D.raw (.ref a))) → eVar 0 e = .ok (.raw (.ref a)) := fun e he => eVar_ap he
  simp only [csE, List.mem_cons, List.not_mem_nil, or_false] at hc
  rcases hc with rfl | rfl | rfl | rfl | rfl | rfl | rfl | rfl | rfl <;>
    simp [f_l_one_class, initEnv, eIsE, eMethL, D.countB, D.bools, xs_0_0, xs_0_1, xs_0_2, xs_0_3, xs_0_4, xs_0_5, xs_0_6, xs_0_7, xs_0_8, xs_0_9, xs_1_0, xs_1_1, xs_1_2, xs_1_3, xs_1_4, xs_1_5, xs_1_6, xs_1_7, xs_1_8, xs_1_9, xs_2_0, xs_2_1, xs_2_2, xs_2_3, xs_2_4, xs_2_5, xs_2_6, xs_2_7, xs_2_8, xs_2_9, xs_3_0, xs_3_1, xs_3_2, xs_3_3, xs_3_4, xs_3_5, xs_3_6, xs_3_7, xs_3_8, xs_3_9, xs_4_0, xs_4_1, xs_4_2, xs_4_3, xs_4_4, xs_4_5, xs_4_6, xs_4_7, xs_4_8, xs_4_9, xs_5_0, xs_5_1, xs_5_2, xs_5_3, xs_5_4, xs_5_5, xs_5_6, xs_5_7, xs_5_8, xs_5_9, xs_6_0, xs_6_1, xs_6_2, xs_6_3, xs_6_4, xs_6_5, xs_6_6, xs_6_7, xs_6_8, xs_6_9, xs_7_0, xs_7_1, xs_7_2, xs_7_3, xs_7_4, xs_7_5, xs_7_6, xs_7_7, xs_7_8, xs_7_9, xs_8_0, xs_8_1, xs_8_2, xs_8_3, xs_8_4, xs_8_5, xs_8_6, xs_8_7, xs_8_8, xs_8_9]
theorem hF_l_one_class : ∀ c ∈ csE, ∀ a, outRes (f_l_one_class c a (initEnv 2 a [])) = F_l_one_class c := fun c hc a => (one_class_any c hc a).trans (one_class_any c hc 0).symm
def wordOf (c : Str) : Str := if c = "BadKinds" then "kinds" else if c = "BadName" then "name" else if c = "Twice" then "twice" else if c = "BadPrice" then "price" else if c = "NoKind" then "none" else ""
theorem add_kinds : D.add (.str "") (.str "kinds") = .ok (.str "kinds") := id rfl
theorem add_name : D.add (.str "") (.str "name") = .ok (.str "name") := id rfl
theorem add_twice : D.add (.str "") (.str "twice") = .ok (.str "twice") := id rfl
theorem add_price : D.add (.str "") (.str "price") = .ok (.str "price") := id rfl
theorem add_none : D.add (.str "") (.str "none") = .ok (.str "none") := id rfl
theorem word_any (c : Str) (hc : c ∈ csE) (a : Addr) : outRes (f_l_word c a (initEnv 2 a [])) = .ok (.str (wordOf c)) := by
  have h1 : F_l_one_class c = .ok (.bl true) := one_class_any c hc 0
  simp only [csE, List.mem_cons, List.not_mem_nil, or_false] at hc
  rcases hc with rfl | rfl | rfl | rfl | rfl | rfl | rfl | rfl | rfl <;>
    simp [f_l_word, initEnv, eIsE, eCallH, h1, -add_str, add_kinds, add_name, add_twice, add_price, add_none, xs_0_0, xs_0_1, xs_0_2, xs_0_3, xs_0_4, xs_0_5, xs_0_6, xs_0_7, xs_0_8, xs_0_9, xs_1_0, xs_1_1, xs_1_2, xs_1_3, xs_1_4, xs_1_5, xs_1_6, xs_1_7, xs_1_8, xs_1_9, xs_2_0, xs_2_1, xs_2_2, xs_2_3, xs_2_4, xs_2_5, xs_2_6, xs_2_7, xs_2_8, xs_2_9, xs_3_0, xs_3_1, xs_3_2, xs_3_3, xs_3_4, xs_3_5, xs_3_6, xs_3_7, xs_3_8, xs_3_9, xs_4_0, xs_4_1, xs_4_2, xs_4_3, xs_4_4, xs_4_5, xs_4_6, xs_4_7, xs_4_8, xs_4_9, xs_5_0, xs_5_1, xs_5_2, xs_5_3, xs_5_4, xs_5_5, xs_5_6, xs_5_7, xs_5_8, xs_5_9, xs_6_0, xs_6_1, xs_6_2, xs_6_3, xs_6_4, xs_6_5, xs_6_6, xs_6_7, xs_6_8, xs_6_9, xs_7_0, xs_7_1, xs_7_2, xs_7_3, xs_7_4, xs_7_5, xs_7_6, xs_7_7, xs_7_8, xs_7_9, xs_8_0, xs_8_1, xs_8_2, xs_8_3, xs_8_4, xs_8_5, xs_8_6, xs_8_7, xs_8_8, xs_8_9] <;> rfl
theorem hF_l_word : ∀ c ∈ csE, ∀ a, outRes (f_l_word c a (initEnv 2 a [])) = F_l_word c := fun c hc a => (word_any c hc a).trans (word_any c hc 0).symm
def nameOk (z : Str) : Bool := decide (1 ≤ z.length) && (decide (z.length ≤ 8) && z.cps.toList.all az)
theorem mem_sign (c : Nat) (z : Str) : D.mem (.str ⟨#[c]⟩) (.str z) = .ok (decide (c ∈ z.cps.toList)) := by
  show Res.ok (!(Builtin.Str.occurrences z ⟨#[c]⟩ 0 z.length 1).isEmpty) = _
  rw [PyProof.Rows.empty_one, Bool.not_not]
theorem nin_az (c : Nat) : D.nin (.str ⟨#[c]⟩) (.str "abcdefghijklmnopqrstuvwxyz") = .ok (.bl (!az c)) := by
  show (D.mem _ _).map _ = _
  rw [mem_sign, alpha_toList, map_ok]
  congr 3
  unfold az
  by_cases h : c ∈ List.range' 97 26
  · rw [decide_eq_true h]
    rw [List.mem_range'] at h
    obtain ⟨i, hi, e⟩ := h
    rw [decide_eq_true (by omega : 97 ≤ c), decide_eq_true (by omega : c ≤ 122)]
    rfl
  · rw [decide_eq_false h]
    rw [List.mem_range'] at h
    by_cases h1 : 97 ≤ c
    · have : ¬ c ≤ 122 := fun h2 => h ⟨c - 97, by omega, by omega⟩
      rw [decide_eq_false this, Bool.and_false]
    · rw [decide_eq_false h1, Bool.false_and]
theorem lt_a (c : Nat) : (!decide ([c] < ("a" : Str).cps.toList) && !decide (("z" : Str).cps.toList < [c])) = az c := by
  have ha : ("a" : Str).cps.toList = [97] := by decide +kernel
  have hz : ("z" : Str).cps.toList = [122] := by decide +kernel
  rw [ha, hz]
  unfold az
  have h1 : ([c] < [97]) ↔ c < 97 := by simp [List.cons_lt_cons_iff]
  have h2 : ([122] < [c]) ↔ 122 < c := by simp [List.cons_lt_cons_iff]
  simp only [h1, h2]
  by_cases a : c < 97
  · have : ¬ 97 ≤ c := by omega
    simp [a, this]
  · have : 97 ≤ c := by omega
    by_cases b : 122 < c
    · have : ¬ c ≤ 122 := by omega
      simp [a, b, this]
    · have : c ≤ 122 := by omega
      simp [a, b, *]
theorem lc_nin (base : Sl) (hb : 1 < base.length) : ∀ cs : List Nat, lcGo (.one 1) t_l_is_name_1 g_l_is_name_1 base (cs.map fun c => .str ⟨#[c]⟩) = .ok ((cs.filter fun c => !az c).map fun c => .str ⟨#[c]⟩)
  | [] => rfl
  | c :: cs => by
    have e : eVar 1 (base.set 1 (some (.str ⟨#[c]⟩))) = .ok (.str ⟨#[c]⟩) := eVar_ap (List.getElem?_set_self hb)
    have ih := lc_nin base hb cs
    unfold t_l_is_name_1 g_l_is_name_1 at ih ⊢
    rw [List.map_cons, lcGo_one, ih, eTest_ap, eBin_ap, e, bind_ok, eC_ap, bind_ok, nin_az, bind_ok, isBl_bl]
    cases q : az c with
    | true => simp [q]
    | false => simp [q, e]
theorem l_is_name_str (z : Str) (hz : z.length ≤ 100000) : F_l_is_name [.str z] = .ok (.bl (nameOk z)) := by
  have hl : z.cps.toList.length = z.length := by simp [Str.length]
  by_cases h1 : 1 ≤ z.length
  · by_cases h2 : z.length ≤ 8
    · have e1 : ¬ ((z.length : Int) < 1) := by omega
      have e2 : ((z.length : Int) ≤ 8) := by omega
      have e3 : ((1 : Int) ≤ z.length) := by omega
      have hlc := lc_nin [some (.str z), none] (by show 1 < 2; decide) z.cps.toList
      have hcnt : ((z.cps.toList.filter fun c => !az c).length : Int) = 0 ↔ z.cps.toList.all az = true := by
        rw [List.all_eq_true]
        constructor
        · intro h x hx
          have : (z.cps.toList.filter fun c => !az c) = [] := by
            rw [← List.length_eq_zero_iff]
            omega
          rw [List.filter_eq_nil_iff] at this
          have := this x hx
          simpa using this
        · intro h
          have : (z.cps.toList.filter fun c => !az c) = [] := by
            rw [List.filter_eq_nil_iff]
            intro x hx
            simp [h x hx]
          rw [this]
          rfl
      have hb : (((z.cps.toList.filter fun c => !az c).length : Int) == 0) = z.cps.toList.all az := by
        cases q : z.cps.toList.all az with
        | true => rw [beq_iff_eq]; exact hcnt.mpr q
        | false =>
          rw [beq_eq_false_iff_ne]
          intro e
          rw [hcnt.mp e] at q
          cases q
      have hsl : z.cps.toList.length ≤ 100000 := by omega
      have n1 : nameOk z = z.cps.toList.all az := by simp [nameOk, h1, h2]
      have hs : z.cps.size ≤ 100000 := hz
      have hb' : (((z.cps.toList.filter fun c => !az c).length : Int) == 0) = z.cps.all az := by rw [hb]; simp
      simp [F_l_is_name, fnSem_ap, f_l_is_name, hz, e2, e3, eLc_ap, wipeE, hlc, hb', n1, hs]
    · have e2 : ¬ ((z.length : Int) ≤ 8) := by omega
      have e3 : ((1 : Int) ≤ z.length) := by omega
      simp [F_l_is_name, fnSem_ap, f_l_is_name, hz, e2, e3, nameOk, h2]
  · have e3 : ¬ ((1 : Int) ≤ z.length) := by omega
    simp [F_l_is_name, fnSem_ap, f_l_is_name, hz, e3, nameOk, h1]
theorem p_is_name_str (z : Str) (hz : z.length ≤ 100000) : F_p_is_name [.str z] = .ok (.bl (nameOk z)) := by
  by_cases h1 : 1 ≤ z.length
  · have e3 : ((1 : Int) ≤ z.length) := by omega
    by_cases h2 : z.length ≤ 8
    · have e2 : ((z.length : Int) ≤ 8) := by omega
      have n1 : nameOk z = z.cps.toList.all az := by simp [nameOk, h1, h2]
      have hf : (fun c => !decide ([c] < ("a" : Str).cps.toList) && !decide (("z" : Str).cps.toList < [c])) = az := funext lt_a
      simp [F_p_is_name, fnSem_ap, f_p_is_name, hz, e2, e3, hf, eAllS, n1]
    · have e2 : ¬ ((z.length : Int) ≤ 8) := by omega
      simp [F_p_is_name, fnSem_ap, f_p_is_name, hz, e2, e3, nameOk, h2]
  · have e3 : ¬ ((1 : Int) ≤ z.length) := by omega
    simp [F_p_is_name, fnSem_ap, f_p_is_name, hz, e3, nameOk, h1]
theorem l_is_name_int (x : Int) : F_l_is_name [.int x] = .ok (.bl false) := by simp [F_l_is_name, fnSem_ap, f_l_is_name]
theorem p_is_name_int (x : Int) : F_p_is_name [.int x] = .ok (.bl false) := by simp [F_p_is_name, fnSem_ap, f_p_is_name]
theorem p_is_whole_int (x : Int) : F_p_is_whole [.int x, .int 0, .int 100000] = .ok (.bl (decide (0 ≤ x) && decide (x ≤ 100000))) := by
  by_cases h : 0 ≤ x <;> simp [F_p_is_whole, fnSem_ap, f_p_is_whole, h]
theorem p_is_whole_bl (k : Bool) : F_p_is_whole [.bl k, .int 0, .int 100000] = .ok (.bl false) := by simp [F_p_is_whole, fnSem_ap, f_p_is_whole]
theorem p_is_whole_str (z : Str) : F_p_is_whole [.str z, .int 0, .int 100000] = .ok (.bl false) := by simp [F_p_is_whole, fnSem_ap, f_p_is_whole]
inductive Vd where | ok | name | twice | price
def Vd.word : Vd → Str | .ok => "" | .name => "name" | .twice => "twice" | .price => "price"
def Vd.cls : Vd → Str | .ok => "" | .name => "BadName" | .twice => "Twice" | .price => "BadPrice"
def nmB : D → Bool | .str z => nameOk z | _ => false
def prB : D → Bool | .int x => decide (0 ≤ x) && decide (x ≤ 100000) | _ => false
def FlatN (d : D) : Prop := (∃ z, d = .str z ∧ z.length ≤ 100000) ∨ ∃ i, d = .int i
def FlatP (d : D) : Prop := (∃ i, d = .int i) ∨ (∃ k, d = .bl k) ∨ ∃ z, d = .str z
inductive ItemOk : D → Prop
  | pair {n p : D} (hn : FlatN n) (hp : FlatP p) : ItemOk (.tup [n, p])
  | three (a b c : D) : ItemOk (.tup [a, b, c])
  | two (xs : List D) : ItemOk (.lst xs)
  | non : ItemOk .non
def dupB (names : List D) (n : D) : Bool := names.any fun y => D.eqF y n
def verd (names : List D) : D → Vd
  | .tup [n, p] => if nmB n = false then .name else if dupB names n = true then .twice else if prB p = false then .price else .ok
  | _ => .name
theorem FlatN.flat {d : D} (h : FlatN d) : D.flat d = true := by
  rcases h with ⟨z, rfl, _⟩ | ⟨i, rfl⟩ <;> rfl
theorem FlatP.flat {d : D} (h : FlatP d) : D.flat d = true := by
  rcases h with ⟨z, rfl⟩ | ⟨i, rfl⟩ | ⟨i, rfl⟩ <;> rfl
theorem l_is_name_any {d : D} (h : FlatN d) : F_l_is_name [d] = .ok (.bl (nmB d)) := by
  rcases h with ⟨z, rfl, hz⟩ | ⟨i, rfl⟩
  · exact l_is_name_str z hz
  · exact l_is_name_int i
theorem p_is_name_any {d : D} (h : FlatN d) : F_p_is_name [d] = .ok (.bl (nmB d)) := by
  rcases h with ⟨z, rfl, hz⟩ | ⟨i, rfl⟩
  · exact p_is_name_str z hz
  · exact p_is_name_int i
theorem p_is_whole_any {d : D} (h : FlatP d) : F_p_is_whole [d, .int 0, .int 100000] = .ok (.bl (prB d)) := by
  rcases h with ⟨z, rfl⟩ | ⟨i, rfl⟩ | ⟨i, rfl⟩
  · exact p_is_whole_int z
  · exact p_is_whole_bl i
  · exact p_is_whole_str i
theorem mem_names {n : D} {names : List D} (hn : D.flat n = true) (hs : names.all D.flat = true) : D.mem n (.lst names) = .ok (dupB names n) := by
  cases n <;> first | exact absurd hn Bool.false_ne_true | (show (if _ then _ else _) = _; rw [hs]; rfl)
theorem ix0 (a b : D) : D.ix (.tup [a, b]) (.int 0) = .ok a := rfl
theorem ix1 (a b : D) : D.ix (.tup [a, b]) (.int 1) = .ok b := rfl
theorem inn_names {n : D} {names : List D} (hn : D.flat n = true) (hs : names.all D.flat = true) : D.inn n (.lst names) = .ok (.bl (dupB names n)) := by
  unfold D.inn; rw [mem_names hn hs]; rfl
theorem need_kind_ok {d : D} (h : ItemOk d) {names : List D} (hs : names.all D.flat = true) : F_p_need_kind [d, .lst names] = match verd names d with | .ok => .ok .non | v => .err v.cls := by
  cases h with
  | pair hn hp =>
    rename_i n p
    have a1 := p_is_name_any hn
    have a2 := p_is_whole_any hp
    have a3 := inn_names hn.flat hs
    have a4 : F_p_is_pair [.tup [n, p]] = .ok (.bl true) := by simp [F_p_is_pair, fnSem_ap, f_p_is_pair]
    unfold verd
    by_cases b1 : nmB n = false
    · rw [b1] at a1
      simp [F_p_need_kind, fnSem_ap, f_p_need_kind, a4, ix0, a1, b1, Vd.cls]
    · rw [Bool.not_eq_false] at b1
      rw [b1] at a1
      cases b2 : dupB names n with
      | true =>
        rw [b2] at a3
        simp [F_p_need_kind, fnSem_ap, f_p_need_kind, a4, ix0, a1, b1, b2, a3, Vd.cls]
      | false =>
        rw [b2] at a3
        cases b3 : prB p with
        | true =>
          rw [b3] at a2
          simp [F_p_need_kind, fnSem_ap, f_p_need_kind, a4, ix0, ix1, a1, b1, b2, b3, a3, a2, Vd.cls]
        | false =>
          rw [b3] at a2
          simp [F_p_need_kind, fnSem_ap, f_p_need_kind, a4, ix0, ix1, a1, b1, b2, b3, a3, a2, Vd.cls]
  | three a b c =>
    have a4 : F_p_is_pair [.tup [a, b, c]] = .ok (.bl false) := by simp [F_p_is_pair, fnSem_ap, f_p_is_pair]
    simp [F_p_need_kind, fnSem_ap, f_p_need_kind, a4, verd, Vd.cls]
  | two xs =>
    have a4 : F_p_is_pair [.lst xs] = .ok (.bl false) := by simp [F_p_is_pair, fnSem_ap, f_p_is_pair]
    simp [F_p_need_kind, fnSem_ap, f_p_need_kind, a4, verd, Vd.cls]
  | non =>
    have a4 : F_p_is_pair [.non] = .ok (.bl false) := by simp [F_p_is_pair, fnSem_ap, f_p_is_pair]
    simp [F_p_need_kind, fnSem_ap, f_p_need_kind, a4, verd, Vd.cls]
def firstD : D → D
  | .tup (n :: _) => n
  | _ => .non
def scan (names : List D) : List D → Vd
  | [] => .ok
  | d :: ds => match verd names d with
    | .ok => scan (names ++ [firstD d]) ds
    | v => v
theorem verd_ok {names : List D} {d : D} (hi : ItemOk d) (h : verd names d = .ok) : ∃ n p, d = .tup [n, p] ∧ FlatN n ∧ FlatP p ∧ nmB n = true ∧ dupB names n = false ∧ prB p = true := by
  cases hi with
  | pair hn hp =>
    rename_i n p
    refine ⟨n, p, rfl, hn, hp, ?_⟩
    have h : (if nmB n = false then Vd.name else if dupB names n = true then .twice else if prB p = false then .price else .ok) = .ok := h
    by_cases b1 : nmB n = false
    · rw [if_pos b1] at h; cases h
    · rw [if_neg b1] at h
      by_cases b2 : dupB names n = true
      · rw [if_pos b2] at h; cases h
      · rw [if_neg b2] at h
        by_cases b3 : prB p = false
        · rw [if_pos b3] at h; cases h
        · exact ⟨by simpa using b1, by simpa using b2, by simpa using b3⟩
  | _ => cases h
theorem due_step {d all : D} {x : Option D} (h : ItemOk d) {names : List D} (hs : names.all D.flat = true) (hl : names.length < 100) :
    b_l_due_1 [some all, some (.lst names), some d] = match verd names d with | .ok => .nxt [some all, some (.lst (names ++ [firstD d])), some d] | v => .ret (.str v.word) := by
  cases h with
  | pair hn hp =>
    rename_i n p
    have a1 := l_is_name_any hn
    have a3 := inn_names hn.flat hs
    have hl' : names.length < 100000 := by omega
    unfold verd
    by_cases b1 : nmB n = false
    · rw [b1] at a1
      simp [b_l_due_1, ix0, a1, b1, Vd.word]
    · rw [Bool.not_eq_false] at b1
      rw [b1] at a1
      cases b2 : dupB names n with
      | true =>
        rw [b2] at a3
        simp [b_l_due_1, ix0, a1, b1, b2, a3, Vd.word]
      | false =>
        rw [b2] at a3
        rcases hp with ⟨i, rfl⟩ | ⟨k, rfl⟩ | ⟨z, rfl⟩
        · by_cases c1 : 0 ≤ i
          · by_cases c2 : i ≤ 100000
            · simp [b_l_due_1, ix0, ix1, a1, b1, b2, a3, prB, c1, c2, firstD, hl']
            · simp [b_l_due_1, ix0, ix1, a1, b1, b2, a3, prB, c1, c2, Vd.word]
          · simp [b_l_due_1, ix0, ix1, a1, b1, b2, a3, prB, c1, Vd.word]
        · simp [b_l_due_1, ix0, ix1, a1, b1, b2, a3, prB, Vd.word]
        · simp [b_l_due_1, ix0, ix1, a1, b1, b2, a3, prB, Vd.word]
  | three a b c => simp [b_l_due_1, verd, Vd.word]
  | two xs => simp [b_l_due_1, verd, Vd.word]
  | non => simp [b_l_due_1, verd, Vd.word]
theorem need_step {d all : D} {x : Option D} (h : ItemOk d) {names : List D} (hs : names.all D.flat = true) (hl : names.length < 100) :
    b_p_need_kinds_1 [some all, some (.lst names), some d] = match verd names d with | .ok => .nxt [some all, some (.lst (names ++ [firstD d])), some d] | v => .err v.cls [some all, some (.lst names), some d] := by
  have a := need_kind_ok h hs
  have hl' : names.length < 100000 := by omega
  cases q : verd names d with
  | ok =>
    rw [q] at a
    obtain ⟨n, p, rfl, _⟩ := verd_ok h q
    simp [b_p_need_kinds_1, a, ix0, firstD, hl']
  | name => rw [q] at a; simp [b_p_need_kinds_1, a, toOut]
  | twice => rw [q] at a; simp [b_p_need_kinds_1, a, toOut]
  | price => rw [q] at a; simp [b_p_need_kinds_1, a, toOut]
theorem due_loop {all : D} : ∀ (items names : List D) (x : Option D), (∀ d ∈ items, ItemOk d) → names.all D.flat = true → names.length + items.length < 100 →
    ∃ y, forGo (.one 2) b_l_due_1 items [some all, some (.lst names), x] = match scan names items with | .ok => .nxt [some all, some (.lst (names ++ items.map firstD)), y] | v => .ret (.str v.word)
  | [], names, x, _, _, _ => ⟨x, by simp [scan]⟩
  | d :: ds, names, x, hi, hs, hl => by
    have hd := hi d List.mem_cons_self
    have hl2 : names.length + (ds.length + 1) < 100 := hl
    have st := due_step (all := all) (x := x) hd hs (by omega)
    rw [forGo_one]
    show ∃ y, (b_l_due_1 [some all, some (.lst names), some d]).loop (forGo (.one 2) b_l_due_1 ds) = _
    rw [st]
    unfold scan
    cases q : verd names d with
    | ok =>
      obtain ⟨n, p, rfl, hn, _⟩ := verd_ok hd q
      obtain ⟨y, hy⟩ := due_loop (all := all) ds (names ++ [firstD (.tup [n, p])]) (some (.tup [n, p])) (fun c m => hi c (List.mem_cons_of_mem _ m)) (by rw [List.all_append, hs]; simp [firstD, hn.flat]) (by rw [List.length_append]; simp; omega)
      refine ⟨y, ?_⟩
      rw [loop_nxt, hy, List.append_assoc]
      rfl
    | name => exact ⟨none, rfl⟩
    | twice => exact ⟨none, rfl⟩
    | price => exact ⟨none, rfl⟩
theorem need_loop {all : D} : ∀ (items names : List D) (x : Option D), (∀ d ∈ items, ItemOk d) → names.all D.flat = true → names.length + items.length < 100 →
    ∃ e, forGo (.one 2) b_p_need_kinds_1 items [some all, some (.lst names), x] = match scan names items with | .ok => .nxt e | v => .err v.cls e
  | [], names, x, _, _, _ => ⟨_, rfl⟩
  | d :: ds, names, x, hi, hs, hl => by
    have hd := hi d List.mem_cons_self
    have hl2 : names.length + (ds.length + 1) < 100 := hl
    have st := need_step (all := all) (x := x) hd hs (by omega)
    rw [forGo_one]
    show ∃ e, (b_p_need_kinds_1 [some all, some (.lst names), some d]).loop (forGo (.one 2) b_p_need_kinds_1 ds) = _
    rw [st]
    unfold scan
    cases q : verd names d with
    | ok =>
      obtain ⟨n, p, rfl, hn, _⟩ := verd_ok hd q
      obtain ⟨y, hy⟩ := need_loop (all := all) ds (names ++ [firstD (.tup [n, p])]) (some (.tup [n, p])) (fun c m => hi c (List.mem_cons_of_mem _ m)) (by rw [List.all_append, hs]; simp [firstD, hn.flat]) (by rw [List.length_append]; simp; omega)
      exact ⟨y, by rw [loop_nxt, hy]⟩
    | name => exact ⟨_, rfl⟩
    | twice => exact ⟨_, rfl⟩
    | price => exact ⟨_, rfl⟩
theorem due_ok {items : List D} (hi : ∀ d ∈ items, ItemOk d) (h1 : 1 ≤ items.length) (h2 : items.length ≤ 5) : F_l_due [.lst items] = .ok (.str (scan [] items).word) := by
  have e1 : (1 : Int) ≤ items.length := by omega
  have e2 : (items.length : Int) ≤ 5 := by omega
  obtain ⟨y, hy⟩ := due_loop (all := .lst items) items [] none hi rfl (by simp; omega)
  cases q : scan [] items with
  | ok => rw [q] at hy; simp [F_l_due, fnSem_ap, f_l_due, e1, e2, hy, Vd.word]
  | name => rw [q] at hy; simp [F_l_due, fnSem_ap, f_l_due, e1, e2, hy, Vd.word]
  | twice => rw [q] at hy; simp [F_l_due, fnSem_ap, f_l_due, e1, e2, hy, Vd.word]
  | price => rw [q] at hy; simp [F_l_due, fnSem_ap, f_l_due, e1, e2, hy, Vd.word]
theorem need_ok {items : List D} (hi : ∀ d ∈ items, ItemOk d) (h1 : 1 ≤ items.length) (h2 : items.length ≤ 5) : F_p_need_kinds [.lst items] = match scan [] items with | .ok => .ok .non | v => .err v.cls := by
  have e1 : (1 : Int) ≤ items.length := by omega
  have e2 : (items.length : Int) ≤ 5 := by omega
  obtain ⟨y, hy⟩ := need_loop (all := .lst items) items [] none hi rfl (by simp; omega)
  cases q : scan [] items with
  | ok => rw [q] at hy; simp [F_p_need_kinds, fnSem_ap, f_p_need_kinds, e1, e2, hy]
  | name => rw [q] at hy; simp [F_p_need_kinds, fnSem_ap, f_p_need_kinds, e1, e2, hy]
  | twice => rw [q] at hy; simp [F_p_need_kinds, fnSem_ap, f_p_need_kinds, e1, e2, hy]
  | price => rw [q] at hy; simp [F_p_need_kinds, fnSem_ap, f_p_need_kinds, e1, e2, hy]
def secondD : D → D
  | .tup (_ :: p :: _) => p
  | _ => .non
theorem scan_all : ∀ {items names : List D}, (∀ d ∈ items, ItemOk d) → scan names items = .ok → ∀ d ∈ items, ∃ n p, d = .tup [n, p] ∧ FlatN n ∧ FlatP p ∧ nmB n = true ∧ prB p = true
  | [], _, _, _, d, m => by cases m
  | c :: ds, names, hi, h, d, m => by
    unfold scan at h
    cases q : verd names c with
    | ok =>
      rw [q] at h
      rcases List.mem_cons.mp m with rfl | m
      · obtain ⟨n, p, e, a1, a2, a3, _, a4⟩ := verd_ok (hi _ List.mem_cons_self) q
        exact ⟨n, p, e, a1, a2, a3, a4⟩
      · exact scan_all (fun c m => hi c (List.mem_cons_of_mem _ m)) h d m
    | name => rw [q] at h; cases h
    | twice => rw [q] at h; cases h
    | price => rw [q] at h; cases h
def fstAll (k : Int) : List D → Res (List D)
  | [] => .ok []
  | d :: ds => consR (.ok true) (fun _ => D.ix d (.int k)) (fstAll k ds)
theorem lc_ix (k : Int) (base : Sl) (hb : 2 < base.length) : ∀ l : List D, lcGo (.one 2) eYes (eBin D.ix (eVar 2) (eC (.int k))) base l = fstAll k l
  | [] => rfl
  | d :: ds => by
    have e : eVar 2 (base.set 2 (some d)) = .ok d := eVar_ap (List.getElem?_set_self hb)
    rw [lcGo_one, lc_ix k base hb ds, eYes_ap]
    simp only [eBin_ap, e, bind_ok, eC_ap]
    rfl
theorem lc_ix0 (base : Sl) (hb : 2 < base.length) (l : List D) : lcGo (.one 2) eYes g_p_Shop_init_1 base l = fstAll 0 l := lc_ix 0 base hb l
theorem lc_ix1 (base : Sl) (hb : 2 < base.length) (l : List D) : lcGo (.one 2) eYes g_p_Shop_init_2 base l = fstAll 1 l := lc_ix 1 base hb l
theorem fst0 : ∀ {items : List D}, (∀ d ∈ items, ∃ n p, d = .tup [n, p] ∧ FlatN n ∧ FlatP p ∧ nmB n = true ∧ prB p = true) → fstAll 0 items = .ok (items.map firstD) ∧ fstAll 1 items = .ok (items.map secondD) ∧ (items.map firstD).all D.flat = true ∧ (items.map secondD).all D.flat = true
  | [], _ => ⟨rfl, rfl, rfl, rfl⟩
  | d :: ds, h => by
    obtain ⟨n, p, rfl, hn, hp, _⟩ := h d List.mem_cons_self
    obtain ⟨a, b, c, e⟩ := fst0 (items := ds) fun c m => h c (List.mem_cons_of_mem _ m)
    refine ⟨?_, ?_, ?_, ?_⟩
    · unfold fstAll; rw [a, ix0, consR_t]; rfl
    · unfold fstAll; rw [b, ix1, consR_t]; rfl
    · rw [List.map_cons, List.all_cons, c]; simp [firstD, hn.flat]
    · rw [List.map_cons, List.all_cons, e]; simp [secondD, hp.flat]
def initRes (d : D) : Res (List (Str × D)) := (F_p_need_kinds [d]).bind fun _ => (((D.items d).bind fun l => lim l.length (fstAll 0 l)).bind flatL).bind fun l1 => (((D.items d).bind fun l => lim l.length (fstAll 1 l)).bind flatL).bind fun l2 => .ok [("names", .lst l1), ("prices", .lst l2)]
theorem init_cons (a : Addr) (d : D) (rest : List D) : F0_p_Shop_init a (d :: rest) = initRes d := by
  have h1 : eVar 1 (initEnv 3 a (d :: rest)) = .ok d := eVar_ap (by simp [initEnv])
  have h2 : selfAt (initEnv 3 a (d :: rest)) = some a := by simp [selfAt, initEnv]
  have h3 : 2 < (wipeE (initEnv 3 a (d :: rest)) [2]).length := by simp [wipeE, initEnv]; omega
  unfold F0_p_Shop_init initTwo initRes
  simp only [sDrop_ap, eCall_ap, eCons_ap, h1, bind_ok, eNil_ap, map_ok]
  cases F_p_need_kinds [d] with
  | ok r => simp only [map_ok, toOut_ok, bind_ok, h2, if_true, eLc_ap, eItems_ap, h1, lc_ix0 _ h3, lc_ix1 _ h3]
  | err c => rfl
  | stuck => rfl
theorem init_nil (a : Addr) : F0_p_Shop_init a [] = .stuck := by
  have h1 : eVar 1 (initEnv 3 a []) = .stuck := rfl
  unfold F0_p_Shop_init initTwo
  simp only [sDrop_ap, eCall_ap, eCons_ap, h1, bind_stuck, map_stuck]
  rfl
theorem hF_p_Shop_init : ∀ a ds, F0_p_Shop_init a ds = F_p_Shop_init ds := fun a ds => by
  cases ds with
  | nil => exact (init_nil a).trans (init_nil 0).symm
  | cons d rest => exact (init_cons a d rest).trans (init_cons 0 d rest).symm
def shopD (items : List D) : D := .obj "Shop" [("names", .lst (items.map firstD)), ("prices", .lst (items.map secondD))]
theorem told_ap (d : D) : F_l_told [d] = match initRes d with | .ok gs => .ok (.obj "Shop" gs) | .err c => if c ∈ csE then (match F_l_word c with | .ok d => if D.flat d = true then .ok d else .stuck | _ => .stuck) else .stuck | .stuck => .stuck := by
  have h1 : eVar 0 (startE 3 [d]) = .ok d := eVar_ap rfl
  have h2 : F_p_Shop_init [d] = initRes d := init_cons 0 d []
  unfold F_l_told toldSem
  simp only [eMake_ap, eCons_ap, h1, bind_ok, eNil_ap, map_ok, h2]
  cases initRes d <;> rfl
theorem told_err {d : D} {c : Str} (hc : c ∈ csE) (h : F_p_need_kinds [d] = .err c) : F_l_told [d] = .ok (.str (wordOf c)) := by
  rw [told_ap]
  unfold initRes
  rw [h, bind_err]
  have hw : F_l_word c = .ok (.str (wordOf c)) := word_any c hc 0
  dsimp only
  rw [if_pos hc, hw]
  dsimp only
  rw [if_pos (flat_str)]
theorem told_kinds {items : List D} (hi : ∀ d ∈ items, ItemOk d) (h1 : 1 ≤ items.length) (h2 : items.length ≤ 5) : F_l_told [.lst items] = match scan [] items with | .ok => .ok (shopD items) | v => .ok (.str v.word) := by
  have hn := need_ok hi h1 h2
  cases q : scan [] items with
  | ok =>
    rw [q] at hn
    obtain ⟨a, b, c, e⟩ := fst0 (scan_all hi q)
    have hl : items.length ≤ 100000 := by omega
    rw [told_ap]
    unfold initRes
    rw [hn]
    simp only [bind_ok, items_lst, lim_ok hl, a, b, flatL, c, e, if_true]
    rfl
  | name => rw [q] at hn; exact told_err (by decide) hn
  | twice => rw [q] at hn; exact told_err (by decide) hn
  | price => rw [q] at hn; exact told_err (by decide) hn
def cellN (ns : List Int) (k : Nat) : Int := ns.getD k 0
theorem cell_at_ok (ns : List Int) (k : Nat) : F_l_cell_at [.fz (dInts ns), .int (k : Int)] = .ok (.int (cellN ns k)) := by
  by_cases h : k < ns.length
  · simp [F_l_cell_at, fnSem_ap, f_l_cell_at, h, ix_fz h, cellN]
  · simp [F_l_cell_at, fnSem_ap, f_l_cell_at, h, cellN, List.getD_eq_getElem?_getD, List.getElem?_eq_none (Nat.le_of_not_lt h)]
def numN (ns : List Int) (k : Nat) : Int := if ns.length = 0 then 5003 * k else (ns.getD (k % ns.length) 0 + 7919 * ((k / ns.length : Nat) : Int) + 101 * k) * 48271 % 2147483647
theorem number_ok (ns : List Int) (hl : ns.length ≤ 63) (k : Nat) : F_l_number [.fz (dInts ns), .int (k : Int)] = .ok (.int (numN ns k)) := by
  by_cases h : ns.length = 0
  · simp [F_l_number, fnSem_ap, f_l_number, h, numN, D.fits]
  · have hp : (0 : Int) < ns.length := by omega
    have hp2 : (ns.length : Int) < 1073741824 := by omega
    have hm : ((k : Int) % (ns.length : Int)) = ((k % ns.length : Nat) : Int) := by simp
    have lt : k % ns.length < ns.length := Nat.mod_lt _ (by omega)
    have e : ((ns.length : Int) == 0) = false := by
      rw [beq_eq_false_iff_ne]
      omega
    have hx : D.ix (.fz (dInts ns)) (.int ((k : Int) % (ns.length : Int))) = .ok (.int (ns.getD (k % ns.length) 0)) := by rw [hm]; exact ix_fz lt
    have h1 := mod_int (x := (k : Int)) hp
    have h2 := fdiv_int (x := (k : Int)) hp hp2
    simp [F_l_number, fnSem_ap, f_l_number, h, numN, D.fits, e, h1, h2, hx]
end My
set_option Elab.async false
set_option linter.all false
set_option maxRecDepth 100000
set_option maxHeartbeats 4000000
namespace My
open PySem Dx
def numI (ns : List Int) (i : Int) : Int := numN ns i.toNat
theorem cell_int {ns : List Int} {i : Int} (h : 0 ≤ i) : F_l_cell_at [.fz (dInts ns), .int i] = .ok (.int (cellN ns i.toNat)) := by
  obtain ⟨k, rfl⟩ := Int.eq_ofNat_of_zero_le h; exact cell_at_ok ns k
theorem number_int {ns : List Int} (hl : ns.length ≤ 63) {i : Int} (h : 0 ≤ i) : F_l_number [.fz (dInts ns), .int i] = .ok (.int (numI ns i)) := by
  obtain ⟨k, rfl⟩ := Int.eq_ofNat_of_zero_le h; exact number_ok ns hl k
end My
open PySem Dx in
local macro_rules | `(tactic| walk_at "evop") => `(tactic| ((with_reducible apply sl_from) <;> walk_at "size"))
open PySem Dx in
local macro_rules | `(tactic| walk_at "evop") => `(tactic| ((with_reducible apply sl_to) <;> walk_at "size"))
open PySem Dx in
local macro_rules | `(tactic| walk_at "evop") => `(tactic| ((with_reducible apply len_S); walk_at "size"))
open PySem Dx in
local macro_rules | `(tactic| walk_at "evop") => `(tactic| ((with_reducible apply add_S); walk_at "size"))
open PySem Dx in
local macro_rules | `(tactic| walk_at "evop") => `(tactic| ((with_reducible apply My.number_int) <;> first | with_reducible assumption | omega))
open PySem Dx in
local macro_rules | `(tactic| walk_at "evop") => `(tactic| ((with_reducible apply My.cell_int); omega))
open PySem Dx in
local macro_rules | `(tactic| walk_at "evop") => `(tactic| with_reducible assumption)
namespace My
open PySem Dx
theorem nb_step {sc k al sm : D} {num step : Int} {j : Nat} {l : List Nat} {c : Nat} {x y : Option D} (hix : D.ix sm (.int ((num / 208 + j * step) % 26)) = .ok (.str (S [c]))) (hj : j ≤ 1000) (hl : l.length ≤ 1000) :
    b_l_name_by_1 [some sc, some k, some sm, some al, some (.int num), some (.int step), some (.str (S l)), some (.int j), x, y] = .nxt [some sc, some k, some sm, some al, some (.int num), some (.int step), some (.str (S (l ++ [c]))), some (.int j), x, y] := by
  unfold b_l_name_by_1
  walk_at "ev"
theorem nb_loop {ns : List Int} {k al : D} {num step : Int} {x y : Option D} {m : Nat} (hm : m ≤ 8) :
    ∃ e, forGo (.one 7) b_l_name_by_1 ((List.range m).map fun (k : Nat) => .int k) [some (.fz (dInts ns)), some k, some (.str "abcdefghijklmnopqrstuvwxyz"), some al, some (.int num), some (.int step), some (.str ""), none, x, y] = .nxt e ∧
      ∃ l z, e = [some (.fz (dInts ns)), some k, some (.str "abcdefghijklmnopqrstuvwxyz"), some al, some (.int num), some (.int step), some (.str (S l)), z, x, y] ∧ l.length = m ∧ ∀ c ∈ l, az c = true := by
  rw [empty_S]
  refine for_range (fun n e => ∃ l z, e = [some (.fz (dInts ns)), some k, some (.str "abcdefghijklmnopqrstuvwxyz"), some al, some (.int num), some (.int step), some (.str (S l)), z, x, y] ∧ l.length = n ∧ ∀ c ∈ l, az c = true) ⟨[], none, rfl, rfl, fun c h => by cases h⟩ fun j e hj h => ?_
  obtain ⟨l, z, rfl, h1, h2⟩ := h
  obtain ⟨c, hc, hix⟩ := ix_alpha (num / 208 + j * step)
  refine ⟨_, nb_step hix (by omega) (by omega), l ++ [c], _, rfl, by simp [h1], fun d hd => ?_⟩
  rcases List.mem_append.mp hd with q | q
  · exact h2 d q
  · rw [List.mem_singleton.mp q]; exact hc
theorem name_by_ok {ns : List Int} (hl : ns.length ≤ 63) (k : Nat) : ∃ l, nm l ∧ F_l_name_by [.fz (dInts ns), .int (k : Int)] = .ok (.str (S l)) := by
  have two : cellN ns 0 / 5 % 2 = 0 ∨ cellN ns 0 / 5 % 2 = 1 := by omega
  rcases two with h | h
  · have he : D.eq (.int (cellN ns (Int.toNat 0) / 5 % 2)) (.int 1) = .ok (.bl false) := by rw [eq_int]; show Res.ok (D.bl (cellN ns 0 / 5 % 2 == 1)) = _; rw [h]; rfl
    have hz := Int.emod_nonneg (numI ns (1 + 3 * k * 1)) (b := 8) (by decide)
    have hz2 := Int.emod_lt_of_pos (numI ns (1 + 3 * k * 1)) (b := 8) (by decide)
    obtain ⟨e, he1, l, z, rfl, hl1, hl2⟩ := nb_loop (ns := ns) (k := .int k) (al := .bl false) (num := numI ns (1 + 3 * k * 1)) (step := 1 + numI ns (1 + 3 * k * 1) / 5408 % 25) (x := none) (y := none) (m := (1 + numI ns (1 + 3 * k * 1) % 8).toNat) (by omega)
    refine ⟨l, ⟨by omega, by omega, hl2⟩, ?_⟩
    unfold F_l_name_by f_l_name_by
    walk_at "ev"
  · have he : D.eq (.int (cellN ns (Int.toNat 0) / 5 % 2)) (.int 1) = .ok (.bl true) := by rw [eq_int]; show Res.ok (D.bl (cellN ns 0 / 5 % 2 == 1)) = _; rw [h]; rfl
    have hz := Int.emod_nonneg (numI ns (1 + 3 * k * 0)) (b := 8) (by decide)
    have hz2 := Int.emod_lt_of_pos (numI ns (1 + 3 * k * 0)) (b := 8) (by decide)
    obtain ⟨e, he1, l, z, rfl, hl1, hl2⟩ := nb_loop (ns := ns) (k := .int k) (al := .bl true) (num := numI ns (1 + 3 * k * 0)) (step := 1 + numI ns (1 + 3 * k * 0) / 5408 % 25) (x := none) (y := none) (m := (1 + numI ns (1 + 3 * k * 0) % 8).toNat) (by omega)
    obtain ⟨c, hc, hix⟩ := ix_alpha (numI ns (1 + 3 * k * 0) / 64 + 5 * k)
    have hp0 := Int.emod_nonneg (numI ns (1 + 3 * k * 0) / 8) (b := l.length) (by omega)
    have hp1 := Int.emod_lt_of_pos (numI ns (1 + 3 * k * 0) / 8) (b := l.length) (by omega)
    have hlen : (l.take (numI ns (1 + 3 * k * 0) / 8 % l.length).toNat ++ [c] ++ l.drop (numI ns (1 + 3 * k * 0) / 8 % l.length + 1).toNat).length = l.length := by
      simp only [List.length_append, List.length_take, List.length_drop, List.length_cons, List.length_nil]; omega
    refine ⟨l.take (numI ns (1 + 3 * k * 0) / 8 % l.length).toNat ++ [c] ++ l.drop (numI ns (1 + 3 * k * 0) / 8 % l.length + 1).toNat, ⟨by rw [hlen]; omega, by rw [hlen]; omega, fun d hd => ?_⟩, ?_⟩
    · rcases List.mem_append.mp hd with q | q
      · rcases List.mem_append.mp q with q | q
        · exact hl2 d (List.mem_of_mem_take q)
        · rw [List.mem_singleton.mp q]; exact hc
      · exact hl2 d (List.mem_of_mem_drop q)
    have b1 : (l.take (numI ns (1 + 3 * k * 0) / 8 % l.length).toNat).length ≤ 8 := by rw [List.length_take]; omega
    have b2 : (l.drop (numI ns (1 + 3 * k * 0) / 8 % l.length + 1).toNat).length ≤ 8 := by rw [List.length_drop]; omega
    unfold F_l_name_by f_l_name_by
    walk_at "ev"
end My
set_option Elab.async false
set_option linter.all false
set_option maxRecDepth 100000
set_option maxHeartbeats 4000000
open PySem Dx in
local macro_rules | `(tactic| walk_at "evop") => `(tactic| ((with_reducible apply sl_from) <;> walk_at "size"))
open PySem Dx in
local macro_rules | `(tactic| walk_at "evop") => `(tactic| ((with_reducible apply sl_to) <;> walk_at "size"))
open PySem Dx in
local macro_rules | `(tactic| walk_at "evop") => `(tactic| ((with_reducible apply len_S); walk_at "size"))
open PySem Dx in
local macro_rules | `(tactic| walk_at "evop") => `(tactic| ((with_reducible apply add_S); walk_at "size"))
open PySem Dx in
local macro_rules | `(tactic| walk_at "evop") => `(tactic| ((with_reducible apply My.number_int) <;> first | with_reducible assumption | omega))
open PySem Dx in
local macro_rules | `(tactic| walk_at "evop") => `(tactic| ((with_reducible apply My.cell_int); omega))
open PySem Dx in
local macro_rules | `(tactic| walk_at "evop") => `(tactic| with_reducible assumption)
namespace My
open PySem Dx
def KD (ks : List (List Nat × Int)) : List D := ks.map fun p => .tup [.str (S p.1), .int p.2]
def ND (ks : List (List Nat × Int)) : List D := ks.map fun p => .str (S p.1)
structure Kok (ks : List (List Nat × Int)) : Prop where
  nm : ∀ p ∈ ks, Dx.nm p.1
  pr : ∀ p ∈ ks, 0 ≤ p.2 ∧ p.2 ≤ 100000
  nd : (ks.map (·.1)).Nodup
theorem ND_flat (ks : List (List Nat × Int)) : (ND ks).all D.flat = true := by simp [ND, List.all_map]
theorem dup_ND (l : List Nat) : ∀ ks : List (List Nat × Int), dupB (ND ks) (.str (S l)) = decide (l ∈ ks.map (·.1))
  | [] => by simp [ND, dupB]
  | p :: ks => by
    have ih := dup_ND l ks
    unfold dupB ND at ih ⊢
    rw [List.map_cons, List.any_cons, ih]
    show ((S p.1 == S l) || _) = _
    rw [S_eq, List.map_cons]
    by_cases h : p.1 = l
    · subst h; simp
    · simp [h, Ne.symm h]
theorem inn_ND (l : List Nat) (ks : List (List Nat × Int)) : D.inn (.str (S l)) (.lst (ND ks)) = .ok (.bl (decide (l ∈ ks.map (·.1)))) := by
  rw [inn_names (names := ND ks) rfl (ND_flat ks), dup_ND]
theorem nin_ND (l : List Nat) (ks : List (List Nat × Int)) : D.nin (.str (S l)) (.lst (ND ks)) = .ok (.bl (!decide (l ∈ ks.map (·.1)))) := by
  unfold D.nin; rw [mem_names (names := ND ks) rfl (ND_flat ks), dup_ND]; rfl
theorem ix_abcde {k : Nat} (h : k < 5) : ∃ c, az c = true ∧ D.ix (.str "abcde") (.int (k : Int)) = .ok (.str (S [c])) := by
  have e : ("abcde" : Str) = S [97, 98, 99, 100, 101] := by decide +kernel
  refine ⟨[97, 98, 99, 100, 101].getD k 0, ?_, by rw [e]; exact ix_S (by simpa using h) (by decide)⟩
  have : k = 0 ∨ k = 1 ∨ k = 2 ∨ k = 3 ∨ k = 4 := by omega
  rcases this with rfl | rfl | rfl | rfl | rfl <;> decide
theorem KD_add {ks : List (List Nat × Int)} {l : List Nat} {p : Int} : KD ks ++ [D.tup [.str (S l), .int p]] = KD (ks ++ [(l, p)]) := by simp [KD]
theorem ND_add {ks : List (List Nat × Int)} {l : List Nat} {p : Int} : ND ks ++ [D.str (S l)] = ND (ks ++ [(l, p)]) := by simp [ND]
theorem KD_len (ks : List (List Nat × Int)) : (KD ks).length = ks.length := by simp [KD]
theorem ND_len (ks : List (List Nat × Int)) : (ND ks).length = ks.length := by simp [ND]
theorem Kok.add {ks : List (List Nat × Int)} (h : Kok ks) {l : List Nat} {p : Int} (hl : Dx.nm l) (hp : 0 ≤ p ∧ p ≤ 100000) (hn : l ∉ ks.map (·.1)) : Kok (ks ++ [(l, p)]) := by
  refine ⟨fun q m => ?_, fun q m => ?_, ?_⟩
  · rcases List.mem_append.mp m with m | m
    · exact h.nm q m
    · rw [List.mem_singleton.mp m]; exact hl
  · rcases List.mem_append.mp m with m | m
    · exact h.pr q m
    · rw [List.mem_singleton.mp m]; exact hp
  · rw [List.map_append, List.nodup_append]
    refine ⟨h.nd, by simp, fun a ha b hb e => ?_⟩
    simp at hb
    subst hb; subst e
    exact hn ha
def kInv (sc : D) (k : Nat) (e : Sl) : Prop := ∃ ks x3 x4 x5 x6, e = [some sc, some (.lst (KD ks)), some (.lst (ND ks)), x3, x4, x5, x6] ∧ Kok ks ∧ ks.length ≤ k ∧ (1 ≤ k → 1 ≤ ks.length)
theorem kinds_step {ns : List Int} (hl : ns.length ≤ 63) {k : Nat} {e : Sl} (hk : k < 5) (h : kInv (.fz (dInts ns)) k e) : ∃ e1, b_l_kinds_1 (e.set 3 (some (.int (k : Int)))) = .nxt e1 ∧ kInv (.fz (dInts ns)) (k + 1) e1 := by
  obtain ⟨ks, x3, x4, x5, x6, rfl, hok, hlen, h1⟩ := h
  obtain ⟨l, hnm, hname⟩ := name_by_ok hl k
  obtain ⟨c, hc, hix⟩ := ix_abcde hk
  have hKl := KD_len ks
  have hNl := ND_len ks
  have hl8 := hnm.hi
  have ha0 : D.add (.str (S (l.take 7))) (.str (S [c])) = .ok (.str (S (l.take 7 ++ [c]))) := add_S (by rw [List.length_take, List.length_cons, List.length_nil]; omega)
  have hsl : D.sl (.str (S l)) none (some 7) = .ok (.str (S (l.take 7))) := sl_to (by omega) (by omega)
  have fin : ∀ (l' : List Nat) (p : Int), Dx.nm l' → (0 ≤ p ∧ p ≤ 100000) → l' ∉ ks.map (·.1) → kInv (.fz (dInts ns)) (k + 1) [some (.fz (dInts ns)), some (.lst (KD ks ++ [.tup [.str (S l'), .int p]])), some (.lst (ND ks ++ [.str (S l')])), some (.int k), some (.int (numI ns (3 * k + 2))), some (.str (S l')), some (.int p)] := fun l' p a b d =>
    ⟨ks ++ [(l', p)], _, _, _, _, by rw [KD_add, ND_add], hok.add a b d, by simp; omega, fun _ => by simp⟩
  have hnm2 : Dx.nm (l.take 7 ++ [c]) := ⟨by simp, by simp; omega, fun d m => by
    rcases List.mem_append.mp m with m | m
    · exact hnm.az d (List.mem_of_mem_take m)
    · rw [List.mem_singleton.mp m]; exact hc⟩
  have key : ∀ p : Int, (0 ≤ p ∧ p ≤ 100000) → ∃ e1, (sSeq (sIf (eTest (eBin D.inn (eVar 5) (eVar 2)))
      (sSet 5 (eBin D.add (eSl (eVar 5) (eNoPart) (ePart (eC (.int 7)))) (eBin D.ix (eC (.str "abcde")) (eVar 3))))
      (sNext))
      (sIf (eTest (eBin D.nin (eVar 5) (eVar 2)))
      (sSeq (sApp 2 (eVar 5))
      (sApp 1 (eTup (eCons (eVar 5) (eCons (eVar 6) (eNil))))))
      (sNext))) [some (.fz (dInts ns)), some (.lst (KD ks)), some (.lst (ND ks)), some (.int k), some (.int (numI ns (3 * k + 2))), some (.str (S l)), some (.int p)] = .nxt e1 ∧ kInv (.fz (dInts ns)) (k + 1) e1 := fun p hp => by
    by_cases hin : l ∈ ks.map (·.1)
    · have i1 := inn_ND l ks
      rw [decide_eq_true hin] at i1
      by_cases hin2 : (l.take 7 ++ [c]) ∈ ks.map (·.1)
      · have i2 := nin_ND (l.take 7 ++ [c]) ks
        rw [decide_eq_true hin2] at i2
        apply exN
        · walk_at "ev"
        · refine ⟨ks, _, _, _, _, rfl, hok, by omega, fun _ => ?_⟩
          cases ks with
          | nil => simp at hin
          | cons a b => simp
      · have i2 := nin_ND (l.take 7 ++ [c]) ks
        rw [decide_eq_false hin2] at i2
        apply exN
        · walk_at "ev"
        · exact fin (l.take 7 ++ [c]) p hnm2 hp hin2
    · have i1 := inn_ND l ks
      have i2 := nin_ND l ks
      rw [decide_eq_false hin] at i1 i2
      apply exN
      · walk_at "ev"
      · exact fin l p hnm hp hin
  have h3 := Int.emod_nonneg (numI ns (3 * k + 2)) (b := 3) (by decide)
  by_cases h0 : numI ns (3 * k + 2) % 3 = 0
  · obtain ⟨e1, q1, q2⟩ := key (numI ns (3 * k + 2) / 1009 % 100001) (by omega)
    refine ⟨e1, ?_, q2⟩
    unfold b_l_kinds_1
    simp only [List.set_cons_succ, List.set_cons_zero]
    walk_at "ev"
  · obtain ⟨e1, q1, q2⟩ := key (numI ns (3 * k + 2) / 1009 % 100) (by omega)
    refine ⟨e1, ?_, q2⟩
    unfold b_l_kinds_1
    simp only [List.set_cons_succ, List.set_cons_zero]
    walk_at "ev"
theorem kinds_ok {ns : List Int} (hl : ns.length ≤ 63) : ∃ ks, Kok ks ∧ 1 ≤ ks.length ∧ ks.length ≤ 5 ∧ F_l_kinds [.fz (dInts ns)] = .ok (.lst (KD ks)) := by
  have h1 := Int.emod_nonneg (cellN ns (Int.toNat 0)) (b := 5) (by decide)
  have h2 := Int.emod_lt_of_pos (cellN ns (Int.toNat 0)) (b := 5) (by decide)
  obtain ⟨e, he, ks, x3, x4, x5, x6, rfl, hok, hlen, hp⟩ := for_range (i := 3) (s := b_l_kinds_1) (kInv (.fz (dInts ns))) (m := (1 + cellN ns (Int.toNat 0) % 5).toNat) (env := [some (.fz (dInts ns)), some (.lst []), some (.lst []), none, none, none, none]) ⟨[], _, _, _, _, rfl, ⟨by simp, by simp, by simp⟩, by simp, by omega⟩ fun k e hk hi => kinds_step hl (by omega) hi
  refine ⟨ks, hok, hp (by omega), by omega, ?_⟩
  unfold F_l_kinds f_l_kinds
  walk_at "ev"
end My
set_option Elab.async false
set_option linter.all false
set_option maxRecDepth 100000
set_option maxHeartbeats 4000000
open PySem Dx in
local macro_rules | `(tactic| walk_at "evop") => `(tactic| ((with_reducible apply slD_from); walk_at "size"))
open PySem Dx in
local macro_rules | `(tactic| walk_at "evop") => `(tactic| ((with_reducible apply slD_to); walk_at "size"))
open PySem Dx in
local macro_rules | `(tactic| walk_at "evop") => `(tactic| ((with_reducible apply sl_from) <;> walk_at "size"))
open PySem Dx in
local macro_rules | `(tactic| walk_at "evop") => `(tactic| ((with_reducible apply sl_to) <;> walk_at "size"))
open PySem Dx in
local macro_rules | `(tactic| walk_at "evop") => `(tactic| ((with_reducible apply len_S); walk_at "size"))
open PySem Dx in
local macro_rules | `(tactic| walk_at "evop") => `(tactic| ((with_reducible apply add_S); walk_at "size"))
open PySem Dx in
local macro_rules | `(tactic| walk_at "evop") => `(tactic| ((with_reducible apply My.number_int) <;> first | with_reducible assumption | omega))
open PySem Dx in
local macro_rules | `(tactic| walk_at "evop") => `(tactic| ((with_reducible apply My.cell_int); omega))
open PySem Dx in
local macro_rules | `(tactic| walk_at "evop") => `(tactic| with_reducible assumption)
namespace My
open PySem Dx
theorem ix_KD {ks : List (List Nat × Int)} {i : Int} (h0 : 0 ≤ i) (h1 : i < (KD ks).length) : ∃ p, p ∈ ks ∧ D.ix (.lst (KD ks)) (.int i) = .ok (.tup [.str (S p.1), .int p.2]) := by
  obtain ⟨x, hx, he⟩ := ix_mem h0 h1
  obtain ⟨p, hp, rfl⟩ := List.mem_map.mp hx
  exact ⟨p, hp, he⟩
/-- what the fault leaves -/
inductive Fl : D → Prop
  | some {items : List D} (h : ∀ d ∈ items, ItemOk d) (h1 : 1 ≤ items.length) (h5 : items.length ≤ 5) (ok : D.okd 8 (.lst items) = true) : Fl (.lst items)
  | none : Fl (.lst [])
  | six (items : List D) (h : items.length = 6) (ok : D.okd 8 (.lst items) = true) : Fl (.lst items)
  | tup (items : List D) (ok : D.okd 8 (.tup items) = true) : Fl (.tup items)
def badL (n r : List Nat) (p num : Int) : List D := [D.lst [D.str (S n), D.int p], D.tup [D.str (S n), D.int p, D.int 0],
                D.tup [D.str (Str.ofString ""), D.int p],
                D.tup
                  [D.str (S (List.take (Int.toNat 9) (n ++ [97, 98, 99, 100, 101, 102, 103, 104]))), D.int p],
                D.tup [D.str (S ([65] ++ List.take (Int.toNat 6) n)), D.int p]] ++
              [D.tup [D.str (Str.ofString "a b"), D.int p], D.tup [D.int 7, D.int p],
                D.tup [D.str (S r), D.int p], D.tup [D.str (S n), D.int (-1)]] ++
            [D.tup [D.str (S n), D.int (100001 + num / 5)], D.tup [D.str (S n), D.bl true],
              D.tup [D.str (S n), D.str (Str.ofString "5")], D.non]
theorem KD_item {ks : List (List Nat × Int)} (hk : Kok ks) {d : D} (m : d ∈ KD ks) : ItemOk d ∧ D.okd 7 d = true := by
  obtain ⟨p, hp, rfl⟩ := List.mem_map.mp m
  have hn := hk.nm p hp
  refine ⟨.pair (.inl ⟨_, rfl, by rw [S_len]; have := hn.hi; omega⟩) (.inl ⟨_, rfl⟩), okd_tup fun x hx => ?_⟩
  simp at hx
  rcases hx with rfl | rfl
  · exact okd_S hn.okS
  · exact okd_int
theorem FlatN.S {l : List Nat} (h : l.length ≤ 1000) : FlatN (.str (S l)) := .inl ⟨_, rfl, by rw [S_len]; omega⟩
theorem bad_item {n r : List Nat} {p num : Int} (hn : Dx.nm n) (hr : Dx.nm r) {d : D} (m : d ∈ badL n r p num) : ItemOk d ∧ D.okd 7 d = true := by
  have h1 := hn.hi
  have h2 := hr.hi
  have o1 := hn.okS
  have o2 := hr.okS
  have o3 : okS [97, 98, 99, 100, 101, 102, 103, 104] := fun c m => by simp at m; omega
  have o4 : okS [65] := fun c m => by simp at m; omega
  have e0 : ("" : Str) = S [] := by decide +kernel
  have e1 : ("a b" : Str) = S [97, 32, 98] := by decide +kernel
  have e2 : ("5" : Str) = S [53] := by decide +kernel
  have o5 : okS [97, 32, 98] := fun c m => by simp at m; omega
  have o6 : okS [53] := fun c m => by simp at m; omega
  have o7 : okS [] := fun c m => by simp at m
  have two : ∀ {a b : D}, D.okd 6 a = true → D.okd 6 b = true → D.okd 7 (.tup [a, b]) = true := fun ha hb => okd_tup fun x hx => by
    simp at hx; rcases hx with rfl | rfl <;> assumption
  unfold badL at m
  rw [e0, e1, e2] at m
  simp only [List.cons_append, List.nil_append, List.mem_cons, List.not_mem_nil, or_false] at m
  rcases m with rfl | rfl | rfl | rfl | rfl | rfl | rfl | rfl | rfl | rfl | rfl | rfl | rfl
  · exact ⟨.two _, okd_lst fun x hx => by simp at hx; rcases hx with rfl | rfl; exact okd_S o1; exact okd_int⟩
  · exact ⟨.three _ _ _, okd_tup fun x hx => by simp at hx; rcases hx with rfl | rfl | rfl; exact okd_S o1; exact okd_int; exact okd_int⟩
  · exact ⟨.pair (FlatN.S (by simp)) (.inl ⟨_, rfl⟩), two (okd_S o7) okd_int⟩
  · exact ⟨.pair (FlatN.S (by simp; omega)) (.inl ⟨_, rfl⟩), two (okd_S ((o1.app o3).take _)) okd_int⟩
  · exact ⟨.pair (FlatN.S (by simp; omega)) (.inl ⟨_, rfl⟩), two (okd_S (o4.app (o1.take _))) okd_int⟩
  · exact ⟨.pair (FlatN.S (by simp)) (.inl ⟨_, rfl⟩), two (okd_S o5) okd_int⟩
  · exact ⟨.pair (.inr ⟨_, rfl⟩) (.inl ⟨_, rfl⟩), two okd_int okd_int⟩
  · exact ⟨.pair (FlatN.S (by omega)) (.inl ⟨_, rfl⟩), two (okd_S o2) okd_int⟩
  · exact ⟨.pair (FlatN.S (by omega)) (.inl ⟨_, rfl⟩), two (okd_S o1) okd_int⟩
  · exact ⟨.pair (FlatN.S (by omega)) (.inl ⟨_, rfl⟩), two (okd_S o1) okd_int⟩
  · exact ⟨.pair (FlatN.S (by omega)) (.inr (.inl ⟨_, rfl⟩)), two (okd_S o1) okd_bl⟩
  · exact ⟨.pair (FlatN.S (by omega)) (.inr (.inr ⟨_, rfl⟩)), two (okd_S o1) (okd_S o6)⟩
  · exact ⟨.non, okd_non⟩
theorem faulty_ok {ks : List (List Nat × Int)} (hk : Kok ks) (h1 : 1 ≤ ks.length) (h5 : ks.length ≤ 5) {kind num : Int} (hn : 0 ≤ num) (k0 : 0 ≤ kind) (k1 : kind ≤ 15) : ∃ d, F_l_faulty [.lst (KD ks), .int kind, .int num] = .ok d ∧ Fl d := by
  have hK := KD_len ks
  have m0 := Int.emod_nonneg num (b := (KD ks).length) (by omega)
  have m1 := Int.emod_lt_of_pos num (b := (KD ks).length) (by omega)
  obtain ⟨p, hp, hix⟩ := ix_KD m0 m1
  obtain ⟨m, hm, hmax⟩ : ∃ m : Int, 1 ≤ m ∧ D.max2 [.int 1, .int ((KD ks).length - 1)] = .ok (.int m) := by
    rw [max2_int]; split
    · exact ⟨_, by omega, rfl⟩
    · exact ⟨_, by omega, rfl⟩
  have q0 := Int.emod_nonneg (num % (KD ks).length + (1 + num / 5 % m)) (b := (KD ks).length) (by omega)
  have q1 := Int.emod_lt_of_pos (num % (KD ks).length + (1 + num / 5 % m)) (b := (KD ks).length) (by omega)
  obtain ⟨r, hr, hix2⟩ := ix_KD q0 q1
  have pn := hk.nm p hp
  have rn := hk.nm r hr
  have pl := pn.hi
  have rl := rn.hi
  have f1 : D.add (.str (S p.1)) (.str "abcdefgh") = .ok (.str (S (p.1 ++ [97, 98, 99, 100, 101, 102, 103, 104]))) := by
    rw [show ("abcdefgh" : Str) = S [97, 98, 99, 100, 101, 102, 103, 104] by decide +kernel]; exact add_S (by simp; omega)
  have f2 : D.add (.str "A") (.str (S (p.1.take (Int.toNat 6)))) = .ok (.str (S ([65] ++ p.1.take (Int.toNat 6)))) := by
    rw [show ("A" : Str) = S [65] by decide +kernel]; exact add_S (by simp; omega)
  by_cases c1 : kind < 13
  · obtain ⟨b, hbm, hb⟩ := ix_mem (xs := badL p.1 r.1 p.2 num) k0 (by unfold badL; simpa using c1)
    have hbi := bad_item pn rn hbm
    unfold badL at hb
    have hc0 : ((KD ks).take (num % (KD ks).length).toNat).length ≤ 5 := by rw [List.length_take]; omega
    have hc1 : ((KD ks).drop (num % (KD ks).length + 1).toNat).length ≤ 5 := by rw [List.length_drop]; omega
    have hlen : ((KD ks).take (num % (KD ks).length).toNat ++ [b] ++ (KD ks).drop (num % (KD ks).length + 1).toNat).length = ks.length := by
      simp only [List.length_append, List.length_take, List.length_drop, List.length_cons, List.length_nil]; omega
    have all : ∀ d ∈ (KD ks).take (num % (KD ks).length).toNat ++ [b] ++ (KD ks).drop (num % (KD ks).length + 1).toNat, ItemOk d ∧ D.okd 7 d = true := fun d hd => by
      rcases List.mem_append.mp hd with q | q
      · rcases List.mem_append.mp q with q | q
        · exact KD_item hk (List.mem_of_mem_take q)
        · rw [List.mem_singleton.mp q]; exact hbi
      · exact KD_item hk (List.mem_of_mem_drop q)
    apply exR
    · unfold F_l_faulty f_l_faulty
      walk_at "ev"
    · exact .some (fun d hd => (all d hd).1) (by rw [hlen]; omega) (by rw [hlen]; omega) (okd_lst fun d hd => (all d hd).2)
  by_cases c2 : kind = 13
  · apply exR
    · unfold F_l_faulty f_l_faulty
      walk_at "ev"
    · exact .none
  by_cases c3 : kind = 14
  · apply exR
    · unfold F_l_faulty f_l_faulty g_l_faulty_1
      walk_at "ev"
    · exact .six _ rfl (by decide +kernel)
  · apply exR
    · unfold F_l_faulty f_l_faulty
      walk_at "ev"
    · exact .tup _ (okd_tup fun d hd => (KD_item hk hd).2)
end My
set_option Elab.async false
set_option linter.all false
set_option maxRecDepth 100000
set_option maxHeartbeats 4000000
namespace My
open PySem Dx
theorem nmB_nm {d : D} (h : nmB d = true) : ∃ l, d = .str (S l) ∧ Dx.nm l := by
  cases d with
  | str z =>
    have h : nameOk z = true := h
    unfold nameOk at h
    rw [Bool.and_eq_true, Bool.and_eq_true] at h
    have h1 := of_decide_eq_true h.1
    have h2 := of_decide_eq_true h.2.1
    exact ⟨z.cps.toList, by rw [← S_of], by simpa [Str.length] using h1, by simpa [Str.length] using h2, fun c m => List.all_eq_true.mp h.2.2 c m⟩
  | _ => cases h
theorem prB_int {d : D} (h : prB d = true) : ∃ i, d = .int i ∧ 0 ≤ i ∧ i ≤ 100000 := by
  cases d <;> first | (rename_i i; (have h : (decide (0 ≤ i) && decide (i ≤ 100000)) = true := h); simp at h; exact ⟨i, rfl, h.1, h.2⟩) | cases h
theorem scan_KD : ∀ {items : List D} {ks0 : List (List Nat × Int)}, (∀ d ∈ items, ItemOk d) → Kok ks0 → scan (ND ks0) items = .ok → ∃ ks, items = KD ks ∧ Kok (ks0 ++ ks)
  | [], ks0, _, h0, _ => ⟨[], rfl, by simpa using h0⟩
  | d :: ds, ks0, hi, h0, h => by
    unfold scan at h
    cases q : verd (ND ks0) d with
    | ok =>
      rw [q] at h
      obtain ⟨n, p, rfl, hn, hp, a1, a2, a3⟩ := verd_ok (hi _ List.mem_cons_self) q
      obtain ⟨l, rfl, hl⟩ := nmB_nm a1
      obtain ⟨i, rfl, i0, i1⟩ := prB_int a3
      rw [dup_ND] at a2
      have hk := h0.add hl ⟨i0, i1⟩ (of_decide_eq_false a2)
      have h' : scan (ND ks0 ++ [.str (S l)]) ds = .ok := h
      rw [ND_add (p := i)] at h'
      obtain ⟨ks, rfl, hk2⟩ := scan_KD (fun c m => hi c (List.mem_cons_of_mem _ m)) hk h'
      exact ⟨(l, i) :: ks, rfl, by simpa using hk2⟩
    | name => rw [q] at h; cases h
    | twice => rw [q] at h; cases h
    | price => rw [q] at h; cases h
theorem scan_of_KD : ∀ {ks ks0 : List (List Nat × Int)}, Kok (ks0 ++ ks) → scan (ND ks0) (KD ks) = .ok
  | [], _, _ => rfl
  | (l, i) :: ks, ks0, h => by
    have hn := h.nm (l, i) (by simp)
    have hp := h.pr (l, i) (by simp)
    have e1 : nmB (.str (S l)) = true := by
      show nameOk (S l) = true
      unfold nameOk
      rw [S_len, S_list, decide_eq_true hn.lo, decide_eq_true hn.hi, List.all_eq_true.mpr hn.az]
      rfl
    have e2 : dupB (ND ks0) (.str (S l)) = false := by
      rw [dup_ND, decide_eq_false]
      intro m
      have nd := h.nd
      rw [List.map_append, List.nodup_append] at nd
      exact nd.2.2 l m l (by simp) rfl
    have e3 : prB (.int i) = true := by
      show (decide (0 ≤ i) && decide (i ≤ 100000)) = true
      simp; exact hp
    show (match verd (ND ks0) (.tup [.str (S l), .int i]) with | .ok => scan (ND ks0 ++ [D.str (S l)]) (KD ks) | v => v) = .ok
    have ev : verd (ND ks0) (.tup [.str (S l), .int i]) = .ok := by
      unfold verd
      dsimp only
      rw [e1, e2, e3]
      rfl
    rw [ev, ND_add (p := i)]
    exact scan_of_KD (by simpa using h)
def PD (ks : List (List Nat × Int)) : List D := ks.map fun p => .int p.2
def shopK (ks : List (List Nat × Int)) : D := .obj "Shop" [("names", .lst (ND ks)), ("prices", .lst (PD ks))]
theorem shopD_KD (ks : List (List Nat × Int)) : shopD (KD ks) = shopK ks := by
  unfold shopD shopK KD ND PD
  rw [List.map_map, List.map_map]
  rfl
theorem findIdx_ND : ∀ {ks : List (List Nat × Int)} {i : Nat} {p : List Nat × Int}, (ks.map (·.1)).Nodup → ks[i]? = some p → (ND ks).findIdx? (fun y => D.eqF y (.str (S p.1))) = some i
  | [], _, _, _, h => by simp at h
  | q :: ks, 0, p, _, h => by
    simp at h
    subst h
    show List.findIdx? _ (D.str (S q.1) :: ND ks) = _
    rw [List.findIdx?_cons]
    have : D.eqF (.str (S q.1)) (.str (S q.1)) = true := by show (S q.1 == S q.1) = true; simp
    rw [if_pos this]
  | q :: ks, i + 1, p, nd, h => by
    simp at h
    rw [List.map_cons, List.nodup_cons] at nd
    have ih := findIdx_ND nd.2 h
    show List.findIdx? _ (D.str (S q.1) :: ND ks) = _
    rw [List.findIdx?_cons]
    have : ¬ D.eqF (.str (S q.1)) (.str (S p.1)) = true := by
      show ¬ (S q.1 == S p.1) = true
      rw [S_eq]
      intro e
      refine nd.1 ?_
      rw [of_decide_eq_true e]
      exact List.mem_map.mpr ⟨p, List.mem_of_getElem? h, rfl⟩
    rw [if_neg this, ih]
    rfl
theorem index_ND {ks : List (List Nat × Int)} {i : Nat} {p : List Nat × Int} (nd : (ks.map (·.1)).Nodup) (h : ks[i]? = some p) : D.index (.lst (ND ks)) (.str (S p.1)) = .ok (.int i) := by
  unfold D.index
  dsimp only
  rw [if_pos ⟨rfl, ND_flat ks⟩, findIdx_ND nd h]
end My
open PySem Dx in
local macro_rules | `(tactic| walk_at "evop") => `(tactic| ((with_reducible apply fld_ap); exact rfl))
open PySem Dx in
local macro_rules | `(tactic| walk_at "evop") => `(tactic| with_reducible assumption)
namespace My
open PySem Dx
theorem place_name {ks : List (List Nat × Int)} (hk : Kok ks) {i : Nat} {p : List Nat × Int} (h : ks[i]? = some p) : F_p_Shop_place [shopK ks, .str (S p.1)] = .ok (.int i) := by
  have m : p.1 ∈ ks.map (·.1) := List.mem_map.mpr ⟨p, List.mem_of_getElem? h, rfl⟩
  have a1 := nin_ND p.1 ks
  rw [decide_eq_true m] at a1
  have a2 := index_ND hk.nd h
  unfold F_p_Shop_place f_p_Shop_place shopK
  walk_at "ev"
theorem place_none {ks : List (List Nat × Int)} {d : D} (h : (∃ t, D.ty d = some t ∧ D.isTy t "str" = some false) ∨ ∃ l, d = .str (S l) ∧ l ∉ ks.map (·.1)) : F_p_Shop_place [shopK ks, d] = .err "NoKind" := by
  unfold F_p_Shop_place f_p_Shop_place shopK
  rcases h with ⟨t, h1, h2⟩ | ⟨l, rfl, h⟩
  · have a : D.isi [d, .raw (.ty "str")] = .ok (.bl false) := isi_of h1 h2
    walk_at "ev"
  · have a1 := nin_ND l ks
    rw [decide_eq_false h] at a1
    walk_at "ev"
end My
set_option Elab.async false
set_option linter.all false
set_option maxRecDepth 100000
set_option maxHeartbeats 4000000
namespace My
open PySem Dx
theorem due_tup {xs : List D} : F_l_due [.tup xs] = .ok (.str "kinds") := by
  unfold F_l_due f_l_due
  walk_at "ev"
theorem due_not {xs : List D} (h : xs.length = 0 ∨ xs.length = 6) : F_l_due [.lst xs] = .ok (.str "kinds") := by
  have : ¬ (1 ≤ xs.length ∧ xs.length ≤ 5) := by omega
  rcases h with h | h
  · unfold F_l_due f_l_due
    walk_at "ev"
  · unfold F_l_due f_l_due
    walk_at "ev"
theorem need_tup {xs : List D} : F_p_need_kinds [.tup xs] = .err "BadKinds" := by
  unfold F_p_need_kinds f_p_need_kinds
  walk_at "ev"
theorem need_not {xs : List D} (h : xs.length = 0 ∨ xs.length = 6) : F_p_need_kinds [.lst xs] = .err "BadKinds" := by
  rcases h with h | h
  · unfold F_p_need_kinds f_p_need_kinds
    walk_at "ev"
  · unfold F_p_need_kinds f_p_need_kinds
    walk_at "ev"
theorem told_tup {xs : List D} : F_l_told [.tup xs] = .ok (.str "kinds") := told_err (by decide) need_tup
theorem told_not {xs : List D} (h : xs.length = 0 ∨ xs.length = 6) : F_l_told [.lst xs] = .ok (.str "kinds") := told_err (by decide) (need_not h)
theorem l_place_name {ks : List (List Nat × Int)} (hk : Kok ks) {i : Nat} {p : List Nat × Int} (h : ks[i]? = some p) : F_l_place [shopK ks, .str (S p.1)] = .ok (.int i) := by
  have a := place_name hk h
  have b : sRet (eMeth "Shop" "place" (eVar 0) (eCons (eVar 1) (eNil)) F_p_Shop_place) [some (shopK ks), some (.str (S p.1)), none] = .ret (.int i) := by
    unfold shopK at a ⊢
    walk_at "ev"
  unfold F_l_place f_l_place
  apply ev_fnSem (by simp)
  · walk_at "ev"
  · exact (sTry_ap.trans (congrArg _ b)).trans tryR_ret
  · rfl
theorem l_place_none {ks : List (List Nat × Int)} {d : D} (h : (∃ t, D.ty d = some t ∧ D.isTy t "str" = some false) ∨ ∃ l, d = .str (S l) ∧ l ∉ ks.map (·.1)) : F_l_place [shopK ks, d] = .ok (.str "none") := by
  have a := place_none (ks := ks) h
  have b : sRet (eMeth "Shop" "place" (eVar 0) (eCons (eVar 1) (eNil)) F_p_Shop_place) [some (shopK ks), some d, none] = .err "NoKind" [some (shopK ks), some d, none] := by
    apply ev_ret_err
    rw [eMeth_ap (C := "Shop") (gs := [("names", .lst (ND ks)), ("prices", .lst (PD ks))]) rfl rfl]
    show (Res.bind (.ok [d]) fun ds => F_p_Shop_place (shopK ks :: ds)) = _
    rw [bind_ok, a]
  unfold F_l_place f_l_place
  apply ev_fnSem (by simp)
  · walk_at "ev"
  · exact (sTry_ap.trans (congrArg _ b)).trans (tryR_err (by decide) (by simp) (word_any "NoKind" (by decide) 0) rfl)
  · rfl
theorem eqv_S (a b : List Nat) : D.eqv (.str (S a)) (.str (S b)) = decide (a = b) := by rw [eqv_str, S_eq]
theorem any_ND_str (l : List Nat) : ∀ ks : List (List Nat × Int), ((ND ks).any fun z => D.eqv z (.str (S l))) = decide (l ∈ ks.map (·.1))
  | [] => by simp [ND]
  | p :: ks => by
    show (D.eqv (.str (S p.1)) (.str (S l)) || (ND ks).any fun z => D.eqv z (.str (S l))) = _
    rw [any_ND_str l ks, eqv_S, List.map_cons]
    by_cases h : p.1 = l
    · subst h; simp
    · simp [h, Ne.symm h]
theorem any_ND_not {d : D} (h : ∀ l, D.eqv (.str (S l)) d = false) (ks : List (List Nat × Int)) : ((ND ks).any fun z => D.eqv z d) = false := by
  rw [List.any_eq_false]
  intro z m
  obtain ⟨p, _, rfl⟩ := List.mem_map.mp m
  rw [h p.1]
  exact Bool.false_ne_true
theorem okd_ND {ks : List (List Nat × Int)} (hk : Kok ks) : D.okd 8 (.lst (ND ks)) = true := okd_lst fun d m => by
  obtain ⟨p, hp, rfl⟩ := List.mem_map.mp m
  exact okd_S (hk.nm p hp).okS
theorem okd_PD (ks : List (List Nat × Int)) : D.okd 8 (.lst (PD ks)) = true := okd_lst fun d m => by
  obtain ⟨p, hp, rfl⟩ := List.mem_map.mp m
  exact okd_int
theorem ninD_ND {ks : List (List Nat × Int)} (hk : Kok ks) {d : D} (h : D.okd 8 d = true) : D.ninD d (.lst (ND ks)) = .ok (.bl (!(ND ks).any fun z => D.eqv z d)) := by
  unfold D.ninD D.inD
  dsimp only
  rw [if_pos ⟨h, okd_ND hk⟩]
  rfl
/-- a text that is no name -/
theorem not_in {ks : List (List Nat × Int)} (hk : Kok ks) {l : List Nat} (h : ¬ nm l) : l ∉ ks.map (·.1) := fun m => by
  obtain ⟨p, hp, rfl⟩ := List.mem_map.mp m
  exact h (hk.nm p hp)
theorem upper_S {l : List Nat} (h : ∀ c ∈ l, az c = true) : Txt.upper (S l) = S (l.map fun c => c - 32) := by
  rw [PyProof.Rows.upper_ascii fun c m => by
    have := h c (by simpa [S] using m)
    unfold az at this
    simp at this
    omega]
  show (⟨(l.toArray).map _⟩ : Str) = ⟨(l.map _).toArray⟩
  rw [List.map_toArray]
  congr 2
  refine List.map_congr_left fun c m => ?_
  have := h c m
  unfold az at this
  simp at this
  simp [PyProof.Rows.up1, this]
def tenL (l : List Nat) : List D := [.str "zzzzzzzzz", .str "", .int 0, .non, .str (S (l.map fun c => c - 32)), .str (S ([32] ++ l)), .str (S (l ++ [32])), .str (S (l ++ [10])), .str (S (l ++ l)), .lst [.str (S l)]]
def notIn (ks : List (List Nat × Int)) (d : D) : Bool := !(ND ks).any fun z => D.eqv z d
theorem ten_okd {l : List Nat} (h : nm l) {d : D} (m : d ∈ tenL l) : D.okd 8 d = true := by
  have o := h.okS
  have a1 : okS [32] := fun c m => by simp at m; omega
  have a2 : okS [10] := fun c m => by simp at m; omega
  have a3 : okS (l.map fun c => c - 32) := fun c m => by
    obtain ⟨x, hx, rfl⟩ := List.mem_map.mp m
    have := o x hx
    omega
  unfold tenL at m
  simp only [List.mem_cons, List.not_mem_nil, or_false] at m
  rcases m with rfl | rfl | rfl | rfl | rfl | rfl | rfl | rfl | rfl | rfl
  · decide +kernel
  · decide +kernel
  · exact okd_int
  · exact okd_non
  · exact okd_S a3
  · exact okd_S (a1.app o)
  · exact okd_S (o.app a1)
  · exact okd_S (o.app a2)
  · exact okd_S (o.app o)
  · exact okd_lst fun x hx => by rw [List.mem_singleton.mp hx]; exact okd_S o
theorem ten_kind {l : List Nat} (h : nm l) {d : D} (m : d ∈ tenL l) : (∃ t, D.ty d = some t ∧ D.isTy t "str" = some false) ∨ ∃ z, d = .str (S z) := by
  unfold tenL at m
  simp only [List.mem_cons, List.not_mem_nil, or_false] at m
  rcases m with rfl | rfl | rfl | rfl | rfl | rfl | rfl | rfl | rfl | rfl
  · exact .inr ⟨_, by rw [← S_of]⟩
  · exact .inr ⟨_, by rw [← S_of]⟩
  · exact .inl ⟨_, rfl, by decide +kernel⟩
  · exact .inl ⟨_, rfl, by decide +kernel⟩
  · exact .inr ⟨_, rfl⟩
  · exact .inr ⟨_, rfl⟩
  · exact .inr ⟨_, rfl⟩
  · exact .inr ⟨_, rfl⟩
  · exact .inr ⟨_, rfl⟩
  · exact .inl ⟨_, rfl, by decide +kernel⟩
theorem notIn_str {ks : List (List Nat × Int)} {z : List Nat} : notIn ks (.str (S z)) = !decide (z ∈ ks.map (·.1)) := by unfold notIn; rw [any_ND_str]
theorem notIn_no {ks : List (List Nat × Int)} (hk : Kok ks) {z : List Nat} (h : ¬ nm z) : notIn ks (.str (S z)) = true := by rw [notIn_str, decide_eq_false (not_in hk h)]; rfl
theorem notIn_other {ks : List (List Nat × Int)} {d : D} (h : ∀ l, D.eqv (.str (S l)) d = false) : notIn ks d = true := by unfold notIn; rw [any_ND_not h]; rfl
theorem ten_many {ks : List (List Nat × Int)} (hk : Kok ks) {l : List Nat} (h : nm l) : 8 ≤ ((tenL l).filter (notIn ks)).length := by
  have hl := h.lo
  have e0 : ("zzzzzzzzz" : Str) = S [122, 122, 122, 122, 122, 122, 122, 122, 122] := by decide +kernel
  have b1 : notIn ks (.str "zzzzzzzzz") = true := by rw [e0]; exact notIn_no hk fun q => by have := q.hi; simp at this
  have b2 : notIn ks (.str "") = true := by rw [empty_S]; exact notIn_no hk fun q => by have := q.lo; simp at this
  have b3 : notIn ks (.int 0) = true := notIn_other fun l => by simp [D.eqv, D.py, PyData.eqv]
  have b4 : notIn ks .non = true := notIn_other fun l => by simp [D.eqv, D.py, PyData.eqv]
  have b5 : notIn ks (.str (S (l.map fun c => c - 32))) = true := notIn_no hk fun q => by
    cases l with
    | nil => simp at hl
    | cons c r =>
      have h1 := h.az c (by simp)
      have h2 := q.az (c - 32) (by simp)
      unfold az at h1 h2
      simp at h1 h2
      omega
  have bad : ∀ c, az c = false → ∀ z, c ∈ z → ¬ nm z := fun c hc z hz q => by rw [q.az c hz] at hc; cases hc
  have b6 : notIn ks (.str (S ([32] ++ l))) = true := notIn_no hk (bad 32 rfl _ (by simp))
  have b7 : notIn ks (.str (S (l ++ [32]))) = true := notIn_no hk (bad 32 rfl _ (by simp))
  have b8 : notIn ks (.str (S (l ++ [10]))) = true := notIn_no hk (bad 10 rfl _ (by simp))
  unfold tenL
  simp only [List.filter_cons, b1, b2, b3, b4, b5, b6, b7, b8, if_true, List.length_cons]
  omega
end My
set_option Elab.async false
set_option linter.all false
set_option maxRecDepth 100000
set_option maxHeartbeats 4000000
namespace My
open PySem Dx
theorem lc_first {base : Sl} (hb : 2 < base.length) (ks : List (List Nat × Int)) : lcGo (.one 2) eYes g_p_law_2 base (KD ks) = .ok (ND ks) := by
  have h1 : ∀ d ∈ KD ks, g_p_law_2 (base.set 2 (some d)) = .ok (firstD d) := fun d m => by
    obtain ⟨p, hp, rfl⟩ := List.mem_map.mp m
    have e : eVar 2 (base.set 2 (some (.tup [.str (S p.1), .int p.2]))) = .ok (.tup [.str (S p.1), .int p.2]) := eVar_ap (List.getElem?_set_self hb)
    unfold g_p_law_2
    exact ev_bin e ev_c (ix0 _ _)
  rw [lc_all h1]
  unfold KD ND
  rw [List.map_map]
  rfl
theorem lc_second {base : Sl} (hb : 2 < base.length) (ks : List (List Nat × Int)) : lcGo (.one 2) eYes g_p_law_1 base (KD ks) = .ok (PD ks) := by
  have h1 : ∀ d ∈ KD ks, g_p_law_1 (base.set 2 (some d)) = .ok (secondD d) := fun d m => by
    obtain ⟨p, hp, rfl⟩ := List.mem_map.mp m
    have e : eVar 2 (base.set 2 (some (.tup [.str (S p.1), .int p.2]))) = .ok (.tup [.str (S p.1), .int p.2]) := eVar_ap (List.getElem?_set_self hb)
    unfold g_p_law_1
    exact ev_bin e ev_c (ix1 _ _)
  rw [lc_all h1]
  unfold KD PD
  rw [List.map_map]
  rfl
theorem lc_places {base : Sl} {ks : List (List Nat × Int)} (hk : Kok ks) (hb : 5 < base.length) (hs : base[5]? = some (some (shopK ks))) : lcGo (.one 2) eYes g_p_law_3 base (KD ks) = .ok ((List.range ks.length).map fun (k : Nat) => .int (0 + k)) := by
  have go : ∀ (rest : List (List Nat × Int)) (i : Nat), (∀ j, rest[j]? = ks[i + j]?) → lcGo (.one 2) eYes g_p_law_3 base (KD rest) = .ok ((List.range' i rest.length).map fun (k : Nat) => .int (0 + k)) := by
    intro rest
    induction rest with
    | nil => intro i _; rfl
    | cons p rest ih =>
      intro i h
      have hi : ks[i]? = some p := by rw [← Nat.add_zero i, ← h 0]; rfl
      have e : eVar 2 (base.set 2 (some (.tup [.str (S p.1), .int p.2]))) = .ok (.tup [.str (S p.1), .int p.2]) := eVar_ap (List.getElem?_set_self (by omega))
      have e5 : eVar 5 (base.set 2 (some (.tup [.str (S p.1), .int p.2]))) = .ok (shopK ks) := eVar_ap (by rw [List.getElem?_set_ne (by omega)]; exact hs)
      have hg : g_p_law_3 (base.set 2 (some (.tup [.str (S p.1), .int p.2]))) = .ok (.int i) := by
        unfold g_p_law_3
        exact ev_call (ev_cons e5 (ev_cons (ev_bin e ev_c (ix0 _ _)) ev_nil)) (l_place_name hk hi)
      show lcGo (.one 2) eYes g_p_law_3 base (D.tup [.str (S p.1), .int p.2] :: KD rest) = _
      rw [lcGo_one, hg, eYes_ap, consR_t, ih (i + 1) (fun j => by rw [show i + 1 + j = i + (j + 1) by omega, ← h (j + 1)]; rfl)]
      show Res.ok (D.int i :: _) = _
      rw [List.length_cons, List.range'_succ, List.map_cons]
      simp
  have := go ks 0 (fun j => by rw [Nat.zero_add])
  rw [this, List.range_eq_range']
theorem rng_okd (n : Nat) : D.okd 8 (.lst ((List.range n).map fun (k : Nat) => .int (0 + k))) = true := okd_lst fun d m => by
  obtain ⟨k, _, rfl⟩ := List.mem_map.mp m
  exact okd_int
theorem lc_bools {base : Sl} (hb : 7 < base.length) (n : Nat) : lcGo (.one 7) t_p_law_1 g_p_law_4 base ((List.range n).map fun (k : Nat) => .int (0 + k)) = .ok [] := by
  rw [lc_filter (γ := id) (p := fun _ => false) fun d m => ?_]
  · rw [List.filter_eq_nil_iff.mpr (fun _ _ => Bool.false_ne_true)]; rfl
  obtain ⟨k, _, rfl⟩ := List.mem_map.mp m
  have e : eVar 7 (base.set 7 (some (.int (0 + k)))) = .ok (.int (0 + k)) := eVar_ap (List.getElem?_set_self hb)
  refine ⟨?_, fun q => by cases q⟩
  unfold t_p_law_1
  exact ev_truth (ev_call (ev_cons e (ev_cons ev_c ev_nil)) (isi_of rfl ist_ib)) rfl
theorem lc_ten {base : Sl} {ks : List (List Nat × Int)} (hk : Kok ks) {l : List Nat} (hl : nm l) (hb : 11 < base.length) (hs : base[5]? = some (some (shopK ks))) : lcGo (.one 11) t_p_law_2 g_p_law_5 base (tenL l) = .ok (((tenL l).filter (notIn ks)).map fun _ => .str "none") := by
  refine lc_filter (γ := fun _ => .str "none") (p := notIn ks) fun d m => ?_
  have e : eVar 11 (base.set 11 (some d)) = .ok d := eVar_ap (List.getElem?_set_self hb)
  have e5 : eVar 5 (base.set 11 (some d)) = .ok (shopK ks) := eVar_ap (by rw [List.getElem?_set_ne (by omega)]; exact hs)
  have ef : eUn (D.fld "Shop" "names") (eVar 5) (base.set 11 (some d)) = .ok (.lst (ND ks)) := ev_un e5 (fld_ap rfl)
  refine ⟨ev_test (ev_bin e ef (ninD_ND hk (ten_okd hl m))), fun q => ?_⟩
  refine ev_call (ev_cons e5 (ev_cons e ev_nil)) (l_place_none ?_)
  rcases ten_kind hl m with h | ⟨z, rfl⟩
  · exact .inl h
  · rw [notIn_str] at q
    exact .inr ⟨z, rfl, of_decide_eq_false (by simpa using q)⟩
theorem rep_none {n : Nat} (h : n ≤ 100000) : D.rep (.lst [.str "none"]) (.int n) = .ok (.lst (List.replicate n (.str "none"))) := by
  unfold D.rep
  dsimp only
  rw [if_pos ⟨⟨by omega, by omega⟩, by simpa using h⟩]
  congr 2
  show (List.replicate n [D.str "none"]).flatten = _
  rw [List.flatten_replicate_singleton]
theorem map_const (xs : List D) : (xs.map fun _ => D.str "none") = List.replicate xs.length (D.str "none") := by
  induction xs with
  | nil => rfl
  | cons x xs ih => rw [List.map_cons, ih, List.length_cons, List.replicate_succ]
theorem okd_none (n : Nat) : D.okd 8 (.lst (List.replicate n (.str "none"))) = true := okd_lst fun d m => by
  rw [(List.mem_replicate.mp m).2]; decide +kernel
end My
set_option Elab.async false
set_option linter.all false
set_option maxRecDepth 100000
set_option maxHeartbeats 4000000
open PySem Dx in
local macro_rules | `(tactic| walk_at "evop") => `(tactic| ((with_reducible apply My.lc_bools); (focus (simp; done))))
open PySem Dx in
local macro_rules | `(tactic| walk_at "evop") => `(tactic| ((with_reducible apply My.lc_second); (focus (simp; done))))
open PySem Dx in
local macro_rules | `(tactic| walk_at "evop") => `(tactic| ((with_reducible apply My.lc_first); (focus (simp; done))))
open PySem Dx in
local macro_rules | `(tactic| walk_at "evop") => `(tactic| ((with_reducible apply My.cell_int); omega))
open PySem Dx in
local macro_rules | `(tactic| walk_at "evop") => `(tactic| ((with_reducible apply fld_ap); exact rfl))
open PySem Dx in
local macro_rules | `(tactic| walk_at "evop") => `(tactic| with_reducible assumption)
namespace My
open PySem Dx
abbrev law_rest : Sl → Out :=
  (sSeq (sSet 3 (eCall (eCons (eVar 1) (eNil)) F_l_due))
  (fun env => ((eTruth (eCall (eCons (eVar 1) (eCons (eC (.raw (.ty "list"))) (eNil))) D.isi)) env).branch env (sSeq (sOwn 4 (eCallL (eCons (eVar 1) (eNil)) D.listOf)) (sSeq (sSet 5 (eCall (eCons (eVar 4) (eNil)) F_l_told))
  (sSeq (sIf (eTest (eBin D.ne (eVar 4) (eVar 1)))
  (sRet (eC (.bl false)))
  (sNext))
  (sSeq (sIf (eTest (eBin D.ne (eVar 3) (eC (.str ""))))
  (sRet (eAndV (eCall (eCons (eVar 5) (eCons (eC (.raw (.ty "str"))) (eNil))) D.isi) (eBin D.eq (eVar 5) (eVar 3))))
  (sNext))
  (sSeq (sIf (eOrB (eNotB (eTruth (eIsC "Shop" (eVar 5)))) (eOrB (eNotB (eTruth (eCall (eCons (eUn (D.fld "Shop" "names") (eVar 5)) (eCons (eC (.raw (.ty "list"))) (eNil))) D.isi))) (eNotB (eTruth (eCall (eCons (eUn (D.fld "Shop" "prices") (eVar 5)) (eCons (eC (.raw (.ty "list"))) (eNil))) D.isi)))))
  (sRet (eC (.bl false)))
  (sNext))
  (sSeq (sLst (fun _ => []) 4)
  (sSeq (sIf (eOrB (eTest (eBin D.ne (eUn (D.fld "Shop" "names") (eVar 5)) (eL (eLc (eItems (eVar 1)) (.one 2) [2] (eYes) (g_p_law_2))))) (eTest (eBin D.ne (eUn (D.fld "Shop" "prices") (eVar 5)) (eL (eLc (eItems (eVar 1)) (.one 2) [2] (eYes) (g_p_law_1))))))
  (sRet (eC (.bl false)))
  (sNext))
  (sSeq (sOwn 6 (eLc (eItems (eVar 1)) (.one 2) [2] (eYes) (g_p_law_3)))
  (sSeq (sIf (eOrB (eTest (eBin D.ne (eVar 6) (eL ((fun env => ((eCall (eCons (eVar 1) (eNil)) D.len) env).bind D.rngL))))) (eTest (eBin D.gt (eCall (eCons (eL (eLc (eItems (eVar 6)) (.one 7) [7] (t_p_law_1) (g_p_law_4))) (eNil)) D.len) (eC (.int 0)))))
  (sRet (eC (.bl false)))
  (sNext))
  (sSeq (sSet 8 (eBin D.ix (eUn (D.fld "Shop" "names") (eVar 5)) (eC (.int 0))))
  (sSeq (sSet 9 (eL (eCons (eC (.str "zzzzzzzzz")) (eCons (eC (.str "")) (eCons (eC (.int 0)) (eCons (eC .non) (eCons (eUn D.upper (eVar 8)) (eCons (eBin D.add (eC (.str " ")) (eVar 8)) (eCons (eBin D.add (eVar 8) (eC (.str " "))) (eCons (eBin D.add (eVar 8) (eC (.str "\n"))) (eCons (eBin D.add (eVar 8) (eVar 8)) (eCons (eL (eCons (eVar 8) (eNil))) (eNil)))))))))))))
  (sSeq (sOwn 10 (eLc (eItems (eVar 9)) (.one 11) [11] (t_p_law_2) (g_p_law_5)))
  (sRet (eAndV (eBin D.gt (eCall (eCons (eVar 10) (eNil)) D.len) (eC (.int 7))) (eBin D.eq (eVar 10) (eBin D.rep (eL (eCons (eC (.str "none")) (eNil))) (eCall (eCons (eVar 10) (eNil)) D.len))))))))))))))))) (sSeq (sSet 4 (eVar 1)) (sSeq (sSet 5 (eCall (eCons (eVar 4) (eNil)) F_l_told))
  (sSeq (sIf (eTest (eBin D.ne (eVar 4) (eVar 1)))
  (sRet (eC (.bl false)))
  (sNext))
  (sSeq (sIf (eTest (eBin D.ne (eVar 3) (eC (.str ""))))
  (sRet (eAndV (eCall (eCons (eVar 5) (eCons (eC (.raw (.ty "str"))) (eNil))) D.isi) (eBin D.eq (eVar 5) (eVar 3))))
  (sNext))
  (sSeq (sIf (eOrB (eNotB (eTruth (eIsC "Shop" (eVar 5)))) (eOrB (eNotB (eTruth (eCall (eCons (eUn (D.fld "Shop" "names") (eVar 5)) (eCons (eC (.raw (.ty "list"))) (eNil))) D.isi))) (eNotB (eTruth (eCall (eCons (eUn (D.fld "Shop" "prices") (eVar 5)) (eCons (eC (.raw (.ty "list"))) (eNil))) D.isi)))))
  (sRet (eC (.bl false)))
  (sNext))
  (sSeq (sNo)
  (sSeq (sIf (eOrB (eTest (eBin D.ne (eUn (D.fld "Shop" "names") (eVar 5)) (eL (eLc (eItems (eVar 1)) (.one 2) [2] (eYes) (g_p_law_2))))) (eTest (eBin D.ne (eUn (D.fld "Shop" "prices") (eVar 5)) (eL (eLc (eItems (eVar 1)) (.one 2) [2] (eYes) (g_p_law_1))))))
  (sRet (eC (.bl false)))
  (sNext))
  (sSeq (sOwn 6 (eLc (eItems (eVar 1)) (.one 2) [2] (eYes) (g_p_law_3)))
  (sSeq (sIf (eOrB (eTest (eBin D.ne (eVar 6) (eL ((fun env => ((eCall (eCons (eVar 1) (eNil)) D.len) env).bind D.rngL))))) (eTest (eBin D.gt (eCall (eCons (eL (eLc (eItems (eVar 6)) (.one 7) [7] (t_p_law_1) (g_p_law_4))) (eNil)) D.len) (eC (.int 0)))))
  (sRet (eC (.bl false)))
  (sNext))
  (sSeq (sSet 8 (eBin D.ix (eUn (D.fld "Shop" "names") (eVar 5)) (eC (.int 0))))
  (sSeq (sSet 9 (eL (eCons (eC (.str "zzzzzzzzz")) (eCons (eC (.str "")) (eCons (eC (.int 0)) (eCons (eC .non) (eCons (eUn D.upper (eVar 8)) (eCons (eBin D.add (eC (.str " ")) (eVar 8)) (eCons (eBin D.add (eVar 8) (eC (.str " "))) (eCons (eBin D.add (eVar 8) (eC (.str "\n"))) (eCons (eBin D.add (eVar 8) (eVar 8)) (eCons (eL (eCons (eVar 8) (eNil))) (eNil)))))))))))))
  (sSeq (sOwn 10 (eLc (eItems (eVar 9)) (.one 11) [11] (t_p_law_2) (g_p_law_5)))
  (sRet (eAndV (eBin D.gt (eCall (eCons (eVar 10) (eNil)) D.len) (eC (.int 7))) (eBin D.eq (eVar 10) (eBin D.rep (eL (eCons (eC (.str "none")) (eNil))) (eCall (eCons (eVar 10) (eNil)) D.len)))))))))))))))))))
theorem str_ne {a b : Str} (h : (a == b) = false) : D.ne (.str a) (.str b) = .ok (.bl true) := by rw [ne_str, h]; rfl
theorem str_eq {a b : Str} (h : (a == b) = true) : D.eq (.str a) (.str b) = .ok (.bl true) := by rw [eq_str, h]
theorem rest_tup {sc : D} {x2 : Option D} {items : List D} (ok : D.okd 8 (.tup items) = true) : law_rest [some sc, some (.tup items), x2, none, none, none, none, none, none, none, none, none] = .ret (.bl true) := by
  have h1 := due_tup (xs := items)
  have h2 := told_tup (xs := items)
  have h3 := Dx.ne_self ok
  have h4 : D.isi [.tup items, .raw (.ty "list")] = .ok (.bl false) := isi_of rfl ist_tl
  have h5 : D.ne (.str "kinds") (.str "") = .ok (.bl true) := str_ne (by decide +kernel)
  have h6 : D.eq (.str "kinds") (.str "kinds") = .ok (.bl true) := str_eq (by decide +kernel)
  walk_at "ev"
theorem rest_not {sc : D} {x2 : Option D} {items : List D} (hl : items.length = 0 ∨ items.length = 6) (ok : D.okd 8 (.lst items) = true) : law_rest [some sc, some (.lst items), x2, none, none, none, none, none, none, none, none, none] = .ret (.bl true) := by
  have h1 := due_not hl
  have h2 := told_not hl
  have h3 := Dx.ne_self ok
  have h5 : D.ne (.str "kinds") (.str "") = .ok (.bl true) := str_ne (by decide +kernel)
  have h6 : D.eq (.str "kinds") (.str "kinds") = .ok (.bl true) := str_eq (by decide +kernel)
  walk_at "ev"
theorem word_ne {v : Vd} (h : v ≠ .ok) : D.ne (.str v.word) (.str "") = .ok (.bl true) := by
  refine str_ne ?_; cases v <;> first | exact absurd rfl h | decide +kernel
theorem rest_bad {sc : D} {x2 : Option D} {items : List D} (hi : ∀ d ∈ items, ItemOk d) (l1 : 1 ≤ items.length) (l5 : items.length ≤ 5) (ok : D.okd 8 (.lst items) = true) (hv : scan [] items ≠ .ok) : law_rest [some sc, some (.lst items), x2, none, none, none, none, none, none, none, none, none] = .ret (.bl true) := by
  have h1 := due_ok hi l1 l5
  have h2 := told_kinds hi l1 l5
  have h3 := Dx.ne_self ok
  have h5 := word_ne hv
  have h6 : D.eq (.str (scan [] items).word) (.str (scan [] items).word) = .ok (.bl true) := str_eq (by simp)
  have h2' : F_l_told [.lst items] = .ok (.str (scan [] items).word) := by
    rw [h2]
    cases q : scan [] items <;> first | exact absurd q hv | rfl
  clear h2
  walk_at "ev"
theorem rest_good {sc : D} {x2 : Option D} {ks : List (List Nat × Int)} (hk : Kok ks) (l1 : 1 ≤ ks.length) (l5 : ks.length ≤ 5) : law_rest [some sc, some (.lst (KD ks)), x2, none, none, none, none, none, none, none, none, none] = .ret (.bl true) := by
  have hi : ∀ d ∈ KD ks, ItemOk d := fun d m => (KD_item hk m).1
  have hs : scan [] (KD ks) = .ok := scan_of_KD (ks0 := []) (by simpa using hk)
  have hl := KD_len ks
  have h1 := due_ok hi (by omega) (by omega)
  have h2 := told_kinds hi (by omega) (by omega)
  rw [hs] at h1 h2
  dsimp only at h2
  rw [shopD_KD] at h2
  have h3 := Dx.ne_self (okd_lst fun d m => (KD_item hk m).2 : D.okd 8 (.lst (KD ks)) = true)
  have h5 : D.ne (.str (Vd.ok).word) (.str "") = .ok (.bl false) := by rw [ne_str]; rfl
  have n1 := Dx.ne_self (okd_ND hk)
  have n2 := Dx.ne_self (okd_PD ks)
  have n3 := Dx.ne_self (rng_okd ks.length)
  have hr : D.rngL (.int (KD ks).length) = .ok ((List.range ks.length).map fun (k : Nat) => .int (0 + k)) := by
    unfold D.rngL; dsimp only; rw [if_pos (by omega), hl]; simp
  have hq := fun (base : Sl) hb hs => lc_places (base := base) hk hb hs
  have hm : ((List.range ks.length).map fun (k : Nat) => D.int (0 + k)).length ≤ 100000 := by simp; omega
  cases ks with
  | nil => simp at l1
  | cons p r =>
    have hn := hk.nm p (by simp)
    have hup := hn.hi
    have g0 : D.ix (.lst (ND (p :: r))) (.int 0) = .ok (.str (S p.1)) := ix0_lst
    have g1 : D.upper (.str (S p.1)) = .ok (.str (S (p.1.map fun c => c - 32))) := by
      rw [upper_str (by rw [S_len]; omega), upper_S hn.az]
    have g2 : D.add (.str " ") (.str (S p.1)) = .ok (.str (S ([32] ++ p.1))) := by
      rw [show (" " : Str) = S [32] by decide +kernel]; exact add_S (by simp; omega)
    have g3 : D.add (.str (S p.1)) (.str " ") = .ok (.str (S (p.1 ++ [32]))) := by
      rw [show (" " : Str) = S [32] by decide +kernel]; exact add_S (by simp; omega)
    have g4 : D.add (.str (S p.1)) (.str "\n") = .ok (.str (S (p.1 ++ [10]))) := by
      rw [show ("\n" : Str) = S [10] by decide +kernel]; exact add_S (by simp; omega)
    have g5 : D.add (.str (S p.1)) (.str (S p.1)) = .ok (.str (S (p.1 ++ p.1))) := add_S (by omega)
    obtain ⟨m, hm, hm2, hmap⟩ : ∃ m, 8 ≤ m ∧ m ≤ 10 ∧ (((tenL p.1).filter (notIn (p :: r))).map fun _ => D.str "none") = List.replicate m (D.str "none") := ⟨_, ten_many hk hn, List.length_filter_le .., map_const _⟩
    have hten := fun (base : Sl) hb hs => lc_ten (base := base) hk hn hb hs
    rw [hmap] at hten
    unfold tenL at hten
    have u1 : D.len [.lst (List.replicate m (D.str "none"))] = .ok (.int m) := by rw [len_lst, List.length_replicate]
    have u2 := rep_none (n := m) (by omega)
    have u3 := Dx.eq_self (okd_none m)
    unfold shopK at *
    walk_at "ev"
    exact hq _ (by simp) rfl
    walk_at "ev"
    exact hten _ (by simp) rfl
    walk_at "ev"
theorem rest_ok {sc : D} {x2 : Option D} {d : D} (h : Fl d) : law_rest [some sc, some d, x2, none, none, none, none, none, none, none, none, none] = .ret (.bl true) := by
  cases h with
  | some hi h1 h5 ok =>
    rename_i items
    cases q : scan [] items with
    | ok =>
      obtain ⟨ks, rfl, hk⟩ := scan_KD (ks0 := []) hi ⟨by simp, by simp, by simp⟩ q
      rw [List.nil_append] at hk
      rw [KD_len] at h1 h5
      exact rest_good hk h1 h5
    | name => exact rest_bad hi h1 h5 ok (by rw [q]; intro e; cases e)
    | twice => exact rest_bad hi h1 h5 ok (by rw [q]; intro e; cases e)
    | price => exact rest_bad hi h1 h5 ok (by rw [q]; intro e; cases e)
  | none => exact rest_not (.inl rfl) (by decide +kernel)
  | six items h ok => exact rest_not (.inr h) ok
  | tup items ok => exact rest_tup ok
theorem law_ok (ns : List Int) (hl : ns.length ≤ 63) : F_p_law [.fz (dInts ns)] = .ok (.bl true) := by
  obtain ⟨ks, hk, l1, l5, hkinds⟩ := kinds_ok hl
  have two : cellN ns (Int.toNat 3) % 2 = 0 ∨ cellN ns (Int.toNat 3) % 2 = 1 := by omega
  have start : ∀ (d : D) (x2 : Option D), Fl d → law_rest [some (.fz (dInts ns)), some d, x2, none, none, none, none, none, none, none, none, none] = .ret (.bl true) := fun d x2 h => rest_ok h
  rcases two with c | c
  · have h0 := start (.lst (KD ks)) none (.some (fun d m => (KD_item hk m).1) (by rw [KD_len]; exact l1) (by rw [KD_len]; exact l5) (okd_lst fun d m => (KD_item hk m).2))
    unfold F_p_law f_p_law
    walk_at "ev"
  · obtain ⟨Y, hY, hpow⟩ : ∃ Y : Int, 0 < Y ∧ D.pow (.int 10) (.int 60) = .ok (.int Y) := ⟨10 ^ (60 : Int).toNat, by decide, by unfold D.pow; dsimp only; rw [if_pos ⟨by omega, by decide⟩]⟩
    obtain ⟨x, hx, hix⟩ := ix_mem (xs := [D.int 7, D.int 7, D.int 7, D.int 7, D.int 7, D.int 0, D.int 1, D.int 2, D.int 3, D.int 4, D.int 5, D.int 6, D.int 8, D.int 9, D.int 10, D.int 11, D.int 12, D.int 13, D.int 14, D.int 15]) (i := cellN ns (Int.toNat 3) / 2 % 20) (by omega) (by simp; omega)
    obtain ⟨k, rfl, k0, k1⟩ : ∃ k : Int, x = .int k ∧ 0 ≤ k ∧ k ≤ 15 := by
      simp only [List.mem_cons, List.not_mem_nil, or_false] at hx
      rcases hx with rfl | rfl | rfl | rfl | rfl | rfl | rfl | rfl | rfl | rfl | rfl | rfl | rfl | rfl | rfl | rfl | rfl | rfl | rfl | rfl <;> exact ⟨_, rfl, by omega, by omega⟩
    obtain ⟨d, hd, hf⟩ := faulty_ok hk l1 l5 (kind := k) (num := cellN ns (Int.toNat 4) % Y) (Int.emod_nonneg _ (by omega)) k0 k1
    have h0 := start d (some (.int k)) hf
    unfold F_p_law f_p_law
    walk_at "ev"
end My
namespace My
open PySem PySem.Spec PyProof.Rows L2 Dx
open Evl (Ex)
def hd_l_cell_at : He.DefD := ⟨("_law_cell_at", none), "_law_cell_at", "_law_cell_at", defArgs s_l_cell_at, defBody s_l_cell_at, defScope s_l_cell_at, [], []⟩
def hd_l_is_name : He.DefD := ⟨("_law_is_name", none), "_law_is_name", "_law_is_name", defArgs s_l_is_name, defBody s_l_is_name, defScope s_l_is_name, [], []⟩
def hd_l_due : He.DefD := ⟨("_law_due", none), "_law_due", "_law_due", defArgs s_l_due, defBody s_l_due, defScope s_l_due, [], []⟩
def hd_l_faulty : He.DefD := ⟨("_law_faulty", none), "_law_faulty", "_law_faulty", defArgs s_l_faulty, defBody s_l_faulty, defScope s_l_faulty, [], []⟩
def hd_l_number : He.DefD := ⟨("_law_number", none), "_law_number", "_law_number", defArgs s_l_number, defBody s_l_number, defScope s_l_number, [], []⟩
def hd_l_name_by : He.DefD := ⟨("_law_name_by", none), "_law_name_by", "_law_name_by", defArgs s_l_name_by, defBody s_l_name_by, defScope s_l_name_by, [], []⟩
def hd_l_kinds : He.DefD := ⟨("_law_kinds", none), "_law_kinds", "_law_kinds", defArgs s_l_kinds, defBody s_l_kinds, defScope s_l_kinds, [], []⟩
def hd_p_Shop_place : He.DefD := ⟨("Shop", some "place"), "place", "Shop.place", defArgs s_p_Shop_place, defBody s_p_Shop_place, defScope s_p_Shop_place, [], []⟩
def hd_l_one_class : He.DefD := ⟨("_law_one_class", none), "_law_one_class", "_law_one_class", defArgs s_l_one_class, defBody s_l_one_class, defScope s_l_one_class, [], []⟩
def hd_l_word : He.DefD := ⟨("_law_word", none), "_law_word", "_law_word", defArgs s_l_word, defBody s_l_word, defScope s_l_word, [], []⟩
def hd_l_place : He.DefD := ⟨("_law_place", none), "_law_place", "_law_place", defArgs s_l_place, defBody s_l_place, defScope s_l_place, [], []⟩
def hd_p_is_name : He.DefD := ⟨("is_name", none), "is_name", "is_name", defArgs s_p_is_name, defBody s_p_is_name, defScope s_p_is_name, [], []⟩
def hd_p_is_pair : He.DefD := ⟨("is_pair", none), "is_pair", "is_pair", defArgs s_p_is_pair, defBody s_p_is_pair, defScope s_p_is_pair, [], []⟩
def hd_p_is_whole : He.DefD := ⟨("is_whole", none), "is_whole", "is_whole", defArgs s_p_is_whole, defBody s_p_is_whole, defScope s_p_is_whole, [], []⟩
def hd_p_need_kind : He.DefD := ⟨("need_kind", none), "need_kind", "need_kind", defArgs s_p_need_kind, defBody s_p_need_kind, defScope s_p_need_kind, [], []⟩
def hd_p_need_kinds : He.DefD := ⟨("need_kinds", none), "need_kinds", "need_kinds", defArgs s_p_need_kinds, defBody s_p_need_kinds, defScope s_p_need_kinds, [], []⟩
def hd_p_Shop_init : He.DefD := ⟨("Shop", some "__init__"), "__init__", "Shop.__init__", defArgs s_p_Shop_init, defBody s_p_Shop_init, defScope s_p_Shop_init, [], []⟩
def hd_l_told : He.DefD := ⟨("_law_told", none), "_law_told", "_law_told", defArgs s_l_told, defBody s_l_told, defScope s_l_told, [], []⟩
def hd_p_law : He.DefD := ⟨("law", none), "law", "law", defArgs s_p_law, defBody s_p_law, defScope s_p_law, [], []⟩
def hdFn : List He.DefD := [hd_l_cell_at, hd_l_is_name, hd_l_due, hd_l_faulty, hd_l_number, hd_l_name_by, hd_l_kinds, hd_p_Shop_place, hd_l_one_class, hd_l_word, hd_l_place, hd_p_is_name, hd_p_is_pair, hd_p_is_whole, hd_p_need_kind, hd_p_need_kinds, hd_p_Shop_init, hd_l_told, hd_p_law]
def hdFa : List He.Fa := [.free "ValueError", .free "all", .free "bool", .free "int", .free "isinstance", .free "len", .free "list", .free "max", .free "range", .free "str", .free "tuple", .int "HIGHEST_PRICE" 100000, .int "LONGEST_NAME" 8, .int "MOST_KINDS" 5, .glo "BadKinds", .exc "BadKinds", .glo "BadName", .exc "BadName", .glo "BadPrice", .exc "BadPrice", .glo "NoKind", .exc "NoKind", .glo "Twice", .exc "Twice", .glo "BadBasket", .glo "BadOffer", .glo "NoOffer", .glo "Shop", .glo "TillError", .glo "TooMany", .cls "Shop", .noat "Shop" "names", .noat "Shop" "prices", .exm "BadKinds" "TillError" true, .exm "BadName" "TillError" true, .exm "Twice" "TillError" true, .exm "BadPrice" "TillError" true, .exm "BadBasket" "TillError" true, .exm "TooMany" "TillError" true, .exm "BadOffer" "TillError" true, .exm "NoKind" "TillError" true, .exm "NoOffer" "TillError" true, .glo "_law_cell_at", .glo "_law_is_name", .glo "_law_due", .glo "_law_faulty", .glo "_law_number", .glo "_law_name_by", .glo "_law_kinds", .meth "Shop" "place", .glo "_law_one_class", .glo "_law_word", .glo "_law_place", .glo "is_name", .glo "is_pair", .glo "is_whole", .glo "need_kind", .glo "need_kinds", .mkr "Shop", .glo "_law_told", .glo "law"]
def hdTf : List He.Defn := [("is_name", none)]
def exB (K : PySem.W.Frag) : Bool := exI K "Shop" && (exC K csE && (exK K excSub csE ["TillError", "BadKinds", "BadName", "Twice", "BadPrice", "BadBasket", "TooMany", "BadOffer", "NoKind", "NoOffer"] && (exV K csE)))
theorem and1 {a b : Bool} (h : (a && b) = true) : a = true := by cases a <;> first | rfl | exact h
theorem and2 {a b : Bool} (h : (a && b) = true) : b = true := by cases a <;> first | exact h | cases h
theorem fx_of {P : Program} {w : World} {K : PySem.W.Frag} {h : Heap} {mg : Str → Option Value} {base : Heap} {tb : List Addr} (X : K.In h) (G : h.Ns mainGlobals mg) (c : He.SaysX hdFa hdFn [] hdTf exB w h K) : Fx P w K mg base tb where
  z_ValueError := He.free_ok X G (c.t.d.fact 0 (f := .free "ValueError") rfl)
  z_all := He.free_ok X G (c.t.d.fact 1 (f := .free "all") rfl)
  z_bool := He.free_ok X G (c.t.d.fact 2 (f := .free "bool") rfl)
  z_int := He.free_ok X G (c.t.d.fact 3 (f := .free "int") rfl)
  z_isinstance := He.free_ok X G (c.t.d.fact 4 (f := .free "isinstance") rfl)
  z_len := He.free_ok X G (c.t.d.fact 5 (f := .free "len") rfl)
  z_list := He.free_ok X G (c.t.d.fact 6 (f := .free "list") rfl)
  z_max := He.free_ok X G (c.t.d.fact 7 (f := .free "max") rfl)
  z_range := He.free_ok X G (c.t.d.fact 8 (f := .free "range") rfl)
  z_str := He.free_ok X G (c.t.d.fact 9 (f := .free "str") rfl)
  z_tuple := He.free_ok X G (c.t.d.fact 10 (f := .free "tuple") rfl)
  g_HIGHEST_PRICE := He.int_ok X G (c.t.d.fact 11 (f := .int "HIGHEST_PRICE" 100000) rfl)
  g_LONGEST_NAME := He.int_ok X G (c.t.d.fact 12 (f := .int "LONGEST_NAME" 8) rfl)
  g_MOST_KINDS := He.int_ok X G (c.t.d.fact 13 (f := .int "MOST_KINDS" 5) rfl)
  xd_BadKinds := excD_of X G (c.t.d.fact 14 (f := .glo "BadKinds") rfl) (c.t.d.fact 15 (f := .exc "BadKinds") rfl)
  xd_BadName := excD_of X G (c.t.d.fact 16 (f := .glo "BadName") rfl) (c.t.d.fact 17 (f := .exc "BadName") rfl)
  xd_BadPrice := excD_of X G (c.t.d.fact 18 (f := .glo "BadPrice") rfl) (c.t.d.fact 19 (f := .exc "BadPrice") rfl)
  xd_NoKind := excD_of X G (c.t.d.fact 20 (f := .glo "NoKind") rfl) (c.t.d.fact 21 (f := .exc "NoKind") rfl)
  xd_Twice := excD_of X G (c.t.d.fact 22 (f := .glo "Twice") rfl) (c.t.d.fact 23 (f := .exc "Twice") rfl)
  gx_BadBasket := He.glo_ok X G (c.t.d.fact 24 (f := .glo "BadBasket") rfl)
  gx_BadKinds := He.glo_ok X G (c.t.d.fact 14 (f := .glo "BadKinds") rfl)
  gx_BadName := He.glo_ok X G (c.t.d.fact 16 (f := .glo "BadName") rfl)
  gx_BadOffer := He.glo_ok X G (c.t.d.fact 25 (f := .glo "BadOffer") rfl)
  gx_BadPrice := He.glo_ok X G (c.t.d.fact 18 (f := .glo "BadPrice") rfl)
  gx_NoKind := He.glo_ok X G (c.t.d.fact 20 (f := .glo "NoKind") rfl)
  gx_NoOffer := He.glo_ok X G (c.t.d.fact 26 (f := .glo "NoOffer") rfl)
  gx_Shop := He.glo_ok X G (c.t.d.fact 27 (f := .glo "Shop") rfl)
  gx_TillError := He.glo_ok X G (c.t.d.fact 28 (f := .glo "TillError") rfl)
  gx_TooMany := He.glo_ok X G (c.t.d.fact 29 (f := .glo "TooMany") rfl)
  gx_Twice := He.glo_ok X G (c.t.d.fact 22 (f := .glo "Twice") rfl)
  na_Shop_names := He.noat_ok (c.t.d.fact 31 (f := .noat "Shop" "names") rfl)
  na_Shop_prices := He.noat_ok (c.t.d.fact 32 (f := .noat "Shop" "prices") rfl)
  gcs := by
      intro c' hc'
      simp only [csE, List.mem_cons, List.not_mem_nil, or_false] at hc'
      rcases hc' with rfl | rfl | rfl | rfl | rfl | rfl | rfl | rfl | rfl
      · exact He.glo_ok X G (c.t.d.fact 14 (f := .glo "BadKinds") rfl)
      · exact He.glo_ok X G (c.t.d.fact 16 (f := .glo "BadName") rfl)
      · exact He.glo_ok X G (c.t.d.fact 22 (f := .glo "Twice") rfl)
      · exact He.glo_ok X G (c.t.d.fact 18 (f := .glo "BadPrice") rfl)
      · exact He.glo_ok X G (c.t.d.fact 24 (f := .glo "BadBasket") rfl)
      · exact He.glo_ok X G (c.t.d.fact 29 (f := .glo "TooMany") rfl)
      · exact He.glo_ok X G (c.t.d.fact 25 (f := .glo "BadOffer") rfl)
      · exact He.glo_ok X G (c.t.d.fact 20 (f := .glo "NoKind") rfl)
      · exact He.glo_ok X G (c.t.d.fact 26 (f := .glo "NoOffer") rfl)
  exm := by
      intro c' hc'
      simp only [csE, List.mem_cons, List.not_mem_nil, or_false] at hc'
      rcases hc' with rfl | rfl | rfl | rfl | rfl | rfl | rfl | rfl | rfl
      · exact He.exm_ok (c.t.d.fact 33 (f := .exm "BadKinds" "TillError" true) rfl)
      · exact He.exm_ok (c.t.d.fact 34 (f := .exm "BadName" "TillError" true) rfl)
      · exact He.exm_ok (c.t.d.fact 35 (f := .exm "Twice" "TillError" true) rfl)
      · exact He.exm_ok (c.t.d.fact 36 (f := .exm "BadPrice" "TillError" true) rfl)
      · exact He.exm_ok (c.t.d.fact 37 (f := .exm "BadBasket" "TillError" true) rfl)
      · exact He.exm_ok (c.t.d.fact 38 (f := .exm "TooMany" "TillError" true) rfl)
      · exact He.exm_ok (c.t.d.fact 39 (f := .exm "BadOffer" "TillError" true) rfl)
      · exact He.exm_ok (c.t.d.fact 40 (f := .exm "NoKind" "TillError" true) rfl)
      · exact He.exm_ok (c.t.d.fact 41 (f := .exm "NoOffer" "TillError" true) rfl)
  ci_Shop := exI_ok (and1 c.more) (He.cls_ok (c.t.d.fact 30 (f := .cls "Shop") rfl))
  xc := exC_ok (and1 (and2 c.more))
  kt := exK_ok (and1 (and2 (and2 c.more)))
  ktV := exV_ok (and2 (and2 (and2 c.more)))
theorem lawAt {l : PySem.W.OpenLaw} {w : World} {K : PySem.W.Frag} {h : Heap} {mg : Str → Option Value} {fa : Addr} (X : K.In h) (G : h.Ns mainGlobals mg) (hfa : mg "law" = some (.ref fa)) (c : He.SaysX hdFa hdFn [] hdTf exB w h K) : LamX.LawAtS l w K (L2.CX l.prog w) 7 63 "_law_script" mg fa h := by
  have e := hfa.symm.trans (He.glo_ok X G (c.t.d.fact 60 (f := .glo "law") rfl))
  cases e
  obtain ⟨fd_l_cell_at, F_l_cell_at'⟩ := c.t.d.def_ 0 (d := hd_l_cell_at) rfl
  obtain ⟨fd_l_is_name, F_l_is_name'⟩ := c.t.d.def_ 1 (d := hd_l_is_name) rfl
  obtain ⟨fd_l_due, F_l_due'⟩ := c.t.d.def_ 2 (d := hd_l_due) rfl
  obtain ⟨fd_l_faulty, F_l_faulty'⟩ := c.t.d.def_ 3 (d := hd_l_faulty) rfl
  obtain ⟨fd_l_number, F_l_number'⟩ := c.t.d.def_ 4 (d := hd_l_number) rfl
  obtain ⟨fd_l_name_by, F_l_name_by'⟩ := c.t.d.def_ 5 (d := hd_l_name_by) rfl
  obtain ⟨fd_l_kinds, F_l_kinds'⟩ := c.t.d.def_ 6 (d := hd_l_kinds) rfl
  obtain ⟨fd_p_Shop_place, F_p_Shop_place'⟩ := c.t.d.def_ 7 (d := hd_p_Shop_place) rfl
  obtain ⟨fd_l_one_class, F_l_one_class'⟩ := c.t.d.def_ 8 (d := hd_l_one_class) rfl
  obtain ⟨fd_l_word, F_l_word'⟩ := c.t.d.def_ 9 (d := hd_l_word) rfl
  obtain ⟨fd_l_place, F_l_place'⟩ := c.t.d.def_ 10 (d := hd_l_place) rfl
  obtain ⟨fd_p_is_name, F_p_is_name'⟩ := c.t.d.def_ 11 (d := hd_p_is_name) rfl
  obtain ⟨fd_p_is_pair, F_p_is_pair'⟩ := c.t.d.def_ 12 (d := hd_p_is_pair) rfl
  obtain ⟨fd_p_is_whole, F_p_is_whole'⟩ := c.t.d.def_ 13 (d := hd_p_is_whole) rfl
  obtain ⟨fd_p_need_kind, F_p_need_kind'⟩ := c.t.d.def_ 14 (d := hd_p_need_kind) rfl
  obtain ⟨fd_p_need_kinds, F_p_need_kinds'⟩ := c.t.d.def_ 15 (d := hd_p_need_kinds) rfl
  obtain ⟨fd_p_Shop_init, F_p_Shop_init'⟩ := c.t.d.def_ 16 (d := hd_p_Shop_init) rfl
  obtain ⟨fd_l_told, F_l_told'⟩ := c.t.d.def_ 17 (d := hd_l_told) rfl
  obtain ⟨fd_p_law, F_p_law'⟩ := c.t.d.def_ 18 (d := hd_p_law) rfl
  refine ⟨fd_p_law, hdTf.map (He.cT K), spLaw K ((hdTf.map (He.cT K)).map (·.2)), ?_, ?_, ?_, ?_, ?_, fun base KB GB TB => FnOk.imp (?_ : FnOk l.prog w K mg base (L2.CX l.prog w) 7 _ fd_p_law ["_law_script"] (SpF K mg ((hdTf.map (He.cT K)).map (·.2)) 1 false F_p_law)) (law_sp law_ok)⟩
  · intro p hp; obtain ⟨q, hq, rfl⟩ := List.mem_map.mp hp; exact c.empty q hq
  · intro p hp; obtain ⟨q, hq, rfl⟩ := List.mem_map.mp hp; exact c.out q hq
  · intro p hp; obtain ⟨q, hq, rfl⟩ := List.mem_map.mp hp; exact PySem.W.codeHd_of_K X (c.hd q hq)
  · exact fun s u => (FunD.bindsA (ps := ["_law_script"]) F_p_law' fun _ _ _ _ _ _ us hl => match us, hl with | [_], _ => rfl) s [u] rfl
  · exact fun H a ns hl _ ht hS => ⟨a, ns, rfl, hS, hl, fun T hT => by
      obtain ⟨p, hp, rfl⟩ := List.mem_map.mp hT
      exact tab_new (ht p hp), fun _ => rfl⟩
  · have T : Fx l.prog w K mg base ((hdTf.map (He.cT K)).map (·.2)) := fx_of X G c
    have C_l_cell_at := callee_of (base := base) (P := l.prog) (w := w) (ok_l_cell_at T F_l_cell_at') (He.glo_ok X G (c.t.d.fact 42 (f := .glo "_law_cell_at") rfl)) F_l_cell_at'.kp (F_l_cell_at'.bindsN (ps := ["_law_script", "_law_k"]) fun _ _ _ _ _ _ us hl => match us, hl with | [_, _], _ => rfl)
    have C_l_is_name := callee_of (base := base) (P := l.prog) (w := w) (ok_l_is_name T F_l_is_name') (He.glo_ok X G (c.t.d.fact 43 (f := .glo "_law_is_name") rfl)) F_l_is_name'.kp (F_l_is_name'.bindsN (ps := ["_law_thing"]) fun _ _ _ _ _ _ us hl => match us, hl with | [_], _ => rfl)
    have C_l_due := callee_of (base := base) (P := l.prog) (w := w) (ok_l_due T F_l_due' C_l_is_name) (He.glo_ok X G (c.t.d.fact 44 (f := .glo "_law_due") rfl)) F_l_due'.kp (F_l_due'.bindsN (ps := ["_law_kinds_here"]) fun _ _ _ _ _ _ us hl => match us, hl with | [_], _ => rfl)
    have C_l_faulty := callee_of (base := base) (P := l.prog) (w := w) (ok_l_faulty T F_l_faulty') (He.glo_ok X G (c.t.d.fact 45 (f := .glo "_law_faulty") rfl)) F_l_faulty'.kp (F_l_faulty'.bindsN (ps := ["_law_kinds_here", "_law_kind", "_law_number_here"]) fun _ _ _ _ _ _ us hl => match us, hl with | [_, _, _], _ => rfl)
    have C_l_number := callee_of (base := base) (P := l.prog) (w := w) (ok_l_number T F_l_number') (He.glo_ok X G (c.t.d.fact 46 (f := .glo "_law_number") rfl)) F_l_number'.kp (F_l_number'.bindsN (ps := ["_law_script", "_law_k"]) fun _ _ _ _ _ _ us hl => match us, hl with | [_, _], _ => rfl)
    have C_l_name_by := callee_of (base := base) (P := l.prog) (w := w) (ok_l_name_by T F_l_name_by' C_l_cell_at C_l_number) (He.glo_ok X G (c.t.d.fact 47 (f := .glo "_law_name_by") rfl)) F_l_name_by'.kp (F_l_name_by'.bindsN (ps := ["_law_script", "_law_k"]) fun _ _ _ _ _ _ us hl => match us, hl with | [_, _], _ => rfl)
    have C_l_kinds := callee_of (base := base) (P := l.prog) (w := w) (ok_l_kinds T F_l_kinds' C_l_cell_at C_l_name_by C_l_number) (He.glo_ok X G (c.t.d.fact 48 (f := .glo "_law_kinds") rfl)) F_l_kinds'.kp (F_l_kinds'.bindsN (ps := ["_law_script"]) fun _ _ _ _ _ _ us hl => match us, hl with | [_], _ => rfl)
    have C_p_Shop_place : MCallee l.prog w K mg base ((hdTf.map (He.cT K)).map (·.2)) "Shop" "place" 1 2 false F_p_Shop_place := ⟨He.cls_ok (c.t.d.fact 30 (f := .cls "Shop") rfl), _, _, _, ok_p_Shop_place T F_p_Shop_place', He.meth_ok (c.t.d.fact 49 (f := .meth "Shop" "place") rfl), (F_p_Shop_place'.bindsN (ps := ["self", "name"]) fun _ _ _ _ _ _ us hl => match us, hl with | [_, _], _ => rfl)⟩
    have C_l_one_class : HCallee l.prog w K mg base ((hdTf.map (He.cT K)).map (·.2)) "_law_one_class" 1 csE F_l_one_class := ⟨_, _, _, ok_l_one_class T F_l_one_class' hF_l_one_class, He.glo_ok X G (c.t.d.fact 50 (f := .glo "_law_one_class") rfl), F_l_one_class'.kp, (F_l_one_class'.bindsN (ps := ["_law_e"]) fun _ _ _ _ _ _ us hl => match us, hl with | [_], _ => rfl)⟩
    have C_l_word : HCallee l.prog w K mg base ((hdTf.map (He.cT K)).map (·.2)) "_law_word" 2 csE F_l_word := ⟨_, _, _, ok_l_word T F_l_word' hF_l_word C_l_one_class, He.glo_ok X G (c.t.d.fact 51 (f := .glo "_law_word") rfl), F_l_word'.kp, (F_l_word'.bindsN (ps := ["_law_e"]) fun _ _ _ _ _ _ us hl => match us, hl with | [_], _ => rfl)⟩
    have C_l_place := callee_of (base := base) (P := l.prog) (w := w) (ok_l_place T F_l_place' C_p_Shop_place C_l_word) (He.glo_ok X G (c.t.d.fact 52 (f := .glo "_law_place") rfl)) F_l_place'.kp (F_l_place'.bindsN (ps := ["_law_shop", "_law_name"]) fun _ _ _ _ _ _ us hl => match us, hl with | [_, _], _ => rfl)
    have C_p_is_name := callee_of (base := base) (P := l.prog) (w := w) (ok_p_is_name T F_p_is_name' (hasTab_of (p := ("is_name", none)) F_p_is_name' (TB _ (List.mem_map.mpr ⟨_, (by simp [hdTf]), rfl⟩)) (List.mem_map.mpr ⟨_, List.mem_map.mpr ⟨_, (by simp [hdTf]), rfl⟩, rfl⟩))) (He.glo_ok X G (c.t.d.fact 53 (f := .glo "is_name") rfl)) F_p_is_name'.kp (F_p_is_name'.bindsN (ps := ["value"]) fun _ _ _ _ _ _ us hl => match us, hl with | [_], _ => rfl)
    have C_p_is_pair := callee_of (base := base) (P := l.prog) (w := w) (ok_p_is_pair T F_p_is_pair') (He.glo_ok X G (c.t.d.fact 54 (f := .glo "is_pair") rfl)) F_p_is_pair'.kp (F_p_is_pair'.bindsN (ps := ["value"]) fun _ _ _ _ _ _ us hl => match us, hl with | [_], _ => rfl)
    have C_p_is_whole := callee_of (base := base) (P := l.prog) (w := w) (ok_p_is_whole T F_p_is_whole') (He.glo_ok X G (c.t.d.fact 55 (f := .glo "is_whole") rfl)) F_p_is_whole'.kp (F_p_is_whole'.bindsN (ps := ["value", "least", "most"]) fun _ _ _ _ _ _ us hl => match us, hl with | [_, _, _], _ => rfl)
    have C_p_need_kind := callee_of (base := base) (P := l.prog) (w := w) (ok_p_need_kind T F_p_need_kind' C_p_is_name C_p_is_pair C_p_is_whole) (He.glo_ok X G (c.t.d.fact 56 (f := .glo "need_kind") rfl)) F_p_need_kind'.kp (F_p_need_kind'.bindsN (ps := ["kind", "names_ahead"]) fun _ _ _ _ _ _ us hl => match us, hl with | [_, _], _ => rfl)
    have C_p_need_kinds := callee_of (base := base) (P := l.prog) (w := w) (ok_p_need_kinds T F_p_need_kinds' C_p_need_kind) (He.glo_ok X G (c.t.d.fact 57 (f := .glo "need_kinds") rfl)) F_p_need_kinds'.kp (F_p_need_kinds'.bindsN (ps := ["kinds"]) fun _ _ _ _ _ _ us hl => match us, hl with | [_], _ => rfl)
    have C_p_Shop_init : Maker l.prog w K mg base ((hdTf.map (He.cT K)).map (·.2)) "Shop" 4 1 F_p_Shop_init := ⟨He.glo_ok X G (c.t.d.fact 27 (f := .glo "Shop") rfl), _, _, _, ok_p_Shop_init T F_p_Shop_init' hF_p_Shop_init C_p_need_kinds, He.mkr_ok (c.t.d.fact 58 (f := .mkr "Shop") rfl), (F_p_Shop_init'.bindsN (ps := ["self", "kinds"]) fun _ _ _ _ _ _ us hl => match us, hl with | [_, _], _ => rfl)⟩
    have C_l_told : CalleeD l.prog w K mg base ((hdTf.map (He.cT K)).map (·.2)) "_law_told" 6 1 F_l_told := ⟨_, _, _, ok_l_told T F_l_told' C_p_Shop_init C_l_word, He.glo_ok X G (c.t.d.fact 59 (f := .glo "_law_told") rfl), F_l_told'.kp, (F_l_told'.bindsN (ps := ["_law_kinds_here"]) fun _ _ _ _ _ _ us hl => match us, hl with | [_], _ => rfl)⟩
    exact ok_p_law T F_p_law' C_l_cell_at C_l_due C_l_faulty C_l_kinds C_l_place C_l_told
abbrev hdR : PySem.W.OpenRow := PySem.W.OpenLaw.row PySem.Challenge.rw_tillbasket_k02_shops_refused
abbrev hdHk : PySem.W.Hook := He.hookX 8 hdFa hdFn [] hdTf exB
def hdOb (s : PySem.W.SharedT) : He.AlX := He.obsX 8 hdFa hdFn [] hdTf exB (HandSHeadRun.getT s)
theorem hdOb_eq (s : PySem.W.SharedT) : hdOb s = hdHk.obs s.abs := He.obsX_eq (HandSHeadRun.getT_eq s)
def hdL0 : List Str := ["is_whole", "is_name", "is_pair", "TillError", "BadKinds", "BadName", "Twice", "BadPrice", "BadBasket", "TooMany", "BadOffer", "NoKind", "NoOffer", "need_kind", "need_kinds", "Shop", "_law_cell_at", "_law_number", "_law_name_by", "_law_kinds", "_law_faulty", "_law_is_name", "_law_due", "_law_one_class", "_law_word", "_law_told", "_law_place", "LONGEST_NAME", "MOST_KINDS", "HIGHEST_PRICE"]
def hdLoose : List Str := hdL0
set_option maxHeartbeats 0 in
theorem hdRun (w : World) : HandSHeadRun.RunEq hdR (PySem.W.view hdR.prog [34]) hdHk hdOb 4000 hdLoose w := by
  intro os
  kernel_rfl
end My
open PySem PySem.W PySem.Calls PyProof.Rows
set_option maxRecDepth 100000 in
set_option maxHeartbeats 0 in
theorem PySem.Challenge.cw_tillbasket_k02_shops_refused_holds : PySem.Challenge.rw_tillbasket_k02_shops_refused.Holds := by
  w_on; o_law
  refine HandSHeadRun.head_any (r := OpenLaw.row PySem.Challenge.rw_tillbasket_k02_shops_refused) (q := view (OpenLaw.row PySem.Challenge.rw_tillbasket_k02_shops_refused).prog [34]) (H := My.hdHk) (ob := My.hdOb) (M := 4000) (loose := My.hdLoose) (d := HandSHeadRun.topDef (OpenLaw.row PySem.Challenge.rw_tillbasket_k02_shops_refused).prog 34) (kwd := []) My.hdOb_eq
    (by kernel_rfl) (fun s => by kernel_rfl) My.hdRun (by kernel_rfl) (by kernel_rfl) (by kernel_rfl) (by rfl) (by first | assumption | decide +kernel) (by decide +kernel) ⟨rfl, rfl, rfl, rfl, rfl, by decide +kernel⟩ ?hw ?hc
  case hw => w_witness2
  case hc =>
    refine LamX.walk_ofTsE (l := PySem.Challenge.rw_tillbasket_k02_shops_refused) (n := 63) (k := 7) (x := "_law_script") (CX := fun w => L2.CX (PySem.Challenge.rw_tillbasket_k02_shops_refused).prog w) rfl (by decide) (by kernel_rfl) ⟨rfl, by decide, by decide⟩ ?F (fun _ _ _ _ _ ⟨_, _, _, _, _, _, _, _, _, _, _, _, z⟩ => z)
    intro w mg fa h Y G hmg0
    obtain ⟨K, KX, c⟩ := Y
    have hmg : mg ("law" : PySem.Str) = some (.ref fa) := by
      have e : (HandSHeadRun.topDef (OpenLaw.row PySem.Challenge.rw_tillbasket_k02_shops_refused).prog 34).name = ("law" : PySem.Str) := by kernel_rfl
      rw [← e]
      exact hmg0
    exact ⟨K, KX, My.lawAt KX G hmg c⟩
