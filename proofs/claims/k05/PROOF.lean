import PyProof.Rows.All
import Wide.All
import OpenK.AllK
import Wide.FinOn
import HandS.ForMost
import HandS.ForExc
import HandS.Evl
import HandS.Zip
import HandS.Rev
import HandS.IsInst
import HandS.AnyAll
import HandS.More
import HandS.Words
import HandS.WordsExc
import HandS.Defaults
import HandS.ExcOwn
import HandS.ExcIs
import HandS.HotCalls
import HandS.Conv
import HandS.SetFor
import HandS.Deep
import HandS.HeadHook1
import HandS.HeadHook2
import HandS.HeadHook4
import HandS.Head0
import HandS.Head1
import HandS.Head2
import HandS.HeadEnd
import HandS.HeadWalk
import HandS.EndTab
import HandS.GenOver
import KE.GoesMore
import KE.GoesEnum
import HandS.Iter
import HandS.DictComp
import HandS.CallLocal
import KE.KDictPairs
import HandS.Strs
import KE.DataMinMax
import KE.SortData
import PySem.Challenge.RW_tillbasket_k05_the_table_by_steps
set_option Elab.async false
set_option linter.all false
set_option maxRecDepth 100000
set_option maxHeartbeats 4000000
namespace Dx
open PySem PySem.Spec PyProof.Rows L2
def Keep (o : HO) (r : Option HO) : Prop := match o with
  | .tbl ps => ∃ ps', r = some (.tbl ps') ∧ (TriplesOk ps.toList → TriplesOk ps'.toList)
  | o => r = some o
def Ex (H H' : Hp) : Prop := ∀ a o, H a = some o → Keep o (H' a)
theorem Keep.same (o : HO) : Keep o (some o) := by
  cases o with
  | tbl ps => exact ⟨ps, rfl, id⟩
  | _ => rfl
theorem Keep.there {o : HO} {r : Option HO} (h : Keep o r) : ∃ o', r = some o' := by
  cases o with
  | tbl ps => obtain ⟨ps', e, _⟩ := h; exact ⟨_, e⟩
  | _ => exact ⟨_, h⟩
theorem Keep.trans {o : HO} {r : Option HO} {H : Hp} {a : Addr} (h : Keep o (H a)) {H' : Hp} (e : Ex H H') : Keep o (H' a) := by
  cases o with
  | tbl ps =>
    obtain ⟨ps', q, t⟩ := h
    obtain ⟨ps2, q2, t2⟩ := e _ _ q
    exact ⟨ps2, q2, fun z => t2 (t z)⟩
  | _ => exact e _ _ h
namespace Ex
theorem refl (H : Hp) : Ex H H := fun a o h => by rw [h]; exact Keep.same o
theorem trans {H H1 H2 : Hp} (e : Ex H H1) (e2 : Ex H1 H2) : Ex H H2 := fun a o h => Keep.trans (r := none) (e a o h) e2
theorem of {H H' : Hp} (e : Evl.Ex H H') : Ex H H' := fun a o h => by rw [e a o h]; exact Keep.same o
theorem new {H : Hp} {p : Addr} {o : HO} (h : H p = none) : Ex H (upd H p o) := .of (Evl.Ex.new h)
theorem mutd {H H' : Hp} {p : Addr} {o : HO} (e : Ex H H') (h : H p = none) : Ex H (upd H' p o) := fun a q z => by
  have n : a ≠ p := fun c => by rw [c, h] at z; cases z
  rw [upd_ne n]; exact e a q z
theorem tab {H H' : Hp} {P : Addr} (e : Ex H H') (h : GxR.TabG H P) : GxR.TabG H' P := by
  obtain ⟨ps, h1, h2⟩ := h
  obtain ⟨ps', q, t⟩ := e _ _ h1
  exact ⟨ps', q, t h2⟩
end Ex
theorem ex_l {K : PySem.W.Frag} {H H' : Hp} {a : Addr} {xs : List V} (e : Ex H H') (h : SqL K H a xs) : SqL K H' a xs := by
  rcases h with (h | ⟨o, h⟩) | h
  · exact .inl (.inl (e _ _ h))
  · exact .inl (.inr ⟨o, e _ _ h⟩)
  · exact .inr h
theorem ex_t {K : PySem.W.Frag} {H H' : Hp} {a : Addr} {xs : List V} (e : Ex H H') (h : SqT K H a xs) : SqT K H' a xs := by
  rcases h with (h | ⟨o, h⟩) | h
  · exact .inl (.inl (e _ _ h))
  · exact .inl (.inr ⟨o, e _ _ h⟩)
  · exact .inr h
/-- plain data -/
inductive D where
  | non | bl (b : Bool) | int (i : Int) | str (x : Str)
  | lst (xs : List D) | tup (xs : List D) | fz (xs : List D)
  | obj (c : Str) (fs : List (Str × D)) | raw (v : V)
  | dct (kvs : List (Str × D)) | fn (x : Str)
  /-- a tuple that is known to bear nothing but its items -/
  | tn (xs : List D)
  deriving Inhabited
mutual
/-- how data lies in the heap -/
inductive Den (K : PySem.W.Frag) (H : Hp) : V → D → Prop
  | non : Den K H .non .non
  | bl (b : Bool) : Den K H (.bl b) (.bl b)
  | int (i : Int) : Den K H (.int i) (.int i)
  | str (x : Str) : Den K H (.str x) (.str x)
  | lst {a : Addr} {xs : List V} {ds : List D} (h : H a = some (.lst xs)) (r : DenL K H xs ds) : Den K H (.ref a) (.lst ds)
  | tup {a : Addr} {xs : List V} {ds : List D} (h : SqT K H a xs) (r : DenL K H xs ds) : Den K H (.ref a) (.tup ds)
  | fz {a : Addr} {xs : List V} {ds : List D} (h : SqL K H a xs) (r : DenL K H xs ds) : Den K H (.ref a) (.fz ds)
  | obj {c : Str} {a dx : Addr} {fs : List (Str × V)} {gs : List (Str × D)} (h : H a = some (.ins (He.ga K c) dx fs)) (r : DenF K H fs gs) : Den K H (.ref a) (.obj c gs)
  | raw (v : V) : Den K H v (.raw v)
  | dct {a : Addr} {fs : List (Str × V)} {gs : List (Str × D)} (h : H a = some (.dK (fs.map fun p => (Sum.inr p.1, p.2)))) (r : DenF K H fs gs) : Den K H (.ref a) (.dct gs)
  | fn (x : Str) : Den K H (.ref (He.ga K x)) (.fn x)
  | tn {a : Addr} {o : Obj} {xs : List V} {ds : List D} (h : H a = some (.frz o (.tup xs))) (hd : o.dict = none) (r : DenL K H xs ds) : Den K H (.ref a) (.tn ds)
inductive DenL (K : PySem.W.Frag) (H : Hp) : List V → List D → Prop
  | nil : DenL K H [] []
  | cons {v : V} {vs : List V} {d : D} {ds : List D} (h : Den K H v d) (r : DenL K H vs ds) : DenL K H (v :: vs) (d :: ds)
inductive DenF (K : PySem.W.Frag) (H : Hp) : List (Str × V) → List (Str × D) → Prop
  | nil : DenF K H [] []
  | cons {f : Str} {v : V} {fs : List (Str × V)} {d : D} {gs : List (Str × D)} (h : Den K H v d) (r : DenF K H fs gs) : DenF K H ((f, v) :: fs) ((f, d) :: gs)
end
section
variable {K : PySem.W.Frag} {H H' : Hp}
mutual
theorem Den.mono (e : Ex H H') : ∀ {v : V} {d : D}, Den K H v d → Den K H' v d
  | _, _, .non => .non
  | _, _, .bl b => .bl b
  | _, _, .int i => .int i
  | _, _, .str x => .str x
  | _, _, .lst h r => .lst (e _ _ h) (DenL.mono e r)
  | _, _, .tup h r => .tup (ex_t e h) (DenL.mono e r)
  | _, _, .fz h r => .fz (ex_l e h) (DenL.mono e r)
  | _, _, .obj h r => .obj (e _ _ h) (DenF.mono e r)
  | _, _, .raw v => .raw v
  | _, _, .dct h r => .dct (e _ _ h) (DenF.mono e r)
  | _, _, .fn x => .fn x
  | _, _, .tn h hd r => .tn (e _ _ h) hd (DenL.mono e r)
theorem DenL.mono (e : Ex H H') : ∀ {vs : List V} {ds : List D}, DenL K H vs ds → DenL K H' vs ds
  | _, _, .nil => .nil
  | _, _, .cons h r => .cons (Den.mono e h) (DenL.mono e r)
theorem DenF.mono (e : Ex H H') : ∀ {vs : List (Str × V)} {ds : List (Str × D)}, DenF K H vs ds → DenF K H' vs ds
  | _, _, .nil => .nil
  | _, _, .cons h r => .cons (Den.mono e h) (DenF.mono e r)
end
theorem DenL.len : ∀ {vs : List V} {ds : List D}, DenL K H vs ds → vs.length = ds.length
  | _, _, .nil => rfl
  | _, _, .cons _ r => congrArg Nat.succ (DenL.len r)
theorem DenL.get : ∀ {vs : List V} {ds : List D} {i : Nat} {d : D}, DenL K H vs ds → ds[i]? = some d → ∃ v, vs[i]? = some v ∧ Den K H v d
  | _, _, _, _, .nil, e => by simp at e
  | _, _, 0, _, .cons h _, e => by simp at e; subst e; exact ⟨_, rfl, h⟩
  | _, _, i + 1, _, .cons _ r, e => by
    obtain ⟨v, h1, h2⟩ := DenL.get (i := i) r (by simpa using e)
    exact ⟨v, by simpa using h1, h2⟩
theorem DenL.getV : ∀ {vs : List V} {ds : List D} {i : Nat} {v : V}, DenL K H vs ds → vs[i]? = some v → ∃ d, ds[i]? = some d ∧ Den K H v d
  | _, _, _, _, .nil, e => by simp at e
  | _, _, 0, _, .cons h _, e => by simp at e; subst e; exact ⟨_, rfl, h⟩
  | _, _, i + 1, _, .cons _ r, e => by
    obtain ⟨v, h1, h2⟩ := DenL.getV (i := i) r (by simpa using e)
    exact ⟨v, by simpa using h1, h2⟩
theorem DenL.append : ∀ {vs ws : List V} {ds es : List D}, DenL K H vs ds → DenL K H ws es → DenL K H (vs ++ ws) (ds ++ es)
  | _, _, _, _, .nil, s => s
  | _, _, _, _, .cons h r, s => .cons h (DenL.append r s)
theorem DenL.one {v : V} {d : D} (h : Den K H v d) : DenL K H [v] [d] := .cons h .nil
theorem DenL.take : ∀ {vs : List V} {ds : List D} (n : Nat), DenL K H vs ds → DenL K H (vs.take n) (ds.take n)
  | _, _, 0, _ => .nil
  | _, _, _ + 1, .nil => .nil
  | _, _, n + 1, .cons h r => .cons h (DenL.take n r)
theorem DenL.drop : ∀ {vs : List V} {ds : List D} (n : Nat), DenL K H vs ds → DenL K H (vs.drop n) (ds.drop n)
  | _, _, 0, r => r
  | _, _, _ + 1, .nil => .nil
  | _, _, n + 1, .cons _ r => DenL.drop n r
theorem DenL.set {v : V} {d : D} (h : Den K H v d) : ∀ {vs : List V} {ds : List D} (n : Nat), DenL K H vs ds → DenL K H (vs.set n v) (ds.set n d)
  | _, _, _, .nil => .nil
  | _, _, 0, .cons _ r => .cons h r
  | _, _, n + 1, .cons q r => .cons q (DenL.set h n r)
theorem DenL.reverse : ∀ {vs : List V} {ds : List D}, DenL K H vs ds → DenL K H vs.reverse ds.reverse
  | _, _, .nil => .nil
  | _, _, .cons h r => by
    rw [List.reverse_cons, List.reverse_cons]
    exact DenL.append (DenL.reverse r) (.one h)
theorem DenF.look : ∀ {fs : List (Str × V)} {gs : List (Str × D)} {f : Str} {d : D}, DenF K H fs gs → gs.lookup f = some d → ∃ v, fs.lookup f = some v ∧ Den K H v d
  | _, _, f, _, .nil, e => by simp at e
  | _, _, f, d, .cons (f := g) h r, e => by
    rw [List.lookup_cons] at e ⊢
    cases q : f == g with
    | true => rw [q] at e; cases e; exact ⟨_, rfl, h⟩
    | false => rw [q] at e; exact DenF.look r e
end
def hid (S : List Addr) (H : Hp) : Hp := fun a => if a ∈ S then none else H a
def Sub (S : List Addr) (H : Hp) : Prop := ∀ a ∈ S, H a ≠ none
section
variable {S T : List Addr} {H H1 H2 : Hp}
theorem hid_in {a : Addr} (m : a ∈ S) : hid S H a = none := if_pos m
theorem hid_no {a : Addr} (m : a ∉ S) : hid S H a = H a := if_neg m
theorem hid_at {a : Addr} {o : HO} (n : a ∉ S) (h : H a = some o) : hid S H a = some o := by
  rw [hid_no n]; exact h
theorem hid_out {a : Addr} {o : HO} (h : hid S H a = some o) : a ∉ S ∧ H a = some o := by
  by_cases m : a ∈ S
  · rw [hid_in m] at h; cases h
  · rw [hid_no m] at h; exact ⟨m, h⟩
theorem hid_ex (e : Ex H H1) : Ex (hid S H) (hid S H1) := fun a o h => by
  obtain ⟨m, h⟩ := hid_out h
  rw [hid_no m]; exact e a o h
theorem hid_le : Ex (hid S H) H := fun a o h => by
  obtain ⟨m, h⟩ := hid_out h
  rw [h]; exact Keep.same o
theorem hid_sub (s : ∀ a ∈ T, a ∈ S) : Ex (hid S H) (hid T H) := fun a o h => by
  obtain ⟨m, h⟩ := hid_out h
  rw [hid_at (fun z => m (s a z)) h]; exact Keep.same o
theorem Sub.mono (s : Sub S H) (e : Ex H H1) : Sub S H1 := fun a m z => by
  cases q : H a with
  | none => exact s a m q
  | some o =>
    obtain ⟨o', h⟩ := (e a o q).there
    rw [h] at z; cases z
theorem Sub.new (s : Sub S H) {p : Addr} (n : H p = none) : p ∉ S := fun m => s p m n
theorem hid_fresh {p : Addr} (n : H p = none) (e : Ex H H1) : Ex (hid S H) (hid (p :: S) H1) := fun a o q => by
  obtain ⟨m, q⟩ := hid_out q
  rw [hid_no fun z => ?_]
  · exact e a o q
  · rcases List.mem_cons.mp z with z | z
    · rw [z, n] at q; cases q
    · exact m z
theorem ex_none (e : Ex H H1) {p : Addr} (h : H1 p = none) : H p = none := by
  cases q : H p with
  | none => rfl
  | some o =>
    obtain ⟨o', h'⟩ := (e p o q).there
    rw [h'] at h; cases h
end
inductive Res (α : Type) where
  | ok (a : α) | err (c : Str) | stuck
def Res.bind {α β : Type} : Res α → (α → Res β) → Res β
  | .ok a, f => f a
  | .err c, _ => .err c
  | .stuck, _ => .stuck
def Res.map {α β : Type} (f : α → β) : Res α → Res β
  | .ok a => .ok (f a)
  | .err c => .err c
  | .stuck => .stuck
instance : Monad Res where
  pure := .ok
  bind := Res.bind
@[simp] theorem bind_ok {α β : Type} (a : α) (f : α → Res β) : Res.bind (.ok a) f = f a := rfl
@[simp] theorem bind_err {α β : Type} (c : Str) (f : α → Res β) : Res.bind (.err c) f = .err c := rfl
@[simp] theorem bind_stuck {α β : Type} (f : α → Res β) : Res.bind (.stuck) f = .stuck := rfl
@[simp] theorem map_ok {α β : Type} (a : α) (f : α → β) : Res.map f (.ok a) = .ok (f a) := rfl
@[simp] theorem map_err {α β : Type} (c : Str) (f : α → β) : Res.map f (.err c) = .err c := rfl
@[simp] theorem map_stuck {α β : Type} (f : α → β) : Res.map f (.stuck) = .stuck := rfl
/-- the names' values, by slot -/
abbrev Sl := List (Option D)
/-- the wish about exceptions, by the class's name -/
structure Wi where
  f : Str → L2.St → Hp → Prop
  /-- the tables of the text's defs -/
  tb : List Addr
instance : CoeFun Wi (fun _ => Str → L2.St → Hp → Prop) := ⟨Wi.f⟩
abbrev EE := Sl → Res D
abbrev EB := Sl → Res Bool
abbrev EL := Sl → Res (List D)
structure EnvOk (K : PySem.W.Frag) (tb : List Addr) (R : List Nat) (env : Sl) (σ : L2.St) (H : Hp) : Prop where
  len : env.length = σ.length
  tab : ∀ P ∈ tb, GxR.TabG H P
  get : ∀ i ∈ R, ∀ d, env[i]? = some (some d) → ∃ v, σ[i]? = some (some v) ∧ Den K H v d
section
variable {K : PySem.W.Frag} {tb : List Addr} {R Ra Rb : List Nat} {env : Sl} {σ : L2.St} {H H1 : Hp}
theorem EnvOk.mono (o : EnvOk K tb R env σ H) (e : Ex H H1) : EnvOk K tb R env σ H1 := ⟨o.len, fun P m => e.tab (o.tab P m), fun i m d h => by
  obtain ⟨v, a, b⟩ := o.get i m d h
  exact ⟨v, a, b.mono e⟩⟩
theorem EnvOk.left (o : EnvOk K tb (Ra ++ Rb) env σ H) : EnvOk K tb Ra env σ H := ⟨o.len, o.tab, fun i m => o.get i (List.mem_append_left _ m)⟩
theorem EnvOk.right (o : EnvOk K tb (Ra ++ Rb) env σ H) : EnvOk K tb Rb env σ H := ⟨o.len, o.tab, fun i m => o.get i (List.mem_append_right _ m)⟩
end
def Post {α β : Type} (Rel : Hp → β → α → Prop) (w : Wi) (S : List Addr) (σ : L2.St) (H : Hp) (Q : β → Hp → Prop) : Res α → Prop
  | .ok a => ∀ b H1, Ex H H1 → Rel (hid S H1) b a → Q b H1
  | .err c => ∀ H1, Ex H H1 → w c σ H1
  | .stuck => False
section
variable {α β γ δ : Type} {Rel : Hp → β → α → Prop} {Rel2 : Hp → δ → γ → Prop} {w : Wi} {S : List Addr} {σ : L2.St} {H H1 : Hp} {Q : β → Hp → Prop} {Q2 : δ → Hp → Prop}
theorem Post.mono {r : Res α} (h : Post Rel w S σ H Q r) (e : Ex H H1) : Post Rel w S σ H1 Q r := by
  cases r with
  | ok a => exact fun b H2 e2 r => h b H2 (e.trans e2) r
  | err c => exact fun H2 e2 => h H2 (e.trans e2)
  | stuck => exact h
theorem Post.bind {r : Res α} {k : α → Res γ} (h : Post Rel2 w S σ H Q2 (r.bind k)) (hk : ∀ a, r = .ok a → ∀ b H1, Ex H H1 → Rel (hid S H1) b a → Post Rel2 w S σ H1 Q2 (k a) → Q b H1) : Post Rel w S σ H Q r := by
  cases r with
  | ok a => exact fun b H1 e r => hk a rfl b H1 e r (Post.mono (r := k a) h e)
  | err c => exact h
  | stuck => exact h
theorem Post.map {r : Res α} {k : α → γ} (h : Post Rel2 w S σ H Q2 (r.map k)) (hk : ∀ a, r = .ok a → ∀ b H1, Ex H H1 → Rel (hid S H1) b a → (∀ d H2, Ex H1 H2 → Rel2 (hid S H2) d (k a) → Q2 d H2) → Q b H1) : Post Rel w S σ H Q r := by
  cases r with
  | ok a => exact fun b H1 e r => hk a rfl b H1 e r fun d H2 e2 r2 => h d H2 (e.trans e2) r2
  | err c => exact h
  | stuck => exact h
theorem Post.okay {a : α} {b : β} (h : Post Rel w S σ H Q (.ok a)) (r : Rel (hid S H) b a) : Q b H := h b H (Ex.refl H) r
end
/-- the reading that data give -/
def tS {α β : Type} (Rel : Hp → β → α → Prop) (K : PySem.W.Frag) (w : Wi) (R : List Nat) (f : Sl → Res α) : L2.St → Hp → (β → Hp → Prop) → Prop :=
  fun σ H Q => ∃ (S : List Addr) (env : Sl), Sub S H ∧ EnvOk K w.tb R env σ (hid S H) ∧ Post Rel w S σ H Q (f env)
abbrev isB : Hp → Bool → Bool → Prop := fun _ b a => b = a
abbrev isO : Hp → Option Int → Option Int → Prop := fun _ b a => b = a
abbrev DE (X : Cx) (w : Wi) (R : List Nat) (e : Expr) (f : EE) : Prop := PE X e (tS (Den X.K) X.K w R f)
abbrev DT (X : Cx) (w : Wi) (R : List Nat) (e : Expr) (f : EB) : Prop := PT X e (tS isB X.K w R f)
abbrev DW (X : Cx) (w : Wi) (R : List Nat) (e : Expr) (f : EB) : Prop := PW X e (tS isB X.K w R f)
structure DA (X : Cx) (w : Wi) (R : List Nat) (es : List Expr) (f : EL) : Prop where
  pa : PA X es (tS (DenL X.K) X.K w R f)
  len : ∀ env ds, f env = .ok ds → ds.length = es.length
abbrev DP (X : Cx) (w : Wi) (R : List Nat) (e : Option Expr) (f : Sl → Res (Option Int)) : Prop := PO X e (tS isO X.K w R f)
/-- a new list -/
def PostF (K : PySem.W.Frag) (w : Wi) (S : List Addr) (σ : L2.St) (H : Hp) (Q : VK) : Res (List D) → Prop
  | .ok ds => ∀ p vs H1, H p = none → Ex H H1 → H1 p = some (.lst vs) → DenL K (hid (p :: S) H1) vs ds → Q (.ref p) H1
  | .err c => ∀ H1, Ex H H1 → w c σ H1
  | .stuck => False
def tF (K : PySem.W.Frag) (w : Wi) (R : List Nat) (f : EL) : TE := fun σ H Q => ∃ (S : List Addr) (env : Sl), Sub S H ∧ EnvOk K w.tb R env σ (hid S H) ∧ PostF K w S σ H Q (f env)
abbrev DL (X : Cx) (w : Wi) (R : List Nat) (e : Expr) (f : EL) : Prop := PE X e (tF X.K w R f)
theorem PE.weak {X : Cx} {e : Expr} {t t' : TE} (h : PE X e t) (i : ∀ σ H Q, t' σ H Q → t σ H Q) : PE X e t' := ⟨fun pins s σ H Q I q => h.run pins s σ H Q I (i σ H Q q)⟩
theorem PT.weak {X : Cx} {e : Expr} {t t' : TT} (h : PT X e t) (i : ∀ σ H Q, t' σ H Q → t σ H Q) : PT X e t' := ⟨fun pins s σ H Q I q => h.run pins s σ H Q I (i σ H Q q)⟩
theorem PW.weak {X : Cx} {e : Expr} {t t' : TT} (h : PW X e t) (i : ∀ σ H Q, t' σ H Q → t σ H Q) : PW X e t' := ⟨fun wh pins s σ H Q I q => h.run wh pins s σ H Q I (i σ H Q q)⟩
theorem PA.weak {X : Cx} {e : List Expr} {t t' : TA} (h : PA X e t) (i : ∀ σ H Q, t' σ H Q → t σ H Q) : PA X e t' := ⟨fun po pins s σ H Q I q => h.run po pins s σ H Q I (i σ H Q q)⟩
theorem PO.weak {X : Cx} {e : Option Expr} {t t' : TO} (h : PO X e t) (i : ∀ σ H Q, t' σ H Q → t σ H Q) : PO X e t' := ⟨fun pins s σ H Q I q => h.run pins s σ H Q I (i σ H Q q)⟩
theorem PS.weak {X : Cx} {e : Stmt} {t t' : TS} (h : PS X e t) (i : ∀ D σ H, t' D σ H → t D σ H) : PS X e t' := ⟨fun pins s σ H D I q => h.run pins s σ H D I (i D σ H q)⟩
theorem PSs.weak {X : Cx} {e : List Stmt} {t t' : TS} (h : PSs X e t) (i : ∀ D σ H, t' D σ H → t D σ H) : PSs X e t' := ⟨fun pins s σ H D I q => h.run pins s σ H D I (i D σ H q)⟩
end Dx
set_option Elab.async false
set_option linter.all false
set_option maxRecDepth 100000
set_option maxHeartbeats 4000000
namespace Dx
open PySem PySem.Spec PyProof.Rows L2
def eVar (i : Nat) : EE := fun env => match env[i]? with
  | some (some d) => .ok d
  | _ => .stuck
def eC (d : D) : EE := fun _ => .ok d
section
variable {X : Cx} {w : Wi} {R Ra Rb Rc : List Nat} {a b c e : Expr} {f f1 f2 f3 : EE} {pos : Pos}
theorem de_var (i : Nat) {x : Str} (hN : X.N[i]? = some x := by rfl) (hv : Vis X.env.scope x := by first | exact Or.inl rfl | exact Or.inr (Or.inl rfl) | exact Or.inr (Or.inr rfl)) (hd : (x == ("__debug__" : Str)) = false := by decide)
    (hcd : (x == ("__classdict__" : Str)) = false := by decide) : DE X w [i] (.Name x pos) (eVar i) :=
  PE.weak (pe_var hN hv hd hcd) fun σ H Q ⟨S, env, sub, ok, po⟩ => by
    unfold eVar at po
    split at po
    · rename_i d h
      obtain ⟨v, hv, dv⟩ := ok.get i (List.mem_singleton.mpr rfl) d h
      exact ⟨v, hv, po.okay dv⟩
    · exact po.elim
theorem const_of {v : V} {d : D} (h : PE X e (tC v)) (hd : ∀ H, Den X.K H v d) : DE X w [] e (eC d) := PE.weak h fun σ H Q ⟨S, env, sub, ok, po⟩ => Post.okay (Rel := Den X.K) po (hd _)
theorem de_int {i : Int} {j : Nat} : DE X w [] (.Constant (.int i) j pos) (eC (.int i)) := const_of pe_int fun _ => .int i
theorem de_bl {i : Bool} {j : Nat} : DE X w [] (.Constant (.bool i) j pos) (eC (.bl i)) := const_of pe_bl fun _ => .bl i
theorem de_non {j : Nat} : DE X w [] (.Constant .none j pos) (eC .non) := const_of pe_non fun _ => .non
theorem de_str {x : Str} {j : Nat} : DE X w [] (.Constant (.str x) j pos) (eC (.str x)) := const_of pe_str fun _ => .str x
theorem de_glob {x : Str} {v : V} {u : Value} {d : D} (hm : X.mg x = some u) (r : RelV v u) (hd : ∀ H, Den X.K H v d) (hg : Gl X x := by rfl) (hdb : (x == ("__debug__" : Str)) = false := by decide) : DE X w [] (.Name x pos) (eC d) := const_of (pe_glob hg hm r hdb) hd
def eBin (g : D → D → Res D) (f1 f2 : EE) : EE := fun env => (f1 env).bind fun x => (f2 env).bind fun y => g x y
def eUn (g : D → Res D) (f : EE) : EE := fun env => (f env).bind g
abbrev PostV (K : PySem.W.Frag) (w : Wi) (S : List Addr) (σ : L2.St) (H : Hp) (Q : VK) (r : Res D) : Prop := Post (Den K) w S σ H Q r
/-- an operator's rule by values gives its data -/
def Op2 (K : PySem.W.Frag) (w : Wi) (r : R2) (g : D → D → Res D) : Prop :=
  ∀ (S : List Addr) (σ : L2.St) (H : Hp) (x y : V) (a b : D) (Q : VK), Sub S H → Den K (hid S H) x a → Den K (hid S H) y b → PostV K w S σ H Q (g a b) → r x y H Q
def Op1 (K : PySem.W.Frag) (w : Wi) (r : V → Hp → VK → Prop) (g : D → Res D) : Prop :=
  ∀ (S : List Addr) (σ : L2.St) (H : Hp) (x : V) (a : D) (Q : VK), Sub S H → Den K (hid S H) x a → PostV K w S σ H Q (g a) → r x H Q
theorem bin_of {r : R2} {g : D → D → Res D} (hr : Op2 X.K w r g) {σ : L2.St} {H : Hp} {Q : VK} (h : tS (Den X.K) X.K w (Ra ++ Rb) (eBin g f1 f2) σ H Q) : tOp r (tS (Den X.K) X.K w Ra f1) (tS (Den X.K) X.K w Rb f2) σ H Q := by
  obtain ⟨S, env, sub, ok, po⟩ := h
  refine ⟨S, env, sub, ok.left, Post.bind (Rel2 := Den X.K) (k := fun x => (f2 env).bind fun y => g x y) po fun x _ v H1 e1 d1 po1 => ?_⟩
  refine ⟨S, env, sub.mono e1, ok.right.mono (hid_ex e1), Post.bind (Rel2 := Den X.K) (k := fun y => g x y) po1 fun y _ u H2 e2 d2 po2 => ?_⟩
  exact hr S σ H2 v u x y Q ((sub.mono e1).mono e2) (d1.mono (hid_ex e2)) d2 po2
theorem de_bin {op : Operator} {r : R2} {g : D → D → Res D} (ho : OpR X (binaryOp op) r) (hr : Op2 X.K w r g) (ha : DE X w Ra a f1) (hb : DE X w Rb b f2) : DE X w (Ra ++ Rb) (.BinOp a op b pos) (eBin g f1 f2) :=
  PE.weak (pe_op ho ha hb) fun _ _ _ h => bin_of hr h
theorem de_cmp {op : CmpOp} {r : R2} {g : D → D → Res D} (ho : OpR X (compareOp op) r) (hr : Op2 X.K w r g) (ha : DE X w Ra a f1) (hb : DE X w Rb b f2) (hm : behindInMarks op b = false) : DE X w (Ra ++ Rb) (.Compare a [op] [b] pos) (eBin g f1 f2) :=
  PE.weak (pe_cmpR ho ha hb hm) fun _ _ _ h => bin_of hr h
theorem de_un {op : UnaryOp} {r : V → Hp → VK → Prop} {g : D → Res D} (ho : UnR X (unaryOp op) r) (hr : Op1 X.K w r g) (ha : DE X w R a f) : DE X w R (.UnaryOp op a pos) (eUn g f) :=
  PE.weak (pe_un ho ha) fun σ H Q ⟨S, env, sub, ok, po⟩ => ⟨S, env, sub, ok, Post.bind (Rel2 := Den X.K) po fun x _ v H1 e1 d1 po1 => hr S σ H1 v x Q (sub.mono e1) d1 po1⟩
/-- how a value lies: what the data say -/
theorem den_int {K : PySem.W.Frag} {H : Hp} {v : V} {i : Int} (h : Den K H v (.int i)) : v = .int i := by cases h; rfl
theorem den_str {K : PySem.W.Frag} {H : Hp} {v : V} {i : Str} (h : Den K H v (.str i)) : v = .str i := by cases h; rfl
theorem den_bl {K : PySem.W.Frag} {H : Hp} {v : V} {i : Bool} (h : Den K H v (.bl i)) : v = .bl i := by cases h; rfl
theorem den_non {K : PySem.W.Frag} {H : Hp} {v : V} (h : Den K H v .non) : v = .non := by cases h; rfl
theorem den_lst {K : PySem.W.Frag} {H : Hp} {v : V} {ds : List D} (h : Den K H v (.lst ds)) : ∃ a xs, v = .ref a ∧ H a = some (.lst xs) ∧ DenL K H xs ds := by cases h with | lst h r => exact ⟨_, _, rfl, h, r⟩
theorem den_tup {K : PySem.W.Frag} {H : Hp} {v : V} {ds : List D} (h : Den K H v (.tup ds)) : ∃ a xs, v = .ref a ∧ SqT K H a xs ∧ DenL K H xs ds := by cases h with | tup h r => exact ⟨_, _, rfl, h, r⟩
theorem den_fz {K : PySem.W.Frag} {H : Hp} {v : V} {ds : List D} (h : Den K H v (.fz ds)) : ∃ a xs, v = .ref a ∧ SqL K H a xs ∧ DenL K H xs ds := by cases h with | fz h r => exact ⟨_, _, rfl, h, r⟩
theorem den_dct {K : PySem.W.Frag} {H : Hp} {v : V} {gs : List (Str × D)} (h : Den K H v (.dct gs)) : ∃ a fs, v = .ref a ∧ H a = some (.dK (fs.map fun p => (Sum.inr p.1, p.2))) ∧ DenF K H fs gs := by cases h with | dct h r => exact ⟨_, _, rfl, h, r⟩
theorem den_tnN {K : PySem.W.Frag} {H : Hp} {v : V} {ds : List D} (h : Den K H v (.tn ds)) : ∃ a o xs, v = .ref a ∧ H a = some (.frz o (.tup xs)) ∧ o.dict = none ∧ DenL K H xs ds := by cases h with | tn h hd r => exact ⟨_, _, _, rfl, h, hd, r⟩
theorem den_tn {K : PySem.W.Frag} {H : Hp} {v : V} {ds : List D} (h : Den K H v (.tn ds)) : ∃ a xs, v = .ref a ∧ SqT K H a xs ∧ DenL K H xs ds := by cases h with | tn h hd r => exact ⟨_, _, rfl, .inl (.inr ⟨_, h⟩), r⟩
theorem den_fn {K : PySem.W.Frag} {H : Hp} {v : V} {x : Str} (h : Den K H v (.fn x)) : v = .ref (He.ga K x) := by cases h; rfl
theorem den_obj {K : PySem.W.Frag} {H : Hp} {v : V} {C : Str} {gs : List (Str × D)} (h : Den K H v (.obj C gs)) : ∃ a dx fs, v = .ref a ∧ H a = some (.ins (He.ga K C) dx fs) ∧ DenF K H fs gs := by cases h with | obj h r => exact ⟨_, _, _, rfl, h, r⟩
end
/-- a list or tuple, small enough to be joined, copied -/
def lim {α : Type} (n : Nat) (r : Res α) : Res α := if n ≤ 100000 then r else .stuck
theorem lim_ok {α : Type} {n : Nat} {r : Res α} (h : n ≤ 100000) : lim n r = r := if_pos h
theorem Post.lim {α β : Type} {Rel : Hp → β → α → Prop} {w : Wi} {S : List Addr} {σ : L2.St} {H : Hp} {Q : β → Hp → Prop} {n : Nat} {r : Res α} (h : Post Rel w S σ H Q (lim n r)) : n ≤ sizeLine ∧ Post Rel w S σ H Q r := by
  unfold Dx.lim at h
  split at h
  · exact ⟨Evl.sz_of (by assumption), h⟩
  · exact h.elim
namespace D
def add : D → D → Res D
  | .int i, .int j => .ok (.int (i + j))
  | .str x, .str y => lim (x.length + y.length) (.ok (.str (x ++ y)))
  | .lst x, .lst y => lim (x.length + y.length) (.ok (.lst (x ++ y)))
  | .tup x, .tup y => lim (x.length + y.length) (if x = [] then .stuck else .ok (.tup (x ++ y)))
  | .tn x, .tup y => lim (x.length + y.length) (if x = [] then .stuck else .ok (.tup (x ++ y)))
  | _, _ => .stuck
def sub : D → D → Res D
  | .int i, .int j => .ok (.int (i - j))
  | _, _ => .stuck
/-- one factor below 2 ^ 64 -/
def fits (i : Int) : Bool := decide (-(2 ^ 64) < i) && decide (i < 2 ^ 64)
def mul : D → D → Res D
  | .int i, .int j => if fits i || fits j then .ok (.int (i * j)) else .stuck
  | _, _ => .stuck
def fdiv : D → D → Res D
  | .int i, .int j => if 0 < j ∧ j < 1073741824 then .ok (.int (i / j)) else .stuck
  | _, _ => .stuck
def mod : D → D → Res D
  | .int i, .int j => if 0 < j then .ok (.int (i % j)) else .stuck
  | _, _ => .stuck
def neg : D → Res D
  | .int i => .ok (.int (-i))
  | _ => .stuck
def lt : D → D → Res D
  | .int i, .int j => .ok (.bl (decide (i < j)))
  | .str i, .str j => .ok (.bl (decide (i.cps.toList < j.cps.toList)))
  | _, _ => .stuck
def le : D → D → Res D
  | .int i, .int j => .ok (.bl (decide (i ≤ j)))
  | .str i, .str j => .ok (.bl (!decide (j.cps.toList < i.cps.toList)))
  | _, _ => .stuck
def gt : D → D → Res D
  | .int i, .int j => .ok (.bl (decide (j < i)))
  | _, _ => .stuck
def ge : D → D → Res D
  | .int i, .int j => .ok (.bl (decide (j ≤ i)))
  | _, _ => .stuck
def flat : D → Bool
  | .non => true
  | .bl _ => true
  | .int _ => true
  | .str _ => true
  | _ => false
/-- == of flat data -/
def eqF : D → D → Bool
  | .non, .non => true
  | .bl a, .bl b => a == b
  | .bl a, .int b => (if a then 1 else 0) == b
  | .int a, .bl b => a == (if b then 1 else 0)
  | .int a, .int b => a == b
  | .str a, .str b => a == b
  | _, _ => false
def isIn (x : D) (ds : List D) : Res Bool := if flat x && ds.all flat then .ok (ds.any fun y => eqF y x) else .stuck
def mem : D → D → Res Bool
  | x, .lst ds => isIn x ds
  | x, .tup ds => isIn x ds
  | x, .fz ds => isIn x ds
  | .str x, .str z => .ok (!(Builtin.Str.occurrences z x 0 z.length 1).isEmpty)
  | _, _ => .stuck
def inn (a b : D) : Res D := (mem a b).map .bl
def nin (a b : D) : Res D := (mem a b).map fun k => .bl (!k)
mutual
/-- without objects, n levels deep at most -/
def okd : Nat → D → Bool
  | _, .non => true
  | _, .bl _ => true
  | _, .int _ => true
  | _, .str x => x.cps.all (· < 0x110000)
  | n + 1, .lst xs => okdA n xs
  | n + 1, .tup xs => okdA n xs
  | n + 1, .tn xs => okdA n xs
  | n + 1, .fz xs => okdA n xs
  | _, _ => false
def okdA : Nat → List D → Bool
  | _, [] => true
  | n, x :: xs => okd n x && okdA n xs
end
mutual
def py : D → PyData
  | .non => .none
  | .bl b => .bool b
  | .int i => .int i
  | .str x => .str x
  | .lst xs => .list (pyA xs)
  | .tup xs => .tuple (pyA xs)
  | .tn xs => .tuple (pyA xs)
  | .fz xs => .list (pyA xs)
  | _ => .none
def pyA : List D → List PyData
  | [] => []
  | x :: xs => py x :: pyA xs
end
/-- == of data -/
def eqv (a b : D) : Bool := PyData.eqv a.py b.py
/-- texts alone, or data of any form -/
def okq (a b : D) : Bool := (match a, b with | .str _, .str _ => true | _, _ => false) || (okd 8 a && okd 8 b)
def eq (a b : D) : Res D := if okq a b then .ok (.bl (eqv a b)) else .stuck
def ne (a b : D) : Res D := if okq a b then .ok (.bl (!eqv a b)) else .stuck
end D
open D (okd okdA py pyA)
mutual
theorem okd_lay : ∀ (n : Nat) (d : D), okd n d = true → (py d).canLay0 = true ∧ (py d).depth ≤ n
  | _, .non, _ => ⟨rfl, Nat.zero_le _⟩
  | _, .bl _, _ => ⟨rfl, Nat.zero_le _⟩
  | _, .int _, _ => ⟨rfl, Nat.zero_le _⟩
  | _, .str x, h => ⟨by simpa [okd, py, PyData.canLay0, PyData.strOk] using h, Nat.zero_le _⟩
  | n + 1, .lst xs, h => by
    obtain ⟨a, b⟩ := okdA_lay n xs (by simpa [okd] using h)
    exact ⟨by simpa [py, PyData.canLay0] using a, by simpa [py, PyData.depth] using Nat.succ_le_succ b⟩
  | n + 1, .tup xs, h => by
    obtain ⟨a, b⟩ := okdA_lay n xs (by simpa [okd] using h)
    exact ⟨by simpa [py, PyData.canLay0] using a, by simpa [py, PyData.depth] using Nat.succ_le_succ b⟩
  | n + 1, .tn xs, h => by
    obtain ⟨a, b⟩ := okdA_lay n xs (by simpa [okd] using h)
    exact ⟨by simpa [py, PyData.canLay0] using a, by simpa [py, PyData.depth] using Nat.succ_le_succ b⟩
  | n + 1, .fz xs, h => by
    obtain ⟨a, b⟩ := okdA_lay n xs (by simpa [okd] using h)
    exact ⟨by simpa [py, PyData.canLay0] using a, by simpa [py, PyData.depth] using Nat.succ_le_succ b⟩
  | 0, .lst _, h => by simp [okd] at h
  | 0, .tup _, h => by simp [okd] at h
  | 0, .tn _, h => by simp [okd] at h
  | 0, .fz _, h => by simp [okd] at h
  | 0, .obj _ _, h => by simp [okd] at h
  | 0, .raw _, h => by simp [okd] at h
  | _ + 1, .obj _ _, h => by simp [okd] at h
  | _ + 1, .raw _, h => by simp [okd] at h
theorem okdA_lay : ∀ (n : Nat) (ds : List D), okdA n ds = true → PyData.canLayAll0 (pyA ds) = true ∧ PyData.depthAll (pyA ds) ≤ n
  | _, [], _ => ⟨rfl, Nat.zero_le _⟩
  | n, d :: ds, h => by
    rw [okdA, Bool.and_eq_true] at h
    obtain ⟨a1, b1⟩ := okd_lay n d h.1
    obtain ⟨a2, b2⟩ := okdA_lay n ds h.2
    exact ⟨by simp [pyA, PyData.canLayAll0, a1, a2], by simpa [pyA, PyData.depthAll] using Nat.max_le.mpr ⟨b1, b2⟩⟩
end
theorem okd_shaped {d : D} (h : okd 8 d = true) : SeqAt.shaped (py d) = true := by
  obtain ⟨a, b⟩ := okd_lay 8 d h
  unfold SeqAt.shaped
  rw [a, Bool.true_and]
  exact decide_eq_true (by omega)
section
variable {K : PySem.W.Frag} {H : Hp}
mutual
theorem Den.dp : ∀ {n : Nat} {v : V} {d : D}, Den K H v d → okd n d = true → Dp K H v (py d)
  | _, _, _, .non, _ => .non
  | _, _, _, .bl b, _ => .bl b
  | _, _, _, .int i, _ => .int i
  | _, _, _, .str x, _ => .str x
  | n + 1, _, _, .lst h r, o => .lst (.of h) (DenL.dp (n := n) r (by simpa [okd] using o))
  | n + 1, _, _, .tup h r, o => .tup h (DenL.dp (n := n) r (by simpa [okd] using o))
  | n + 1, _, _, .tn h hd r, o => .tup (.inl (.inr ⟨_, h⟩)) (DenL.dp (n := n) r (by simpa [okd] using o))
  | n + 1, _, _, .fz h r, o => .lst h (DenL.dp (n := n) r (by simpa [okd] using o))
  | 0, _, _, .lst h r, o => by simp [okd] at o
  | 0, _, _, .tup h r, o => by simp [okd] at o
  | 0, _, _, .tn h hd r, o => by simp [okd] at o
  | 0, _, _, .fz h r, o => by simp [okd] at o
  | n, _, _, .obj h r, o => by cases n <;> simp [okd] at o
  | n, _, _, .raw v, o => by cases n <;> simp [okd] at o
theorem DenL.dp : ∀ {n : Nat} {vs : List V} {ds : List D}, DenL K H vs ds → okdA n ds = true → DpAll K H vs (pyA ds)
  | _, _, _, .nil, _ => .nil
  | n, _, _, .cons h r, o => by
    rw [okdA, Bool.and_eq_true] at o
    exact .cons (Den.dp h o.1) (DenL.dp r o.2)
end
end
end Dx
set_option Elab.async false
set_option linter.all false
set_option maxRecDepth 100000
set_option maxHeartbeats 4000000
namespace Dx
open PySem PySem.Spec PyProof.Rows L2
open D (okd okdA py pyA)
section
variable {X : Cx} {w : Wi} {K : PySem.W.Frag}
def rAdd4 (K : PySem.W.Frag) : R2 := fun x y H Q => rI0 (fun i j => .int (i + j)) x y H Q ∨ (∃ i j, x = .str i ∧ y = .str j ∧ i.length + j.length ≤ sizeLine ∧ Q (.str (i ++ j)) H) ∨ rCat x y H Q ∨ rCatT K x y H Q
theorem opr_add : OpR X (binaryOp .Add) (rAdd4 X.K) := op_add.or (op_add_str.or (op_cat.or op_catT))
theorem op2_add : Op2 K w (rAdd4 K) D.add := fun S σ H x y a b Q sub da db po => by
  cases a <;> cases b <;> first | exact po.elim | skip
  · exact .inl ⟨_, _, den_int da, den_int db, Post.okay (Rel := Den K) po (.int _)⟩
  · obtain ⟨h, po⟩ := Post.lim po
    exact .inr (.inl ⟨_, _, den_str da, den_str db, h, Post.okay (Rel := Den K) po (.str _)⟩)
  · obtain ⟨h, po⟩ := Post.lim po
    obtain ⟨p, xs, rfl, hp, rp⟩ := den_lst da
    obtain ⟨q, ys, rfl, hq, rq⟩ := den_lst db
    refine .inr (.inr (.inl ⟨p, q, xs, ys, rfl, rfl, (hid_out hp).2, (hid_out hq).2, by rw [rp.len, rq.len]; exact h, fun l hl => ?_⟩))
    have e : Ex H (upd H l (.lst (xs ++ ys))) := Ex.new hl
    exact po _ _ e (.lst (hid_at (sub.new hl) upd_same) ((rp.append rq).mono (hid_ex e)))
  · obtain ⟨h, po⟩ := Post.lim po
    obtain ⟨p, xs, rfl, hp, rp⟩ := den_tup da
    obtain ⟨q, ys, rfl, hq, rq⟩ := den_tup db
    split at po
    · exact po.elim
    · rename_i ne
      refine .inr (.inr (.inr ⟨p, q, xs, ys, rfl, rfl, ex_t hid_le hp, ex_t hid_le hq, fun z => ?_, by rw [rp.len, rq.len]; exact h, fun z => ?_, fun _ l hl => ?_⟩))
      · subst z
        cases rp
        exact ne rfl
      · subst z
        cases rq
        rw [List.append_nil] at po
        exact Post.okay (Rel := Den K) po (.tup hp rp)
      · have e : Ex H (upd H l (.tup (xs ++ ys))) := Ex.new hl
        exact po _ _ e (.tup (.of (hid_at (sub.new hl) upd_same)) ((rp.append rq).mono (hid_ex e)))
  · obtain ⟨h, po⟩ := Post.lim po
    obtain ⟨p, xs, rfl, hp, rp⟩ := den_tn da
    obtain ⟨q, ys, rfl, hq, rq⟩ := den_tup db
    split at po
    · exact po.elim
    · rename_i ne
      refine .inr (.inr (.inr ⟨p, q, xs, ys, rfl, rfl, ex_t hid_le hp, ex_t hid_le hq, fun z => ?_, by rw [rp.len, rq.len]; exact h, fun z => ?_, fun _ l hl => ?_⟩))
      · subst z
        cases rp
        exact ne rfl
      · subst z
        cases rq
        rw [List.append_nil] at po
        exact Post.okay (Rel := Den K) po (.tup hp rp)
      · have e : Ex H (upd H l (.tup (xs ++ ys))) := Ex.new hl
        exact po _ _ e (.tup (.of (hid_at (sub.new hl) upd_same)) ((rp.append rq).mono (hid_ex e)))
theorem op2_sub : Op2 K w (rI0 fun i j => .int (i - j)) D.sub := fun S σ H x y a b Q sub da db po => by
  cases a <;> cases b <;> first | exact po.elim | exact ⟨_, _, den_int da, den_int db, Post.okay (Rel := Den K) po (.int _)⟩
theorem fits_ok {i : Int} (h : D.fits i = true) : -(2 ^ 64) < i ∧ i < 2 ^ 64 := by
  unfold D.fits at h
  rw [Bool.and_eq_true] at h
  exact ⟨of_decide_eq_true h.1, of_decide_eq_true h.2⟩
theorem op2_mul : Op2 K w (rI CMul fun i j => .int (i * j)) D.mul := fun S σ H x y a b Q sub da db po => by
  cases a <;> cases b <;> first | exact po.elim | skip
  rename_i i j
  unfold D.mul at po
  by_cases c : (D.fits i || D.fits j) = true
  · simp only [c, if_true] at po
    refine ⟨_, _, den_int da, den_int db, ?_, Post.okay (Rel := Den K) po (.int _)⟩
    rw [Bool.or_eq_true] at c
    exact c.imp fits_ok fits_ok
  · simp only [c] at po
    exact po.elim
theorem op2_fdiv : Op2 K w (rI CDiv fun i j => .int (i / j)) D.fdiv := fun S σ H x y a b Q sub da db po => by
  cases a <;> cases b <;> first | exact po.elim | skip
  unfold D.fdiv at po
  dsimp only at po
  split at po
  · rename_i c
    exact ⟨_, _, den_int da, den_int db, c, Post.okay (Rel := Den K) po (.int _)⟩
  · exact po.elim
theorem op2_mod : Op2 K w (rI (fun _ j => 0 < j) fun i j => .int (i % j)) D.mod := fun S σ H x y a b Q sub da db po => by
  cases a <;> cases b <;> first | exact po.elim | skip
  unfold D.mod at po
  dsimp only at po
  split at po
  · rename_i c
    exact ⟨_, _, den_int da, den_int db, c, Post.okay (Rel := Den K) po (.int _)⟩
  · exact po.elim
theorem op1_neg : Op1 K w (rU fun i => .int (-i)) D.neg := fun S σ H x a Q sub da po => by
  cases a <;> first | exact po.elim | exact ⟨_, den_int da, Post.okay (Rel := Den K) po (.int _)⟩
def rLt2 : R2 := fun x y H Q => rI0 (fun i j => .bl (decide (i < j))) x y H Q ∨ ∃ i j, x = .str i ∧ y = .str j ∧ Q (.bl (decide (i.cps.toList < j.cps.toList))) H
theorem opr_lt : OpR X (compareOp .Lt) rLt2 := op_lt.or op_lt_str
theorem op2_lt : Op2 K w rLt2 D.lt := fun S σ H x y a b Q sub da db po => by
  cases a <;> cases b <;> first | exact po.elim | exact .inl ⟨_, _, den_int da, den_int db, Post.okay (Rel := Den K) po (.bl _)⟩ | exact .inr ⟨_, _, den_str da, den_str db, Post.okay (Rel := Den K) po (.bl _)⟩
def rLe2 : R2 := fun x y H Q => rI0 (fun i j => .bl (decide (i ≤ j))) x y H Q ∨ ∃ i j, x = .str i ∧ y = .str j ∧ Q (.bl (!decide (j.cps.toList < i.cps.toList))) H
theorem opr_le : OpR X (compareOp .LtE) rLe2 := op_le.or op_le_str
theorem op2_le : Op2 K w rLe2 D.le := fun S σ H x y a b Q sub da db po => by
  cases a <;> cases b <;> first | exact po.elim | exact .inl ⟨_, _, den_int da, den_int db, Post.okay (Rel := Den K) po (.bl _)⟩ | exact .inr ⟨_, _, den_str da, den_str db, Post.okay (Rel := Den K) po (.bl _)⟩
theorem op2_gt : Op2 K w (rI0 fun i j => .bl (decide (j < i))) D.gt := fun S σ H x y a b Q sub da db po => by
  cases a <;> cases b <;> first | exact po.elim | exact ⟨_, _, den_int da, den_int db, Post.okay (Rel := Den K) po (.bl _)⟩
theorem flat_den {H : Hp} {v : V} {d : D} (h : Den K H v d) (f : D.flat d = true) : flatV v = true := by
  cases h <;> first | rfl | exact absurd f Bool.false_ne_true
theorem eqF_den {H : Hp} {v u : V} {d c : D} (h : Den K H v d) (f : D.flat d = true) (h' : Den K H u c) (f' : D.flat c = true) : eqV v u = D.eqF d c := by
  cases h <;> first | exact absurd f Bool.false_ne_true | (cases h' <;> first | exact absurd f' Bool.false_ne_true | rfl)
theorem flats_den {H : Hp} : ∀ {vs : List V} {ds : List D}, DenL K H vs ds → ds.all D.flat = true → vs.all flatV = true
  | _, _, .nil, _ => rfl
  | _, _, .cons h r, f => by
    rw [List.all_cons, Bool.and_eq_true] at f ⊢
    exact ⟨flat_den h f.1, flats_den r f.2⟩
theorem inV_den {H : Hp} {x : V} {a : D} (h : Den K H x a) (f : D.flat a = true) : ∀ {vs : List V} {ds : List D}, DenL K H vs ds → ds.all D.flat = true → inV x vs = ds.any fun y => D.eqF y a
  | _, _, .nil, _ => rfl
  | _, _, .cons h' r, g => by
    rw [List.all_cons, Bool.and_eq_true] at g
    show (eqV _ x || inV x _) = _
    rw [List.any_cons, eqF_den h' g.1 h f, inV_den h f r g.2]
def rIn2 (K : PySem.W.Frag) : R2 := fun x y H Q => rIn K false x y H Q ∨ ∃ i j, x = .str i ∧ y = .str j ∧ Q (.bl (!(Builtin.Str.occurrences j i 0 j.length 1).isEmpty)) H
def rNin2 (K : PySem.W.Frag) : R2 := fun x y H Q => rIn K true x y H Q ∨ ∃ i j, x = .str i ∧ y = .str j ∧ Q (.bl (!(!(Builtin.Str.occurrences j i 0 j.length 1).isEmpty))) H
theorem opr_in : OpR X (compareOp .In) (rIn2 X.K) := op_in_seq.or op_in_str
theorem opr_nin : OpR X (compareOp .NotIn) (rNin2 X.K) := op_notIn_seq.or op_notin_str
theorem seq_of {S : List Addr} {H : Hp} {y : V} {b : D} {ds : List D} (h : b = .lst ds ∨ b = .tup ds ∨ b = .fz ds) (db : Den K (hid S H) y b) : ∃ p xs, y = .ref p ∧ (SqL K H p xs ∨ SqT K H p xs) ∧ DenL K (hid S H) xs ds := by
  rcases h with rfl | rfl | rfl
  · obtain ⟨p, xs, rfl, hp, rp⟩ := den_lst db
    exact ⟨p, xs, rfl, .inl (.of (hid_out hp).2), rp⟩
  · obtain ⟨p, xs, rfl, hp, rp⟩ := den_tup db
    exact ⟨p, xs, rfl, .inr (ex_t hid_le hp), rp⟩
  · obtain ⟨p, xs, rfl, hp, rp⟩ := den_fz db
    exact ⟨p, xs, rfl, .inl (ex_l hid_le hp), rp⟩
theorem isIn_den {S : List Addr} {σ : L2.St} {H : Hp} {x y : V} {a b : D} {ds : List D} {Q : VK} {k : Bool → D} (h : b = .lst ds ∨ b = .tup ds ∨ b = .fz ds) (da : Den K (hid S H) x a) (db : Den K (hid S H) y b) (po : PostV K w S σ H Q ((D.isIn a ds).map k)) :
    ∃ p xs, y = .ref p ∧ (SqL K H p xs ∨ SqT K H p xs) ∧ flatV x = true ∧ xs.all flatV = true ∧ PostV K w S σ H Q (.ok (k (inV x xs))) := by
  obtain ⟨p, xs, rfl, hp, rp⟩ := seq_of h db
  unfold D.isIn at po
  by_cases c : (D.flat a && ds.all D.flat) = true
  · rw [if_pos c] at po
    rw [Bool.and_eq_true] at c
    exact ⟨p, xs, rfl, hp, flat_den da c.1, flats_den rp c.2, by rw [inV_den da c.1 rp c.2]; exact po⟩
  · rw [if_neg c] at po
    exact po.elim
theorem op2_in : Op2 K w (rIn2 K) D.inn := fun S σ H x y a b Q sub da db po => by
  have seq : ∀ ds, (b = .lst ds ∨ b = .tup ds ∨ b = .fz ds) → PostV K w S σ H Q ((D.isIn a ds).map .bl) → rIn2 K x y H Q := fun ds h po => by
    obtain ⟨p, xs, e, hp, f1, f2, po⟩ := isIn_den h da db po
    exact .inl ⟨p, xs, e, hp, f1, f2, Post.okay (Rel := Den K) po (.bl _)⟩
  cases b with
  | lst ds => exact seq ds (.inl rfl) (by cases a <;> exact po)
  | tup ds => exact seq ds (.inr (.inl rfl)) (by cases a <;> exact po)
  | fz ds => exact seq ds (.inr (.inr rfl)) (by cases a <;> exact po)
  | str z =>
    cases a <;> first | exact po.elim | skip
    exact .inr ⟨_, _, den_str da, den_str db, Post.okay (Rel := Den K) po (.bl _)⟩
  | _ => cases a <;> exact po.elim
theorem op2_nin : Op2 K w (rNin2 K) D.nin := fun S σ H x y a b Q sub da db po => by
  have seq : ∀ ds, (b = .lst ds ∨ b = .tup ds ∨ b = .fz ds) → PostV K w S σ H Q ((D.isIn a ds).map fun k => .bl (!k)) → rNin2 K x y H Q := fun ds h po => by
    obtain ⟨p, xs, e, hp, f1, f2, po⟩ := isIn_den h da db po
    exact .inl ⟨p, xs, e, hp, f1, f2, Post.okay (Rel := Den K) po (.bl _)⟩
  cases b with
  | lst ds => exact seq ds (.inl rfl) (by cases a <;> exact po)
  | tup ds => exact seq ds (.inr (.inl rfl)) (by cases a <;> exact po)
  | fz ds => exact seq ds (.inr (.inr rfl)) (by cases a <;> exact po)
  | str z =>
    cases a <;> first | exact po.elim | skip
    exact .inr ⟨_, _, den_str da, den_str db, Post.okay (Rel := Den K) po (.bl _)⟩
  | _ => cases a <;> exact po.elim
def rEq2 (K : PySem.W.Frag) : R2 := fun x y H Q => rEq x y H Q ∨ rEqD K x y H Q
def rNe2 (K : PySem.W.Frag) : R2 := fun x y H Q => rNe x y H Q ∨ rNeD K x y H Q
theorem opr_eq (hu : X.A.units + 64 < cLine) : OpR X (compareOp .Eq) (rEq2 X.K) := op_eq.or (op_eqD hu)
theorem opr_ne (hu : X.A.units + 64 < cLine) : OpR X (compareOp .NotEq) (rNe2 X.K) := op_ne.or (op_neD hu)
theorem okq_cases {a b : D} (h : D.okq a b = true) : (∃ x y, a = .str x ∧ b = .str y) ∨ (okd 8 a = true ∧ okd 8 b = true) := by
  unfold D.okq at h
  rw [Bool.or_eq_true, Bool.and_eq_true] at h
  rcases h with h | h
  · split at h
    · exact .inl ⟨_, _, rfl, rfl⟩
    · cases h
  · exact .inr h
theorem eqv_str (x y : Str) : D.eqv (.str x) (.str y) = (x == y) := by simp [D.eqv, D.py, PyData.eqv]
theorem op2_eq : Op2 K w (rEq2 K) D.eq := fun S σ H x y a b Q sub da db po => by
  unfold D.eq at po
  by_cases c : D.okq a b = true
  · rw [if_pos c] at po
    have q := Post.okay (Rel := Den K) po (.bl _)
    rcases okq_cases c with ⟨i, j, rfl, rfl⟩ | ⟨h1, h2⟩
    · refine .inl ?_
      rw [den_str da, den_str db]
      refine ⟨rfl, ?_⟩
      rw [dec_str, ← eqv_str]
      exact q
    · exact .inr ⟨_, _, Den.dp (da.mono hid_le) h1, Den.dp (db.mono hid_le) h2, okd_shaped h1, okd_shaped h2, q⟩
  · rw [if_neg c] at po
    exact po.elim
theorem op2_ne : Op2 K w (rNe2 K) D.ne := fun S σ H x y a b Q sub da db po => by
  unfold D.ne at po
  by_cases c : D.okq a b = true
  · rw [if_pos c] at po
    have q := Post.okay (Rel := Den K) po (.bl _)
    rcases okq_cases c with ⟨i, j, rfl, rfl⟩ | ⟨h1, h2⟩
    · refine .inl ?_
      rw [den_str da, den_str db]
      refine ⟨rfl, ?_⟩
      rw [dec_str, ← eqv_str]
      exact q
    · exact .inr ⟨_, _, Den.dp (da.mono hid_le) h1, Den.dp (db.mono hid_le) h2, okd_shaped h1, okd_shaped h2, q⟩
  · rw [if_neg c] at po
    exact po.elim
end
section
variable {X : Cx} {w : Wi} {Ra Rb : List Nat} {a b : Expr} {f f1 f2 : EE} {pos : Pos} {k : Nat}
theorem de_add (ha : DE X w Ra a f1) (hb : DE X w Rb b f2) : DE X w (Ra ++ Rb) (.BinOp a .Add b pos) (eBin D.add f1 f2) := de_bin opr_add op2_add ha hb
theorem de_sub (ha : DE X w Ra a f1) (hb : DE X w Rb b f2) : DE X w (Ra ++ Rb) (.BinOp a .Sub b pos) (eBin D.sub f1 f2) := de_bin op_sub op2_sub ha hb
theorem de_mul (ha : DE X w Ra a f1) (hb : DE X w Rb b f2) : DE X w (Ra ++ Rb) (.BinOp a .Mult b pos) (eBin D.mul f1 f2) := de_bin op_mul op2_mul ha hb
theorem de_fdiv (ha : DE X w Ra a f1) (hb : DE X w Rb b f2) : DE X w (Ra ++ Rb) (.BinOp a .FloorDiv b pos) (eBin D.fdiv f1 f2) := de_bin op_fdiv op2_fdiv ha hb
theorem de_mod (ha : DE X w Ra a f1) (hb : DE X w Rb b f2) : DE X w (Ra ++ Rb) (.BinOp a .Mod b pos) (eBin D.mod f1 f2) := de_bin op_mod op2_mod ha hb
theorem de_neg (ha : DE X w Ra a f) : DE X w Ra (.UnaryOp .USub a pos) (eUn D.neg f) := de_un un_neg op1_neg ha
theorem de_le (ha : DE X w Ra a f1) (hb : DE X w Rb b f2) : DE X w (Ra ++ Rb) (.Compare a [.LtE] [b] pos) (eBin D.le f1 f2) := de_cmp opr_le op2_le ha hb (nomark _)
theorem de_eq (hr : Room k X.A) (ha : DE X w Ra a f1) (hb : DE X w Rb b f2) : DE X w (Ra ++ Rb) (.Compare a [.Eq] [b] pos) (eBin D.eq f1 f2) := de_cmp (opr_eq hr.units) op2_eq ha hb (nomark _)
theorem de_ne (hr : Room k X.A) (ha : DE X w Ra a f1) (hb : DE X w Rb b f2) : DE X w (Ra ++ Rb) (.Compare a [.NotEq] [b] pos) (eBin D.ne f1 f2) := de_cmp (opr_ne hr.units) op2_ne ha hb (nomark _)
end
end Dx
set_option Elab.async false
set_option linter.all false
set_option maxRecDepth 100000
set_option maxHeartbeats 4000000
namespace Dx
open PySem PySem.Spec PyProof.Rows L2
open D (okd okdA py pyA)
namespace D
def isBl : D → Res Bool
  | .bl b => .ok b
  | _ => .stuck
def truth : D → Res Bool
  | .non => .ok false
  | .bl b => .ok b
  | .int i => .ok (i != 0)
  | .str y => lim y.length (.ok ((y.length : Int) != 0))
  | .lst xs => .ok (!xs.isEmpty)
  | .tup xs => .ok (!xs.isEmpty)
  | .fz xs => .ok (!xs.isEmpty)
  | _ => .stuck
def nt : D → Res D
  | .bl b => .ok (.bl (!b))
  | _ => .stuck
end D
def eTest (f : EE) : EB := fun env => (f env).bind D.isBl
def eTruth (f : EE) : EB := fun env => (f env).bind D.truth
def eNotB (f : EB) : EB := fun env => (f env).map (!·)
def eAndB (f g : EB) : EB := fun env => (f env).bind fun b => if b = true then g env else .ok false
def eOrB (f g : EB) : EB := fun env => (f env).bind fun b => if b = true then .ok true else g env
def eAndV (f g : EE) : EE := fun env => (f env).bind fun d => (D.isBl d).bind fun b => if b = true then g env else .ok (.bl false)
def eOrV (f g : EE) : EE := fun env => (f env).bind fun d => (D.isBl d).bind fun b => if b = true then .ok (.bl true) else g env
def eIf (t : EB) (f g : EE) : EE := fun env => (t env).bind fun b => if b = true then f env else g env
def eChain (g g' : D → D → Res D) (f1 f2 f3 : EE) : EE := fun env => (f1 env).bind fun x => (f2 env).bind fun y => (g x y).bind fun z => (D.isBl z).bind fun b => if b = true then (f3 env).bind fun u => g' y u else .ok (.bl false)
section
variable {X : Cx} {w : Wi} {R Ra Rb Rc : List Nat} {a b c e : Expr} {rest : List Expr} {f f1 f2 f3 : EE} {t t1 t2 : EB} {pos : Pos} {k : Nat}
theorem isBl_ok {d : D} {γ δ : Type} {Rel : Hp → δ → γ → Prop} {w : Wi} {S : List Addr} {σ : L2.St} {H : Hp} {Q : δ → Hp → Prop} {k : Bool → Res γ} (po : Post Rel w S σ H Q ((D.isBl d).bind k)) : ∃ b, d = .bl b ∧ Post Rel w S σ H Q (k b) := by
  cases d <;> first | exact po.elim | exact ⟨_, rfl, po⟩
theorem dt_cmp {op : CmpOp} {r : R2} {g : D → D → Res D} (ho : OpR X (compareOp op) r) (hr : Op2 X.K w r g) (ha : DE X w Ra a f1) (hb : DE X w Rb b f2) (hm : behindInMarks op b = false) : DT X w (Ra ++ Rb) (.Compare a [op] [b] pos) (eTest (eBin g f1 f2)) :=
  PT.weak (pt_cmpR ho ha hb hm) fun σ H Q ⟨S, env, sub, ok, po⟩ => by
    refine bin_of hr ⟨S, env, sub, ok, Post.bind (Rel2 := isB) (k := D.isBl) po fun d _ v H1 e1 dv po1 => ?_⟩
    cases d <;> first | exact po1.elim | exact ⟨_, den_bl dv, Post.okay (Rel := isB) po1 rfl⟩
theorem dt_lt (ha : DE X w Ra a f1) (hb : DE X w Rb b f2) : DT X w (Ra ++ Rb) (.Compare a [.Lt] [b] pos) (eTest (eBin D.lt f1 f2)) := dt_cmp opr_lt op2_lt ha hb (nomark _)
theorem dt_gt (ha : DE X w Ra a f1) (hb : DE X w Rb b f2) : DT X w (Ra ++ Rb) (.Compare a [.Gt] [b] pos) (eTest (eBin D.gt f1 f2)) := dt_cmp op_gt op2_gt ha hb (nomark _)
theorem dt_in (ha : DE X w Ra a f1) (hb : DE X w Rb b f2) (hm : behindInMarks .In b = false := by rfl) : DT X w (Ra ++ Rb) (.Compare a [.In] [b] pos) (eTest (eBin D.inn f1 f2)) := dt_cmp opr_in op2_in ha hb hm
theorem dt_nin (ha : DE X w Ra a f1) (hb : DE X w Rb b f2) (hm : behindInMarks .NotIn b = false := by rfl) : DT X w (Ra ++ Rb) (.Compare a [.NotIn] [b] pos) (eTest (eBin D.nin f1 f2)) := dt_cmp opr_nin op2_nin ha hb hm
theorem dt_eq (hr : Room k X.A) (ha : DE X w Ra a f1) (hb : DE X w Rb b f2) : DT X w (Ra ++ Rb) (.Compare a [.Eq] [b] pos) (eTest (eBin D.eq f1 f2)) := dt_cmp (opr_eq hr.units) op2_eq ha hb (nomark _)
theorem dt_ne (hr : Room k X.A) (ha : DE X w Ra a f1) (hb : DE X w Rb b f2) : DT X w (Ra ++ Rb) (.Compare a [.NotEq] [b] pos) (eTest (eBin D.ne f1 f2)) := dt_cmp (opr_ne hr.units) op2_ne ha hb (nomark _)
/-- two comparisons in a row -/
theorem chain_of {r r' : R2} {g g' : D → D → Res D} (hr : Op2 X.K w r g) (hr' : Op2 X.K w r' g') {σ : L2.St} {H : Hp} {Q : VK} (h : tS (Den X.K) X.K w (Ra ++ (Rb ++ Rc)) (eChain g g' f1 f2 f3) σ H Q) :
    tChain r r' (tS (Den X.K) X.K w Ra f1) (tS (Den X.K) X.K w Rb f2) (tS (Den X.K) X.K w Rc f3) σ H Q := by
  obtain ⟨S, env, sub, ok, po⟩ := h
  unfold eChain at po
  refine ⟨S, env, sub, ok.left, Post.bind (Rel2 := Den X.K) po fun x _ v H1 e1 d1 po1 => ?_⟩
  refine ⟨S, env, sub.mono e1, ok.right.left.mono (hid_ex e1), Post.bind (Rel2 := Den X.K) po1 fun y _ u H2 e2 d2 po2 => ?_⟩
  have e12 := e1.trans e2
  refine hr S σ H2 v u x y _ ((sub.mono e1).mono e2) (d1.mono (hid_ex e2)) d2 (Post.bind (Rel2 := Den X.K) po2 fun z _ z' H3 e3 d3 po3 => ?_)
  obtain ⟨k, rfl, po3⟩ := isBl_ok po3
  refine ⟨k, den_bl d3, ?_⟩
  cases k with
  | false =>
    show Q (.bl false) H3
    exact Post.okay (Rel := Den X.K) po3 (.bl _)
  | true =>
    show tS (Den X.K) X.K w Rc f3 σ H3 _
    exact ⟨S, env, sub.mono (e12.trans e3), ok.right.right.mono (hid_ex (e12.trans e3)), Post.bind (Rel2 := Den X.K) po3 fun u' _ w' H4 e4 d4 po4 => hr' S σ H4 u w' y u' Q (sub.mono ((e12.trans e3).trans e4)) ((d2.mono (hid_ex e3)).mono (hid_ex e4)) d4 po4⟩
theorem de_chain {op op' : CmpOp} {r r' : R2} {g g' : D → D → Res D} (ho : OpR X (compareOp op) r) (ho' : OpR X (compareOp op') r') (hr : Op2 X.K w r g) (hr' : Op2 X.K w r' g') (ha : DE X w Ra a f1) (hb : DE X w Rb b f2) (hc : DE X w Rc c f3)
    (hm : lastMarks [op, op'] [b, c] = false := by with_unfolding_all rfl) : DE X w (Ra ++ (Rb ++ Rc)) (.Compare a [op, op'] [b, c] pos) (eChain g g' f1 f2 f3) :=
  PE.weak (pe_chain ho ho' ha hb hc hm) fun _ _ _ h => chain_of hr hr' h
theorem dt_chain {op op' : CmpOp} {r r' : R2} {g g' : D → D → Res D} (ho : OpR X (compareOp op) r) (ho' : OpR X (compareOp op') r') (hr : Op2 X.K w r g) (hr' : Op2 X.K w r' g') (ha : DE X w Ra a f1) (hb : DE X w Rb b f2) (hc : DE X w Rc c f3)
    (hm : lastMarks [op, op'] [b, c] = false := by with_unfolding_all rfl) : DT X w (Ra ++ (Rb ++ Rc)) (.Compare a [op, op'] [b, c] pos) (eTest (eChain g g' f1 f2 f3)) :=
  PT.weak (pt_chain ho ho' ha hb hc hm) fun σ H Q ⟨S, env, sub, ok, po⟩ => by
    refine chain_of hr hr' ⟨S, env, sub, ok, Post.bind (Rel2 := isB) (k := D.isBl) po fun d _ v H1 e1 dv po1 => ?_⟩
    cases d <;> first | exact po1.elim | exact ⟨_, den_bl dv, Post.okay (Rel := isB) po1 rfl⟩
theorem dt_truth (ha : DE X w R a f) (he : ∀ whole, isTrue a X.env whole = (do let v ← whole; standAt a.pos; holding [v] (truthy v)) := by intro _; rfl) : DT X w R a (eTruth f) :=
  PT.weak (pt_truth ha he) fun σ H Q ⟨S, env, sub, ok, po⟩ => by
    refine ⟨S, env, sub, ok, Post.bind (Rel2 := isB) (k := D.truth) po fun d _ v H1 e1 dv po1 => ?_⟩
    cases d with
    | non => exact ⟨_, by cases dv; rfl, Post.okay (Rel := isB) po1 rfl⟩
    | bl b => exact ⟨_, by cases dv; rfl, Post.okay (Rel := isB) po1 rfl⟩
    | int i => exact ⟨_, by cases dv; rfl, Post.okay (Rel := isB) po1 rfl⟩
    | str y =>
      obtain ⟨h, po1⟩ := Post.lim po1
      exact ⟨_, by cases dv; exact ⟨h, rfl⟩, Post.okay (Rel := isB) po1 rfl⟩
    | lst ds =>
      obtain ⟨p, xs, rfl, hp, rp⟩ := den_lst dv
      exact ⟨_, .inl ⟨xs, .of (hid_out hp).2, by cases rp <;> rfl⟩, Post.okay (Rel := isB) po1 rfl⟩
    | tup ds =>
      obtain ⟨p, xs, rfl, hp, rp⟩ := den_tup dv
      exact ⟨_, .inr (.inl ⟨xs, ex_t hid_le hp, by cases rp <;> rfl⟩), Post.okay (Rel := isB) po1 rfl⟩
    | fz ds =>
      obtain ⟨p, xs, rfl, hp, rp⟩ := den_fz dv
      exact ⟨_, .inl ⟨xs, ex_l hid_le hp, by cases rp <;> rfl⟩, Post.okay (Rel := isB) po1 rfl⟩
    | _ => exact po1.elim
theorem dt_not (h : DT X w R a t) : DT X w R (.UnaryOp .Not a pos) (eNotB t) := PT.weak (pt_not h) fun σ H Q ⟨S, env, sub, ok, po⟩ =>
  ⟨S, env, sub, ok, Post.map (Rel2 := isB) po fun b _ b' H1 e1 hb q => q (!b') H1 (Ex.refl _) (by rw [show b' = b from hb])⟩
theorem dw_and1 (h : DT X w R a t) : DW X w R (.BoolOp .And [a] pos) t := pw_and1 h
theorem dw_or1 (h : DT X w R a t) : DW X w R (.BoolOp .Or [a] pos) t := pw_or1 h
theorem dw_and (ha : DT X w Ra a t1) (hb : DW X w Rb (.BoolOp .And (b :: rest) pos) t2) : DW X w (Ra ++ Rb) (.BoolOp .And (a :: b :: rest) pos) (eAndB t1 t2) := PW.weak (pw_and ha hb) fun σ H Q ⟨S, env, sub, ok, po⟩ =>
  ⟨S, env, sub, ok.left, Post.bind (Rel2 := isB) po fun b _ b' H1 e1 hb po1 => by
    cases (show b' = b from hb)
    cases b with
    | true => exact ⟨S, env, sub.mono e1, ok.right.mono (hid_ex e1), po1⟩
    | false => exact Post.okay (Rel := isB) po1 rfl⟩
theorem dw_or (ha : DT X w Ra a t1) (hb : DW X w Rb (.BoolOp .Or (b :: rest) pos) t2) : DW X w (Ra ++ Rb) (.BoolOp .Or (a :: b :: rest) pos) (eOrB t1 t2) := PW.weak (pw_or ha hb) fun σ H Q ⟨S, env, sub, ok, po⟩ =>
  ⟨S, env, sub, ok.left, Post.bind (Rel2 := isB) po fun b _ b' H1 e1 hb po1 => by
    cases (show b' = b from hb)
    cases b with
    | false => exact ⟨S, env, sub.mono e1, ok.right.mono (hid_ex e1), po1⟩
    | true => exact Post.okay (Rel := isB) po1 rfl⟩
theorem dt_bool (h : DW X w R e t) : DT X w R e t := PW.pt h
theorem de_one {op : BoolOp} (h : DE X w R a f) : DE X w R (.BoolOp op [a] pos) f := pe_one h
theorem de_and (ha : DE X w Ra a f1) (hb : DE X w Rb (.BoolOp .And (b :: rest) pos) f2) : DE X w (Ra ++ Rb) (.BoolOp .And (a :: b :: rest) pos) (eAndV f1 f2) := PE.weak (pe_and ha hb) fun σ H Q ⟨S, env, sub, ok, po⟩ =>
  ⟨S, env, sub, ok.left, Post.bind (Rel2 := Den X.K) po fun d _ v H1 e1 dv po1 => by
    obtain ⟨k, rfl, po1⟩ := isBl_ok po1
    refine ⟨k, den_bl dv, ?_⟩
    cases k with
    | true => exact ⟨S, env, sub.mono e1, ok.right.mono (hid_ex e1), po1⟩
    | false => exact Post.okay (Rel := Den X.K) po1 (.bl _)⟩
theorem de_not (ha : DE X w R a f) : DE X w R (.UnaryOp .Not a pos) (eUn D.nt f) := PE.weak (pe_not ha) fun σ H Q ⟨S, env, sub, ok, po⟩ =>
  ⟨S, env, sub, ok, Post.bind (Rel2 := Den X.K) po fun d _ v H1 e1 dv po1 => by
    cases d <;> first | exact po1.elim | exact ⟨_, den_bl dv, Post.okay (Rel := Den X.K) po1 (.bl _)⟩⟩
theorem de_if (hc : DT X w Rc c t) (ha : DE X w Ra a f1) (hb : DE X w Rb b f2) : DE X w (Rc ++ (Ra ++ Rb)) (.IfExp c a b pos) (eIf t f1 f2) := PE.weak (pe_ifExp hc ha hb) fun σ H Q ⟨S, env, sub, ok, po⟩ =>
  ⟨S, env, sub, ok.left, Post.bind (Rel2 := Den X.K) po fun k _ k' H1 e1 hk po1 => by
    cases (show k' = k from hk)
    cases k with
    | true => exact ⟨S, env, sub.mono e1, ok.right.left.mono (hid_ex e1), po1⟩
    | false => exact ⟨S, env, sub.mono e1, ok.right.right.mono (hid_ex e1), po1⟩⟩
end
def eNil : EL := fun _ => .ok []
def eCons (f : EE) (g : EL) : EL := fun env => (f env).bind fun d => (g env).map (d :: ·)
def eTup (g : EL) : EE := fun env => (g env).map .tup
def eL (g : EL) : EE := fun env => (g env).map .lst
section
variable {X : Cx} {w : Wi} {R Ra Rb : List Nat} {a b e : Expr} {es : List Expr} {f : EE} {g : EL} {pos : Pos} {σ : L2.St} {H : Hp} {S : List Addr} {K : PySem.W.Frag}
theorem da_nil : DA X w [] [] eNil := ⟨PA.weak pa_nil fun σ H Q ⟨S, env, sub, ok, po⟩ => Post.okay (Rel := DenL X.K) po .nil, fun _ _ h => by cases h; rfl⟩
theorem da_cons (ha : DE X w Ra e f) (hr : DA X w Rb es g) (hs : starEach (e :: es) X.env = (false, eval e X.env) :: starEach es X.env := by rfl) : DA X w (Ra ++ Rb) (e :: es) (eCons f g) :=
  ⟨PA.weak (pa_cons ha hr.pa hs) fun σ H Q ⟨S, env, sub, ok, po⟩ => ⟨S, env, sub, ok.left, Post.bind (Rel2 := DenL X.K) po fun d _ v H1 e1 dv po1 =>
    ⟨S, env, sub.mono e1, ok.right.mono (hid_ex e1), Post.map (Rel2 := DenL X.K) po1 fun ds _ vs H2 e2 dvs q => q _ H2 (Ex.refl _) (.cons (dv.mono (hid_ex e2)) dvs)⟩⟩, fun env ds h => by
    unfold eCons at h
    cases q : f env with
    | ok d =>
      rw [q, bind_ok] at h
      cases q2 : g env with
      | ok es' =>
        rw [q2, map_ok] at h
        cases h
        rw [List.length_cons, List.length_cons, hr.len env es' q2]
      | err c => rw [q2] at h; cases h
      | stuck => rw [q2] at h; cases h
    | err c => rw [q] at h; cases h
    | stuck => rw [q] at h; cases h⟩
theorem de_tup {x1} (h : DA X w R es g) (hz : es.length ≤ 100000 := by decide) : DE X w R (.Tuple es x1 pos) (eTup g) := PE.weak (pe_tup h.pa) fun σ H Q ⟨S, env, sub, ok, po⟩ =>
  ⟨S, env, sub, ok, Post.map (Rel2 := Den X.K) po fun ds hd vs H1 e1 dvs po1 => by
    refine ⟨by rw [dvs.len, h.len env ds hd]; exact Evl.sz_of hz, fun p hp => ?_⟩
    have e2 : Ex H1 (upd H1 p (.tup vs)) := Ex.new hp
    exact po1 _ _ e2 (.tup (.of (hid_at ((sub.mono e1).new hp) upd_same)) (dvs.mono (hid_ex e2)))⟩
theorem PostF.mono {H1 : Hp} {Q : VK} {r : Res (List D)} (h : PostF K w S σ H Q r) (e : Ex H H1) : PostF K w S σ H1 Q r := by
  cases r with
  | ok a => exact fun p vs H2 n e2 hp r => h p vs H2 (ex_none e n) (e.trans e2) hp r
  | err c => exact fun H2 e2 => h H2 (e.trans e2)
  | stuck => exact h
theorem PostF.bind {α β : Type} {Rel : Hp → β → α → Prop} {Q : VK} {Q' : β → Hp → Prop} {r : Res α} {k : α → Res (List D)} (h : PostF K w S σ H Q (r.bind k)) (hk : ∀ a, r = .ok a → ∀ b H1, Ex H H1 → Rel (hid S H1) b a → PostF K w S σ H1 Q (k a) → Q' b H1) : Post Rel w S σ H Q' r := by
  cases r with
  | ok a => exact fun b H1 e r => hk a rfl b H1 e r (PostF.mono (r := k a) h e)
  | err c => exact h
  | stuck => exact h
/-- a list just laid -/
theorem PostF.new {Q : VK} {ds : List D} {vs : List V} {p : Addr} (h : PostF K w S σ H Q (.ok ds)) (sub : Sub S H) (hp : H p = none) (r : DenL K (hid S H) vs ds) : Q (.ref p) (upd H p (.lst vs)) :=
  h p vs _ hp (Ex.new hp) upd_same (r.mono (hid_fresh hp (Ex.new hp)))
theorem dl_lst (h : DA X w R es g) (hz : es.length ≤ 100000 := by decide) : DL X w R (.List es pos) g := PE.weak (pe_lst h.pa) fun σ H Q ⟨S, env, sub, ok, po⟩ =>
  ⟨S, env, sub, ok, by
    cases q : g env with
    | ok ds =>
      rw [q] at po
      exact fun vs H1 e1 dvs => ⟨by rw [dvs.len, h.len env ds q]; exact Evl.sz_of hz, fun p hp => PostF.new (po.mono e1) (sub.mono e1) hp dvs⟩
    | err c => rw [q] at po; exact po
    | stuck => rw [q] at po; exact po⟩
/-- a new list as a value -/
theorem de_ofL (h : DL X w R e g) : DE X w R e (eL g) := PE.weak h fun σ H Q ⟨S, env, sub, ok, po⟩ => ⟨S, env, sub, ok, by
  unfold eL at po
  cases q : g env with
  | ok ds =>
    rw [q] at po
    intro p vs H1 hp e1 h1 r
    refine po _ H1 e1 (.lst (hid_at (sub.new hp) h1) (r.mono (hid_sub fun a m => List.mem_cons_of_mem _ m)))
  | err c => rw [q] at po; exact po
  | stuck => rw [q] at po; exact po⟩
end
namespace D
def ix : D → D → Res D
  | .lst ds, .int i => match atI ds i with | some d => .ok d | none => .stuck
  | .tup ds, .int i => match atI ds i with | some d => .ok d | none => .stuck
  | .tn ds, .int i => match atI ds i with | some d => .ok d | none => .stuck
  | .fz ds, .int i => match atI ds i with | some d => .ok d | none => .stuck
  | .str z, .int i => lim z.length (match atI z.cps.toList i with | some c => .ok (.str ⟨#[c]⟩) | none => .stuck)
  | _, _ => .stuck
def cutD (xs : List D) (lo hi : Option Int) : List D := (xs.drop (HT.sIx xs.length 0 lo)).take (HT.sIx xs.length xs.length hi - HT.sIx xs.length 0 lo)
def sl : D → Option Int → Option Int → Res D
  | .str z, lo, hi => lim z.length (.ok (.str (cutS z lo hi)))
  | .tup xs, lo, hi => if HT.sIx xs.length 0 lo = 0 ∧ HT.sIx xs.length xs.length hi = xs.length then .stuck else .ok (.tup (cutD xs lo hi))
  | .tn xs, lo, hi => if HT.sIx xs.length 0 lo = 0 ∧ HT.sIx xs.length xs.length hi = xs.length then .stuck else .ok (.tup (cutD xs lo hi))
  | .lst xs, lo, hi => .ok (.lst (cutD xs lo hi))
  | .fz xs, lo, hi => .ok (.lst (cutD xs lo hi))
  | _, _, _ => .stuck
def slL : D → Option Int → Option Int → Res (List D)
  | .lst xs, lo, hi => .ok (cutD xs lo hi)
  | .fz xs, lo, hi => .ok (cutD xs lo hi)
  | _, _, _ => .stuck
def fld (C0 : Str) (f : Str) : D → Res D
  | .obj C gs => if C = C0 then (match gs.lookup f with | some d => .ok d | none => .stuck) else .stuck
  | _ => .stuck
end D
def ePart (f : EE) : Sl → Res (Option Int) := fun env => (f env).bind fun d => match d with
  | .int i => .ok (some i)
  | _ => .stuck
def eNoPart : Sl → Res (Option Int) := fun _ => .ok none
def eSl (f : EE) (l h : Sl → Res (Option Int)) : EE := fun env => (f env).bind fun d => (l env).bind fun lo => (h env).bind fun hi => D.sl d lo hi
def eSlL (f : EE) (l h : Sl → Res (Option Int)) : EL := fun env => (f env).bind fun d => (l env).bind fun lo => (h env).bind fun hi => D.slL d lo hi
section
variable {X : Cx} {w : Wi} {R Ra Rb Rc : List Nat} {a b e : Expr} {f f1 f2 : EE} {l h : Sl → Res (Option Int)} {lo hi : Option Expr} {pos p2 : Pos} {K : PySem.W.Frag}
theorem atI_den {H : Hp} {vs : List V} {ds : List D} {i : Int} {d : D} (r : DenL K H vs ds) (e : atI ds i = some d) : ∃ v, atI vs i = some v ∧ Den K H v d := by
  unfold atI at e ⊢
  rw [← r.len] at e
  cases q : ixN vs.length i with
  | none => rw [q] at e; cases e
  | some j =>
    rw [q] at e
    exact r.get e
theorem op2_ix : Op2 K w (rIx K) D.ix := fun S σ H x y a b Q sub da db po => by
  cases b <;> first | (cases a <;> exact po.elim) | skip
  rename_i i
  rw [den_int db]
  cases a <;> first | exact po.elim | skip
  · rename_i z
    obtain ⟨h, po⟩ := Post.lim po
    split at po
    · rename_i c e
      exact .inr (.inr ⟨z, i, c, den_str da, rfl, h, e, Post.okay (Rel := Den K) po (.str _)⟩)
    · exact po.elim
  · obtain ⟨p, xs, rfl, hp, rp⟩ := den_lst da
    unfold D.ix at po
    dsimp only at po
    split at po
    · rename_i d e
      obtain ⟨v, hv, dv⟩ := atI_den rp e
      exact .inl ⟨p, xs, i, v, rfl, rfl, .of (hid_out hp).2, hv, Post.okay (Rel := Den K) po dv⟩
    · exact po.elim
  · obtain ⟨p, xs, rfl, hp, rp⟩ := den_tup da
    unfold D.ix at po
    dsimp only at po
    split at po
    · rename_i d e
      obtain ⟨v, hv, dv⟩ := atI_den rp e
      exact .inr (.inl ⟨p, xs, i, v, rfl, rfl, ex_t hid_le hp, hv, Post.okay (Rel := Den K) po dv⟩)
    · exact po.elim
  · obtain ⟨p, xs, rfl, hp, rp⟩ := den_fz da
    unfold D.ix at po
    dsimp only at po
    split at po
    · rename_i d e
      obtain ⟨v, hv, dv⟩ := atI_den rp e
      exact .inl ⟨p, xs, i, v, rfl, rfl, ex_l hid_le hp, hv, Post.okay (Rel := Den K) po dv⟩
    · exact po.elim
  · obtain ⟨p, xs, rfl, hp, rp⟩ := den_tn da
    unfold D.ix at po
    dsimp only at po
    split at po
    · rename_i d e
      obtain ⟨v, hv, dv⟩ := atI_den rp e
      exact .inr (.inl ⟨p, xs, i, v, rfl, rfl, ex_t hid_le hp, hv, Post.okay (Rel := Den K) po dv⟩)
    · exact po.elim
theorem de_ix (ha : DE X w Ra a f1) (hb : DE X w Rb b f2) (hs : PlainIx b := by exact fun _ _ => rfl) : DE X w (Ra ++ Rb) (.Subscript a b pos) (eBin D.ix f1 f2) := PE.weak (pe_ix ix_seq ha hb hs) fun _ _ _ h => bin_of op2_ix h
theorem dp_none : DP X w [] none eNoPart := PO.weak po_none fun σ H Q ⟨S, env, sub, ok, po⟩ => Post.okay (Rel := isO) po rfl
theorem dp_some (he : DE X w R e f) : DP X w R (some e) (ePart f) := PO.weak (po_some he) fun σ H Q ⟨S, env, sub, ok, po⟩ => ⟨S, env, sub, ok, Post.bind (Rel2 := isO) po fun d _ v H1 e1 dv po1 => by
  cases d <;> first | exact po1.elim | exact ⟨_, den_int dv, Post.okay (Rel := isO) po1 rfl⟩⟩
theorem cut_den {H : Hp} {vs : List V} {ds : List D} {lo hi : Option Int} (r : DenL K H vs ds) : DenL K H (cutV vs lo hi) (D.cutD ds lo hi) := by
  unfold cutV D.cutD
  rw [r.len]
  exact (r.drop _).take _
def rSl3 (K : PySem.W.Frag) : V → Option Int → Option Int → Hp → VK → Prop := fun x lo hi H Q => rSlS x lo hi H Q ∨ rSlT K x lo hi H Q ∨ rSlL K x lo hi H Q
theorem slr3 : SlR X (rSl3 X.K) := sl_str.or (sl_tup.or sl_list)
theorem de_sl (he : DE X w Ra e f) (hl : DP X w Rb lo l) (hh : DP X w Rc hi h) : DE X w (Ra ++ (Rb ++ Rc)) (.Subscript e (.Slice lo hi none p2) pos) (eSl f l h) := PE.weak (pe_slice slr3 he hl hh) fun σ H Q ⟨S, env, sub, ok, po⟩ => by
  unfold eSl at po
  refine ⟨S, env, sub, ok.left, Post.bind (Rel2 := Den X.K) po fun d _ v H1 e1 dv po1 => ?_⟩
  refine ⟨S, env, sub.mono e1, ok.right.left.mono (hid_ex e1), Post.bind (Rel2 := Den X.K) po1 fun i _ i' H2 e2 hi po2 => ?_⟩
  cases (show i' = i from hi)
  refine ⟨S, env, (sub.mono e1).mono e2, ok.right.right.mono (hid_ex (e1.trans e2)), Post.bind (Rel2 := Den X.K) po2 fun j _ j' H3 e3 hj po3 => ?_⟩
  cases (show j' = j from hj)
  have dv := dv.mono (hid_ex (e2.trans e3))
  have sub3 := sub.mono ((e1.trans e2).trans e3)
  cases d <;> first | exact po3.elim | skip
  · obtain ⟨hz, po3⟩ := Post.lim po3
    exact .inl ⟨_, den_str dv, hz, Post.okay (Rel := Den X.K) po3 (.str _)⟩
  · obtain ⟨p, xs, rfl, hp, rp⟩ := den_lst dv
    refine .inr (.inr ⟨p, xs, rfl, .of (hid_out hp).2, fun q hq => ?_⟩)
    have e4 : Ex H3 (upd H3 q (.lst (cutV xs i j))) := Ex.new hq
    exact po3 _ _ e4 (.lst (hid_at (sub3.new hq) upd_same) ((cut_den rp).mono (hid_ex e4)))
  · obtain ⟨p, xs, rfl, hp, rp⟩ := den_tup dv
    unfold D.sl at po3
    dsimp only at po3
    split at po3
    · exact po3.elim
    · rename_i nw
      refine .inr (.inl ⟨p, xs, rfl, ex_t hid_le hp, by rw [rp.len]; exact nw, fun q hq => ?_⟩)
      have e4 : Ex H3 (upd H3 q (.tup (cutV xs i j))) := Ex.new hq
      exact po3 _ _ e4 (.tup (.of (hid_at (sub3.new hq) upd_same)) ((cut_den rp).mono (hid_ex e4)))
  · obtain ⟨p, xs, rfl, hp, rp⟩ := den_fz dv
    refine .inr (.inr ⟨p, xs, rfl, ex_l hid_le hp, fun q hq => ?_⟩)
    have e4 : Ex H3 (upd H3 q (.lst (cutV xs i j))) := Ex.new hq
    exact po3 _ _ e4 (.lst (hid_at (sub3.new hq) upd_same) ((cut_den rp).mono (hid_ex e4)))
  · obtain ⟨p, xs, rfl, hp, rp⟩ := den_tn dv
    unfold D.sl at po3
    dsimp only at po3
    split at po3
    · exact po3.elim
    · rename_i nw
      refine .inr (.inl ⟨p, xs, rfl, ex_t hid_le hp, by rw [rp.len]; exact nw, fun q hq => ?_⟩)
      have e4 : Ex H3 (upd H3 q (.tup (cutV xs i j))) := Ex.new hq
      exact po3 _ _ e4 (.tup (.of (hid_at (sub3.new hq) upd_same)) ((cut_den rp).mono (hid_ex e4)))
theorem de_fld {n C0 : Str} (he : DE X w R e f) (cl : Cls X.K (He.ga X.K C0)) (na : NoAttr X.K (He.ga X.K C0) n) (hb : attributeBase e n X.env (eval e X.env) = eval e X.env := by rfl) : DE X w R (.Attribute e n pos) (eUn (D.fld C0 n) f) := PE.weak (pe_fld he hb) fun σ H Q ⟨S, env, sub, ok, po⟩ =>
  ⟨S, env, sub, ok, Post.bind (Rel2 := Den X.K) po fun d _ v H1 e1 dv po1 => by
    cases d <;> first | exact po1.elim | skip
    rename_i C gs
    obtain ⟨p, dx, fs, rfl, hp, rp⟩ := den_obj dv
    unfold D.fld at po1
    dsimp only at po1
    split at po1
    · rename_i ec
      subst ec
      split at po1
      · rename_i d hd
        obtain ⟨v, hv, dv⟩ := rp.look hd
        exact ⟨p, _, dx, fs, v, rfl, (hid_out hp).2, cl, na, hv, Post.okay (Rel := Den X.K) po1 dv⟩
      · exact po1.elim
    · exact po1.elim⟩
end
end Dx
set_option Elab.async false
set_option linter.all false
set_option maxRecDepth 100000
set_option maxHeartbeats 4000000
namespace Dx
open PySem PySem.Spec PyProof.Rows L2
open D (okd okdA py pyA)
def eCall (g : EL) (F : List D → Res D) : EE := fun env => (g env).bind F
def eCallL (g : EL) (F : List D → Res (List D)) : EL := fun env => (g env).bind F
/-- a call's rule by values gives its data -/
def CallD (K : PySem.W.Frag) (w : Wi) (r : List V → Hp → VK → Prop) (F : List D → Res D) : Prop :=
  ∀ (S : List Addr) (σ : L2.St) (H : Hp) (vs : List V) (ds : List D) (Q : VK), Sub S H → DenL K (hid S H) vs ds → PostV K w S σ H Q (F ds) → r vs H Q
def CallDL (K : PySem.W.Frag) (w : Wi) (r : List V → Hp → VK → Prop) (F : List D → Res (List D)) : Prop :=
  ∀ (S : List Addr) (σ : L2.St) (H : Hp) (vs : List V) (ds : List D) (Q : VK), Sub S H → DenL K (hid S H) vs ds → PostF K w S σ H Q (F ds) → r vs H Q
section
variable {X : Cx} {w : Wi} {R : List Nat} {e : Expr} {es : List Expr} {g : EL} {F : List D → Res D} {G : List D → Res (List D)} {x : Str} {p pos : Pos} {r : List V → Hp → VK → Prop} {id T : String}
theorem cb_of (hr : CallD X.K w r F) {σ : L2.St} {H : Hp} {Q : VK} (h : tS (Den X.K) X.K w R (eCall g F) σ H Q) : tCB r (tS (DenL X.K) X.K w R g) σ H Q := by
  obtain ⟨S, env, sub, ok, po⟩ := h
  exact ⟨S, env, sub, ok, Post.bind (Rel2 := Den X.K) po fun ds _ vs H1 e1 dv po1 => hr S σ H1 vs ds Q (sub.mono e1) dv po1⟩
theorem cbL_of (hr : CallDL X.K w r G) {σ : L2.St} {H : Hp} {Q : VK} (h : tF X.K w R (eCallL g G) σ H Q) : tCB r (tS (DenL X.K) X.K w R g) σ H Q := by
  obtain ⟨S, env, sub, ok, po⟩ := h
  exact ⟨S, env, sub, ok, PostF.bind po fun ds _ vs H1 e1 dv po1 => hr S σ H1 vs ds Q (sub.mono e1) dv po1⟩
theorem de_callB (hc : CallR X (.builtin id) r) (hr : CallD X.K w r F) (hm : X.mg x = none) (ha : DA X w R (e :: es) g) (hg : Gl X x := by rfl) (hv : bootBuiltins x = some (.builtin id) := by decide +kernel) (hn : x ≠ "__name__" := by decide) (hdb : (x == ("__debug__" : Str)) = false := by decide)
    (he : starEach (e :: es) X.env = (false, eval e X.env) :: starEach es X.env := by rfl) (hpl : (backTo pos (starEach es X.env)).any (·.1) = false := by rfl) : DE X w R (.Call (.Name x p) (e :: es) [] pos) (eCall g F) :=
  PE.weak (pe_callB hc hg hm hv ha.pa hn hdb he hpl) fun _ _ _ h => cb_of hr h
theorem de_callTy (hc : CallR X (.type T) r) (hr : CallD X.K w r F) (hm : X.mg x = none) (ha : DA X w R (e :: es) g) (hg : Gl X x := by rfl) (hv : bootBuiltins x = some (.type T) := by decide +kernel) (hn : x ≠ "__name__" := by decide) (hdb : (x == ("__debug__" : Str)) = false := by decide)
    (he : starEach (e :: es) X.env = (false, eval e X.env) :: starEach es X.env := by rfl) (hpl : (backTo pos (starEach es X.env)).any (·.1) = false := by rfl) : DE X w R (.Call (.Name x p) (e :: es) [] pos) (eCall g F) :=
  PE.weak (pe_callTy hc hg hm hv ha.pa hn hdb he hpl) fun _ _ _ h => cb_of hr h
theorem dl_callTy (hc : CallR X (.type T) r) (hr : CallDL X.K w r G) (hm : X.mg x = none) (ha : DA X w R (e :: es) g) (hg : Gl X x := by rfl) (hv : bootBuiltins x = some (.type T) := by decide +kernel) (hn : x ≠ "__name__" := by decide) (hdb : (x == ("__debug__" : Str)) = false := by decide)
    (he : starEach (e :: es) X.env = (false, eval e X.env) :: starEach es X.env := by rfl) (hpl : (backTo pos (starEach es X.env)).any (·.1) = false := by rfl) : DL X w R (.Call (.Name x p) (e :: es) [] pos) (eCallL g G) :=
  PE.weak (pe_callTy hc hg hm hv ha.pa hn hdb he hpl) fun _ _ _ h => cbL_of hr h
end
namespace D
def len : List D → Res D
  | [.lst xs] => .ok (.int xs.length)
  | [.tup xs] => .ok (.int xs.length)
  | [.fz xs] => .ok (.int xs.length)
  | [.str z] => lim z.length (.ok (.int z.length))
  | [.tn xs] => .ok (.int xs.length)
  | _ => .stuck
def listOf : List D → Res (List D)
  | [.lst xs] => .ok xs
  | [.tup xs] => .ok xs
  | [.fz xs] => .ok xs
  | _ => .stuck
def tupOf : List D → Res D
  | [.lst xs] => .ok (.tup xs)
  | [.fz xs] => .ok (.tup xs)
  | [.tup xs] => .ok (.tup xs)
  | _ => .stuck
def int1 : List D → Res D
  | [.int i] => .ok (.int i)
  | [.bl k] => .ok (.int (if k then 1 else 0))
  | _ => .stuck
def abs1 : List D → Res D
  | [.int i] => .ok (.int (if i < 0 then -i else i))
  | _ => .stuck
def min2 : List D → Res D
  | [.int i, .int j] => .ok (.int (if j < i then j else i))
  | _ => .stuck
def max2 : List D → Res D
  | [.int i, .int j] => .ok (.int (if j > i then j else i))
  | _ => .stuck
/-- the built-in type of data -/
def ty : D → Option String
  | .non => some "NoneType"
  | .bl _ => some "bool"
  | .int _ => some "int"
  | .str _ => some "str"
  | .lst _ => some "list"
  | .fz _ => some "list"
  | .tup _ => some "tuple"
  | .dct _ => some "dict"
  | .tn _ => some "tuple"
  | _ => none
def isTy (a n : String) : Option Bool :=
  if n = "int" then some (a == "int" || a == "bool") else if n = "bool" ∨ n = "str" ∨ n = "list" ∨ n = "tuple" then some (a == n) else none
def isi : List D → Res D
  | [d, .raw (.ty n)] => match ty d with
    | some a => (match isTy a n with | some b => .ok (.bl b) | none => .stuck)
    | none => .stuck
  | _ => .stuck
end D
section
variable {X : Cx} {w : Wi} {K : PySem.W.Frag} {R : List Nat} {x : Str} {pos p : Pos}
theorem ds1 {H : Hp} {vs : List V} {d : D} (h : DenL K H vs [d]) : ∃ v, vs = [v] ∧ Den K H v d := by cases h with | cons h r => cases r; exact ⟨_, rfl, h⟩
theorem ds2 {H : Hp} {vs : List V} {d c : D} (h : DenL K H vs [d, c]) : ∃ v u, vs = [v, u] ∧ Den K H v d ∧ Den K H u c := by
  cases h with | cons h r => obtain ⟨u, rfl, h2⟩ := ds1 r; exact ⟨_, _, rfl, h, h2⟩
def rLen2 (K : PySem.W.Frag) : List V → Hp → VK → Prop := fun xs H Q => (∃ p ys, xs = [.ref p] ∧ (SqL K H p ys ∨ SqT K H p ys) ∧ Q (.int ys.length) H) ∨ ∃ z, xs = [.str z] ∧ z.length ≤ sizeLine ∧ Q (.int z.length) H
theorem cr_len : CallR X (.builtin "len") (rLen2 X.K) := call_len_seq.or call_len_str
theorem cd_len : CallD K w (rLen2 K) D.len := fun S σ H vs ds Q sub dv po => by
  unfold D.len at po
  split at po
  · obtain ⟨v, rfl, d1⟩ := ds1 dv
    obtain ⟨a, xs, rfl, ha, ra⟩ := den_lst d1
    refine .inl ⟨a, xs, rfl, .inl (.of (hid_out ha).2), ?_⟩
    rw [ra.len]
    exact Post.okay (Rel := Den K) po (.int _)
  · obtain ⟨v, rfl, d1⟩ := ds1 dv
    obtain ⟨a, xs, rfl, ha, ra⟩ := den_tup d1
    refine .inl ⟨a, xs, rfl, .inr (ex_t hid_le ha), ?_⟩
    rw [ra.len]
    exact Post.okay (Rel := Den K) po (.int _)
  · obtain ⟨v, rfl, d1⟩ := ds1 dv
    obtain ⟨a, xs, rfl, ha, ra⟩ := den_fz d1
    refine .inl ⟨a, xs, rfl, .inl (ex_l hid_le ha), ?_⟩
    rw [ra.len]
    exact Post.okay (Rel := Den K) po (.int _)
  · obtain ⟨v, rfl, d1⟩ := ds1 dv
    obtain ⟨hz, po⟩ := Post.lim po
    rw [den_str d1]
    exact .inr ⟨_, rfl, hz, Post.okay (Rel := Den K) po (.int _)⟩
  · obtain ⟨v, rfl, d1⟩ := ds1 dv
    obtain ⟨a, xs, rfl, ha, ra⟩ := den_tn d1
    refine .inl ⟨a, xs, rfl, .inr (ex_t hid_le ha), ?_⟩
    rw [ra.len]
    exact Post.okay (Rel := Den K) po (.int _)
  · exact po.elim
theorem cd_list : CallDL K w (fun xs H Q => ∃ p ys, xs = [.ref p] ∧ (SqL K H p ys ∨ SqT K H p ys) ∧ ∀ l, H l = none → Q (.ref l) (upd H l (.lst ys))) D.listOf := fun S σ H vs ds Q sub dv po => by
  unfold D.listOf at po
  split at po
  · obtain ⟨v, rfl, d1⟩ := ds1 dv
    obtain ⟨a, xs, rfl, ha, ra⟩ := den_lst d1
    exact ⟨a, xs, rfl, .inl (.of (hid_out ha).2), fun l hl => PostF.new po sub hl ra⟩
  · obtain ⟨v, rfl, d1⟩ := ds1 dv
    obtain ⟨a, xs, rfl, ha, ra⟩ := den_tup d1
    exact ⟨a, xs, rfl, .inr (ex_t hid_le ha), fun l hl => PostF.new po sub hl ra⟩
  · obtain ⟨v, rfl, d1⟩ := ds1 dv
    obtain ⟨a, xs, rfl, ha, ra⟩ := den_fz d1
    exact ⟨a, xs, rfl, .inl (ex_l hid_le ha), fun l hl => PostF.new po sub hl ra⟩
  · exact po.elim
theorem cd_tuple : CallD K w (fun xs H Q => ∃ p ys, xs = [.ref p] ∧ ((SqL K H p ys ∧ ∀ l, H l = none → Q (.ref l) (upd H l (.tup ys))) ∨ (SqT K H p ys ∧ Q (.ref p) H))) D.tupOf := fun S σ H vs ds Q sub dv po => by
  have new : ∀ (xs : List V) (es : List D), DenL K (hid S H) xs es → PostV K w S σ H Q (.ok (.tup es)) → ∀ l, H l = none → Q (.ref l) (upd H l (.tup xs)) := fun xs es r po l hl => by
    have e : Ex H (upd H l (.tup xs)) := Ex.new hl
    exact po _ _ e (.tup (.of (hid_at (sub.new hl) upd_same)) (r.mono (hid_ex e)))
  unfold D.tupOf at po
  split at po
  · obtain ⟨v, rfl, d1⟩ := ds1 dv
    obtain ⟨a, xs, rfl, ha, ra⟩ := den_lst d1
    exact ⟨a, xs, rfl, .inl ⟨.of (hid_out ha).2, new xs _ ra po⟩⟩
  · obtain ⟨v, rfl, d1⟩ := ds1 dv
    obtain ⟨a, xs, rfl, ha, ra⟩ := den_fz d1
    exact ⟨a, xs, rfl, .inl ⟨ex_l hid_le ha, new xs _ ra po⟩⟩
  · obtain ⟨v, rfl, d1⟩ := ds1 dv
    obtain ⟨a, xs, rfl, ha, ra⟩ := den_tup d1
    exact ⟨a, xs, rfl, .inr ⟨ex_t hid_le ha, Post.okay (Rel := Den K) po (.tup ha ra)⟩⟩
  · exact po.elim
theorem cd_int : CallD K w (fun xs H Q => (∃ i, xs = [.int i] ∧ Q (.int i) H) ∨ ∃ k, xs = [.bl k] ∧ Q (.int (if k then 1 else 0)) H) D.int1 := fun S σ H vs ds Q sub dv po => by
  unfold D.int1 at po
  split at po
  · obtain ⟨v, rfl, d1⟩ := ds1 dv
    rw [den_int d1]
    exact .inl ⟨_, rfl, Post.okay (Rel := Den K) po (.int _)⟩
  · obtain ⟨v, rfl, d1⟩ := ds1 dv
    rw [den_bl d1]
    exact .inr ⟨_, rfl, Post.okay (Rel := Den K) po (.int _)⟩
  · exact po.elim
theorem cd_min2 : CallD K w (fun xs H Q => ∃ i j, xs = [.int i, .int j] ∧ Q (.int (if j < i then j else i)) H) D.min2 := fun S σ H vs ds Q sub dv po => by
  unfold D.min2 at po
  split at po
  · obtain ⟨v, u, rfl, d1, d2⟩ := ds2 dv
    rw [den_int d1, den_int d2]
    exact ⟨_, _, rfl, Post.okay (Rel := Den K) po (.int _)⟩
  · exact po.elim
theorem cd_max2 : CallD K w (fun xs H Q => ∃ i j, xs = [.int i, .int j] ∧ Q (.int (if j > i then j else i)) H) D.max2 := fun S σ H vs ds Q sub dv po => by
  unfold D.max2 at po
  split at po
  · obtain ⟨v, u, rfl, d1, d2⟩ := ds2 dv
    rw [den_int d1, den_int d2]
    exact ⟨_, _, rfl, Post.okay (Rel := Den K) po (.int _)⟩
  · exact po.elim
/-- a built-in's name as a value -/
theorem de_ty {n : String} (hm : X.mg x = none) (hg : Gl X x := by rfl) (hv : bootBuiltins x = some (.type n) := by decide +kernel) (hn : x ≠ "__name__" := by decide) (hdb : (x == ("__debug__" : Str)) = false := by decide) : DE X w [] (.Name x pos) (eC (.raw (.ty n))) :=
  const_of (pe_bltn hg hm hv (v := .ty n) rfl hn hdb) fun _ => .raw _
theorem ty_den {H : Hp} {S : List Addr} {v : V} {d : D} {a : String} (h : Den K (hid S H) v d) (e : D.ty d = some a) : TyX K H v (.type a) := by
  cases d <;> cases e
  · rw [den_non h]; exact .base .non
  · rw [den_bl h]; exact .base (.bl _)
  · rw [den_int h]; exact .base (.int _)
  · rw [den_str h]; exact .base (.str _)
  · obtain ⟨p, xs, rfl, hp, _⟩ := den_lst h
    exact .base (.lst (hid_out hp).2)
  · obtain ⟨p, xs, rfl, hp, _⟩ := den_tup h
    rcases ex_t (hid_le (S := S) (H := H)) hp with (h | ⟨o, h⟩) | ⟨o, its, n, hk, hc, _⟩
    · exact .base (.tup h)
    · exact .fTuple h
    · exact .kTuple hk hc
  · obtain ⟨p, xs, rfl, hp, _⟩ := den_fz h
    rcases ex_l (hid_le (S := S) (H := H)) hp with (h | ⟨o, h⟩) | ⟨o, its, n, hk, hc, _⟩
    · exact .base (.lst h)
    · exact .base (.frz h)
    · exact .kList hk hc
  · obtain ⟨p, fs, rfl, hp, _⟩ := den_dct h
    exact .base (.dK (hid_out hp).2)
  · obtain ⟨p, xs, rfl, hp, _⟩ := den_tn h
    rcases ex_t (hid_le (S := S) (H := H)) hp with (h | ⟨o, h⟩) | ⟨o, its, n, hk, hc, _⟩
    · exact .base (.tup h)
    · exact .fTuple h
    · exact .kTuple hk hc
theorem isTy_kit {d : D} {a n : String} {b : Bool} (h : D.ty d = some a) (e : D.isTy a n = some b) : kitB a n = some b := by
  have ha : a = "NoneType" ∨ a = "bool" ∨ a = "int" ∨ a = "str" ∨ a = "list" ∨ a = "tuple" ∨ a = "dict" := by cases d <;> cases h <;> simp
  have hn : n = "int" ∨ n = "bool" ∨ n = "str" ∨ n = "list" ∨ n = "tuple" := by
    unfold D.isTy at e
    split at e
    · exact .inl (by assumption)
    · split at e
      · exact .inr (by assumption)
      · cases e
  have all : ∀ a ∈ ["NoneType", "bool", "int", "str", "list", "tuple", "dict"], ∀ n ∈ ["int", "bool", "str", "list", "tuple"], kitB a n = D.isTy a n := by decide +kernel
  rw [all a (by simpa using ha) n (by simpa using hn)]
  exact e
theorem cd_isi : CallD K w (rIsi K) D.isi := fun S σ H vs ds Q sub dv po => by
  unfold D.isi at po
  split at po
  · obtain ⟨v, u, rfl, d1, d2⟩ := ds2 dv
    cases d2
    split at po
    · rename_i a ha
      split at po
      · rename_i b hb
        exact ⟨v, _, _, _, b, rfl, .ty _, ty_den d1 ha, kit_ty (isTy_kit ha hb), Post.okay (Rel := Den K) po (.bl _)⟩
      · exact po.elim
    · exact po.elim
  · exact po.elim
end
section
variable {X : Cx} {w : Wi} {R : List Nat} {e : Expr} {es : List Expr} {g : EL} {p pos : Pos}
theorem de_len (hm : X.mg "len" = none) (ha : DA X w R (e :: es) g) (hg : Gl X "len" := by rfl) (he : starEach (e :: es) X.env = (false, eval e X.env) :: starEach es X.env := by rfl) (hpl : (backTo pos (starEach es X.env)).any (·.1) = false := by rfl) : DE X w R (.Call (.Name "len" p) (e :: es) [] pos) (eCall g D.len) :=
  de_callB cr_len cd_len hm ha hg PySem.boot_len (by decide) (by decide) he hpl
theorem de_isi (hm : X.mg "isinstance" = none) (ha : DA X w R (e :: es) g) (hg : Gl X "isinstance" := by rfl) (he : starEach (e :: es) X.env = (false, eval e X.env) :: starEach es X.env := by rfl) (hpl : (backTo pos (starEach es X.env)).any (·.1) = false := by rfl) : DE X w R (.Call (.Name "isinstance" p) (e :: es) [] pos) (eCall g D.isi) :=
  de_callB call_isi cd_isi hm ha hg (by decide +kernel) (by decide) (by decide) he hpl
theorem dl_list (hm : X.mg "list" = none) (ha : DA X w R (e :: es) g) (hg : Gl X "list" := by rfl) (he : starEach (e :: es) X.env = (false, eval e X.env) :: starEach es X.env := by rfl) (hpl : (backTo pos (starEach es X.env)).any (·.1) = false := by rfl) : DL X w R (.Call (.Name "list" p) (e :: es) [] pos) (eCallL g D.listOf) :=
  dl_callTy call_list_of cd_list hm ha hg (by decide +kernel) (by decide) (by decide) he hpl
theorem de_tuple (hm : X.mg "tuple" = none) (ha : DA X w R (e :: es) g) (hg : Gl X "tuple" := by rfl) (he : starEach (e :: es) X.env = (false, eval e X.env) :: starEach es X.env := by rfl) (hpl : (backTo pos (starEach es X.env)).any (·.1) = false := by rfl) : DE X w R (.Call (.Name "tuple" p) (e :: es) [] pos) (eCall g D.tupOf) :=
  de_callTy call_tuple_of cd_tuple hm ha hg (by decide +kernel) (by decide) (by decide) he hpl
theorem de_intc (hm : X.mg "int" = none) (ha : DA X w R (e :: es) g) (hg : Gl X "int" := by rfl) (he : starEach (e :: es) X.env = (false, eval e X.env) :: starEach es X.env := by rfl) (hpl : (backTo pos (starEach es X.env)).any (·.1) = false := by rfl) : DE X w R (.Call (.Name "int" p) (e :: es) [] pos) (eCall g D.int1) :=
  de_callTy call_int1 cd_int hm ha hg (by decide +kernel) (by decide) (by decide) he hpl
theorem de_min2 (hc : X.calm = true) (hm : X.mg "min" = none) (ha : DA X w R (e :: es) g) (hg : Gl X "min" := by rfl) (he : starEach (e :: es) X.env = (false, eval e X.env) :: starEach es X.env := by rfl) (hpl : (backTo pos (starEach es X.env)).any (·.1) = false := by rfl) : DE X w R (.Call (.Name "min" p) (e :: es) [] pos) (eCall g D.min2) :=
  de_callB (call_min2 hc) cd_min2 hm ha hg (by decide +kernel) (by decide) (by decide) he hpl
theorem de_max2 (hc : X.calm = true) (hm : X.mg "max" = none) (ha : DA X w R (e :: es) g) (hg : Gl X "max" := by rfl) (he : starEach (e :: es) X.env = (false, eval e X.env) :: starEach es X.env := by rfl) (hpl : (backTo pos (starEach es X.env)).any (·.1) = false := by rfl) : DE X w R (.Call (.Name "max" p) (e :: es) [] pos) (eCall g D.max2) :=
  de_callB (call_max2 hc) cd_max2 hm ha hg (by decide +kernel) (by decide) (by decide) he hpl
end
/-- how an answer lies: data, or a new list -/
def RetOk (K : PySem.W.Frag) (fr : Bool) (S : List Addr) (H H1 : Hp) (v : V) (d : D) : Prop := match fr with
  | false => Den K (hid S H1) v d
  | true => ∃ p vs ds, v = .ref p ∧ d = .lst ds ∧ H p = none ∧ H1 p = some (.lst vs) ∧ DenL K (hid (p :: S) H1) vs ds
/-- the promise of a def whose answer is F of its arguments -/
def SpF (K : PySem.W.Frag) (mg : Str → Option Value) (tb : List Addr) (n : Nat) (fr : Bool) (F : List D → Res D) : Sp := fun vs H Q E => vs.length = n ∧ ∃ (S : List Addr) (ds : List D), Sub S H ∧ (∀ P ∈ tb, GxR.TabG (hid S H) P) ∧ DenL K (hid S H) vs ds ∧
  match F ds with
  | .ok d => ∀ v H1, Ex H H1 → RetOk K fr S H H1 v d → Q v H1
  | .err c => ∀ H1 u, Ex H H1 → mg c = some u → E u none H1
  | .stuck => False
/-- the wish by class names, as the layer below has it -/
def wx (mg : Str → Option Value) (w : Wi) : WX := fun cls d σ H => ∃ c, mg c = some cls ∧ d = none ∧ w c σ H
structure Callee (P : Program) (w : World) (K : PySem.W.Frag) (mg : Str → Option Value) (base : Heap) (tb : List Addr) (x : Str) (k n : Nat) (fr : Bool) (F : List D → Res D) : Prop where
  ex : ∃ (f : Addr) (fd : FuncData) (ps : List Str), FnOk P w K mg base (L2.CX P w) k f fd ps (SpF K mg tb n fr F) ∧ mg x = some (.ref f) ∧ PySem.W.keepIn K (.ref f) = true ∧ Binds K fd ps []
def unl : D → Res (List D)
  | .lst ds => .ok ds
  | _ => .stuck
section
variable {X : Cx} {w : Wi} {R : List Nat} {e : Expr} {es : List Expr} {g : EL} {F : List D → Res D} {x : Str} {p pos : Pos} {k j n : Nat}
theorem de_call (C : Callee X.prog X.w X.K X.mg X.base w.tb x k n false F) (hr : Room j X.A) (tk : Takes X (wx X.mg w)) (ha : DA X w R (e :: es) g) (hk : k ≤ j := by decide) (hg : Gl X x := by rfl) (hdb : (x == ("__debug__" : Str)) = false := by decide)
    (he : starEach (e :: es) X.env = (false, eval e X.env) :: starEach es X.env := by rfl) (hpl : (backTo pos (starEach es X.env)).any (·.1) = false := by rfl) (hn : (e :: es).length = n := by rfl) : DE X w R (.Call (.Name x p) (e :: es) [] pos) (eCall g F) := by
  obtain ⟨f, fd, ps, G, hm, hkp, hb⟩ := C.ex
  refine PE.weak (pe_callS G (hr.mono hk) hg hm hkp hb (fun σ => passAt tk σ) ha.pa hdb he hpl) fun σ H Q ⟨S, env, sub, ok, po⟩ => ?_
  refine ⟨S, env, sub, ok, Post.bind (Rel2 := Den X.K) po fun ds hd vs H1 e1 dv po1 => ⟨by rw [dv.len]; rw [ha.len env ds hd]; exact hn, S, ds, sub.mono e1, (ok.mono (hid_ex e1)).tab, dv, ?_⟩⟩
  cases q : F ds with
  | ok d => rw [q] at po1; exact fun v H2 e2 r => po1 v H2 e2 r
  | err c => rw [q] at po1; exact fun H2 u e2 hu => ⟨c, hu, rfl, po1 H2 e2⟩
  | stuck => rw [q] at po1; exact po1
theorem dl_call (C : Callee X.prog X.w X.K X.mg X.base w.tb x k n true F) (hr : Room j X.A) (tk : Takes X (wx X.mg w)) (ha : DA X w R (e :: es) g) (hk : k ≤ j := by decide) (hg : Gl X x := by rfl) (hdb : (x == ("__debug__" : Str)) = false := by decide)
    (he : starEach (e :: es) X.env = (false, eval e X.env) :: starEach es X.env := by rfl) (hpl : (backTo pos (starEach es X.env)).any (·.1) = false := by rfl) (hn : (e :: es).length = n := by rfl) : DL X w R (.Call (.Name x p) (e :: es) [] pos) (eCallL g fun ds => (F ds).bind unl) := by
  obtain ⟨f, fd, ps, G, hm, hkp, hb⟩ := C.ex
  refine PE.weak (pe_callS G (hr.mono hk) hg hm hkp hb (fun σ => passAt tk σ) ha.pa hdb he hpl) fun σ H Q ⟨S, env, sub, ok, po⟩ => ?_
  refine ⟨S, env, sub, ok, PostF.bind po fun ds hd vs H1 e1 dv po1 => ⟨by rw [dv.len]; rw [ha.len env ds hd]; exact hn, S, ds, sub.mono e1, (ok.mono (hid_ex e1)).tab, dv, ?_⟩⟩
  cases q : F ds with
  | ok d =>
    rw [q] at po1
    rintro v H2 e2 ⟨p, vs, es, rfl, rfl, hp, h2, r⟩
    exact po1 p vs H2 hp e2 h2 r
  | err c => rw [q] at po1; exact fun H2 u e2 hu => ⟨c, hu, rfl, po1 H2 e2⟩
  | stuck => rw [q] at po1; exact po1
end
end Dx
set_option Elab.async false
set_option linter.all false
set_option maxRecDepth 100000
set_option maxHeartbeats 4000000
namespace Dx
open PySem PySem.Spec PyProof.Rows L2
open RZ RT
open D (okd okdA py pyA)
def Walks (K : PySem.W.Frag) (Hs : Hp) (J : It) (ds : List D) : Prop := ∀ (i : Nat) (H2 : Hp), Ex Hs H2 → (ds.length ≤ i → J.stop i H2) ∧
  ∀ d, ds[i]? = some d → J.go i H2 ∧ ∀ x H', J.yld i H2 x H' → Ex H2 H' ∧ ∀ S', Sub S' H2 → Ex Hs (hid S' H2) → Den K (hid S' H') x d
abbrev DI (X : Cx) (w : Wi) (R : List Nat) (tg iter : Expr) (f : EL) : Prop := PI X tg iter (tS (Walks X.K) X.K w R f)
theorem PI.weak {X : Cx} {tg e : Expr} {t t' : TI} (h : PI X tg e t) (i : ∀ σ H Q, t' σ H Q → t σ H Q) : PI X tg e t' := ⟨fun pins s σ H R I q => h.run pins s σ H R I (i σ H R q)⟩
section
variable {K : PySem.W.Frag} {Hs : Hp} {a b : Addr} {xs ys : List V} {ds es : List D}
theorem walks_list (h : SqL K Hs a xs) (r : DenL K Hs xs ds) : Walks K Hs (Itl K a) ds := fun i H2 e => by
  have h2 := ex_l e h
  refine ⟨fun hi => ⟨xs, h2, by rw [r.len]; exact hi⟩, fun d hd => ?_⟩
  obtain ⟨v, hv, dv⟩ := r.get hd
  refine ⟨⟨xs, v, h2, hv⟩, fun x H' ⟨e1, e2⟩ => ?_⟩
  subst e1
  have := e2 xs h2
  rw [hv] at this
  cases this
  exact ⟨Ex.refl _, fun S' _ e3 => dv.mono e3⟩
theorem walks_tup (h : SqT K Hs a xs) (r : DenL K Hs xs ds) : Walks K Hs (Itt K a) ds := fun i H2 e => by
  have h2 := ex_t e h
  refine ⟨fun hi => ⟨xs, h2, by rw [r.len]; exact hi⟩, fun d hd => ?_⟩
  obtain ⟨v, hv, dv⟩ := r.get hd
  refine ⟨⟨xs, v, h2, hv⟩, fun x H' ⟨e1, e2⟩ => ?_⟩
  subst e1
  have := e2 xs h2
  rw [hv] at this
  cases this
  exact ⟨Ex.refl _, fun S' _ e3 => dv.mono e3⟩
theorem walks_str (z : Str) : Walks K Hs (Its z) (z.cps.toList.map fun c => .str ⟨#[c]⟩) := fun i H2 e => by
  refine ⟨fun hi => by rw [List.length_map, Array.length_toList] at hi; exact hi, fun d hd => ?_⟩
  rw [List.getElem?_map] at hd
  cases q : z.cps.toList[i]? with
  | none => rw [q] at hd; cases hd
  | some c =>
    rw [q] at hd
    cases hd
    have hl : i < z.cps.size := by
      have := (List.getElem?_eq_some_iff.mp q).1
      simpa using this
    refine ⟨hl, fun x H' ⟨e1, c', hc, ex⟩ => ?_⟩
    subst e1 ex
    rw [← Array.getElem?_toList, q] at hc
    cases hc
    exact ⟨Ex.refl _, fun _ _ _ => .str _⟩
theorem walks_range (lo : Int) (n : Nat) : Walks K Hs (Itr lo n) ((List.range n).map fun (k : Nat) => .int (lo + k)) := fun i H2 e => by
  refine ⟨fun hi => by rw [List.length_map, List.length_range] at hi; exact hi, fun d hd => ?_⟩
  rw [List.getElem?_map] at hd
  cases q : (List.range n)[i]? with
  | none => rw [q] at hd; cases hd
  | some k =>
    rw [q] at hd
    cases hd
    obtain ⟨hl, hk⟩ := List.getElem?_eq_some_iff.mp q
    rw [List.getElem_range] at hk
    subst hk
    refine ⟨by rw [List.length_range] at hl; exact hl, fun x H' ⟨e1, ex⟩ => ?_⟩
    subst e1 ex
    exact ⟨Ex.refl _, fun _ _ _ => .int _⟩
theorem pair_den {S' : List Addr} {H2 : Hp} {T : Addr} {x y : V} {d c : D} (n : H2 T = none) (s : Sub S' H2) (hx : Den K (hid S' H2) x d) (hy : Den K (hid S' H2) y c) : Den K (hid S' (upd H2 T (.tup [x, y]))) (.ref T) (.tup [d, c]) := by
  have e := hid_ex (S := S') (Ex.new (o := .tup [x, y]) n)
  exact .tup (.of (hid_at (s.new n) upd_same)) (.cons (hx.mono e) (.one (hy.mono e)))
def zipD : List D → List D → List D
  | d :: ds, c :: cs => .tup [d, c] :: zipD ds cs
  | _, _ => []
theorem zipD_len : ∀ ds cs : List D, (zipD ds cs).length = min ds.length cs.length
  | [], _ => by simp [zipD]
  | _ :: _, [] => by simp [zipD]
  | d :: ds, c :: cs => by simp [zipD, zipD_len ds cs]
theorem zipD_get : ∀ {ds cs : List D} {i : Nat} {d : D}, (zipD ds cs)[i]? = some d → ∃ x y, ds[i]? = some x ∧ cs[i]? = some y ∧ d = .tup [x, y]
  | [], _, _, _, h => by simp [zipD] at h
  | _ :: _, [], _, _, h => by simp [zipD] at h
  | x :: ds, y :: cs, 0, d, h => by simp [zipD] at h; exact ⟨x, y, rfl, rfl, h.symm⟩
  | x :: ds, y :: cs, i + 1, d, h => by
    obtain ⟨a, b, h1, h2, h3⟩ := zipD_get (ds := ds) (cs := cs) (i := i) (by simpa [zipD] using h)
    exact ⟨a, b, by simpa using h1, by simpa using h2, h3⟩
end
namespace D
def items : D → Res (List D)
  | .lst xs => .ok xs
  | .tup xs => .ok xs
  | .fz xs => .ok xs
  | .str z => .ok (z.cps.toList.map fun c => .str ⟨#[c]⟩)
  | .tn xs => .ok xs
  | _ => .stuck
def rng1 : List D → Res (List D)
  | [.int j] => if -100000 ≤ j ∧ j ≤ 100000 then .ok ((List.range j.toNat).map fun (k : Nat) => .int (0 + k)) else .stuck
  | _ => .stuck
def rng2 : List D → Res (List D)
  | [.int i, .int j] => if (-100000 ≤ i ∧ i ≤ 100000) ∧ -100000 ≤ j ∧ j ≤ 100000 then .ok ((List.range (j - i).toNat).map fun (k : Nat) => .int (i + k)) else .stuck
  | _ => .stuck
def zip2 : List D → Res (List D)
  | [.lst xs, .lst ys] => .ok (zipD xs ys)
  | [.tup xs, .tup ys] => .ok (zipD xs ys)
  | _ => .stuck
def rev : D → Res (List D)
  | .lst xs => .ok xs.reverse
  | .fz xs => .ok xs.reverse
  | .tup xs => .ok xs.reverse
  | _ => .stuck
end D
def eItems (f : EE) : EL := fun env => (f env).bind D.items
def eRev (f : EE) : EL := fun env => (f env).bind D.rev
/-- a list, a tuple or a text -/
def iAny (K : PySem.W.Frag) (tl : TE) : TI := fun σ H R => tl σ H fun x H1 => (∃ a, x = .ref a ∧ (∃ xs, SqL K H1 a xs) ∧ R (Itl K a) H1) ∨ (∃ a, x = .ref a ∧ (∃ xs, SqT K H1 a xs) ∧ R (Itt K a) H1) ∨ ∃ z, x = .str z ∧ R (Its z) H1
section
variable {X : Cx} {w : Wi} {R : List Nat} {tg e : Expr} {es : List Expr} {f : EE} {g : EL} {p pos : Pos}
theorem pi_any {tl : TE} (hl : PE X e tl) : PI X tg e (iAny X.K tl) := by
  refine ⟨fun pins s σ H R I h => ?_⟩
  refine thn (hl.run pins s σ H _ I h) fun v s1 ⟨x, H1, I1, r1, q1⟩ => ?_
  rcases q1 with ⟨a, e, ⟨xs, hq⟩, q⟩ | ⟨a, e, ⟨xs, hq⟩, q⟩ | ⟨z, e, q⟩
  · subst e
    cases r1
    obtain ⟨its, rv, p, hz⟩ := I1.list hq
    exact wpAny_pyIter_list p.isList (pi_one (tk := s1.toks) I1 _ (turn_list a _) ⟨_, Heap.get?_push_size _ rfl, rfl, rfl⟩ q)
  · subst e
    cases r1
    obtain ⟨its, rv, p, hz⟩ := I1.tuple hq
    exact wpAny_pyIter_tuple (show s1.heap.IsTuple a its.toArray from p) (pi_one (tk := s1.toks) I1 _ (turn_tuple a _) ⟨_, Heap.get?_push_size _ rfl, rfl, rfl⟩ q)
  · subst e
    obtain ⟨t, rfl⟩ := r1
    cases ha : z.cps.all (· < 128)
    · exact wpAny_pyIter_wide ha (pi_one (tk := s1.toks) I1 _ (turn_str _ z t "str_iterator" (.inr rfl)) ⟨_, Heap.get?_push_size _ rfl, rfl, rfl⟩ q)
    · exact wpAny_pyIter_ascii ha (pi_one (tk := s1.toks) I1 _ (turn_str _ z t "str_ascii_iterator" (.inl rfl)) ⟨_, Heap.get?_push_size _ rfl, rfl, rfl⟩ q)
theorem di_any (he : DE X w R e f) : DI X w R tg e (eItems f) := PI.weak (pi_any he) fun σ H Q ⟨S, env, sub, ok, po⟩ =>
  ⟨S, env, sub, ok, Post.bind (Rel2 := Walks X.K) po fun d _ v H1 e1 dv po1 => by
    cases d <;> first | exact po1.elim | skip
    · rw [den_str dv]
      exact .inr (.inr ⟨_, rfl, Post.okay (Rel := Walks X.K) po1 (walks_str _)⟩)
    · obtain ⟨a, xs, rfl, ha, ra⟩ := den_lst dv
      exact .inl ⟨a, rfl, ⟨xs, .of (hid_out ha).2⟩, Post.okay (Rel := Walks X.K) po1 (walks_list (.of ha) ra)⟩
    · obtain ⟨a, xs, rfl, ha, ra⟩ := den_tup dv
      exact .inr (.inl ⟨a, rfl, ⟨xs, ex_t hid_le ha⟩, Post.okay (Rel := Walks X.K) po1 (walks_tup ha ra)⟩)
    · obtain ⟨a, xs, rfl, ha, ra⟩ := den_fz dv
      exact .inl ⟨a, rfl, ⟨xs, ex_l hid_le ha⟩, Post.okay (Rel := Walks X.K) po1 (walks_list ha ra)⟩
    · obtain ⟨a, xs, rfl, ha, ra⟩ := den_tn dv
      exact .inr (.inl ⟨a, rfl, ⟨xs, ex_t hid_le ha⟩, Post.okay (Rel := Walks X.K) po1 (walks_tup ha ra)⟩)⟩
theorem di_range1 (hm : X.mg "range" = none) (ha : DA X w R [e] g) (hg : Gl X "range" := by rfl) (hs : starEach [e] X.env = [(false, eval e X.env)] := by rfl) : DI X w R tg (.Call (.Name "range" p) [e] [] pos) (eCallL g D.rng1) :=
  PI.weak (pi_range1 hg hm ha.pa hs) fun σ H Q ⟨S, env, sub, ok, po⟩ => ⟨S, env, sub, ok, Post.bind (Rel2 := Walks X.K) po fun ds _ vs H1 e1 dv po1 => by
    unfold D.rng1 at po1
    split at po1
    · split at po1
      · rename_i h
        obtain ⟨v, rfl, d1⟩ := ds1 dv
        rw [den_int d1]
        exact ⟨_, rfl, by omega, by omega, Post.okay (Rel := Walks X.K) po1 (walks_range 0 _)⟩
      · exact po1.elim
    · exact po1.elim⟩
theorem di_range2 {e2 : Expr} (hm : X.mg "range" = none) (ha : DA X w R [e, e2] g) (hg : Gl X "range" := by rfl) (hs : starEach [e, e2] X.env = [(false, eval e X.env), (false, eval e2 X.env)] := by rfl) (hs2 : starEach [e2] X.env = [(false, eval e2 X.env)] := by rfl) : DI X w R tg (.Call (.Name "range" p) [e, e2] [] pos) (eCallL g D.rng2) :=
  PI.weak (pi_range2 hg hm ha.pa hs hs2) fun σ H Q ⟨S, env, sub, ok, po⟩ => ⟨S, env, sub, ok, Post.bind (Rel2 := Walks X.K) po fun ds _ vs H1 e1 dv po1 => by
    unfold D.rng2 at po1
    split at po1
    · split at po1
      · rename_i h
        obtain ⟨v, u, rfl, d1, d2⟩ := ds2 dv
        rw [den_int d1, den_int d2]
        exact ⟨_, _, rfl, ⟨by omega, by omega, by omega, by omega⟩, Post.okay (Rel := Walks X.K) po1 (walks_range _ _)⟩
      · exact po1.elim
    · exact po1.elim⟩
end
inductive Tgt where
  | one (i : Nat) | two (i j : Nat) | many (is : List Nat) | nest (i j k : Nat)
def Tgt.slots : Tgt → List Nat
  | .one i => [i]
  | .two i j => [i, j]
  | .many is => is
  | .nest i j k => [i, j, k]
def setAll {α : Type} : List Nat → List α → List (Option α) → List (Option α)
  | i :: is, a :: as, l => setAll is as (l.set i (some a))
  | _, _, l => l
def parts : Tgt → D → Res (List D)
  | .one _, d => .ok [d]
  | .two _ _, .tup [a, b] => .ok [a, b]
  | .many is, .tup ds => if ds.length = is.length then .ok ds else .stuck
  | .nest _ _ _, .tup [a, .tup [b, c]] => .ok [a, b, c]
  | _, _ => .stuck
def gAll : List Nat → TGs
  | [] => gNil
  | i :: is => gCons (gName i) (gAll is)
def gT (K : PySem.W.Frag) : Tgt → TG
  | .one i => gName i
  | .two i j => gTup K 2 (gCons (gName i) (gCons (gName j) gNil))
  | .many is => gTup K is.length (gAll is)
  | .nest i j k => gTup K 2 (gCons (gName i) (gCons (gTup K 2 (gCons (gName j) (gCons (gName k) gNil))) gNil))
section
variable {K : PySem.W.Frag} {tb : List Addr} {S : List Addr} {H : Hp} {R : List Nat} {env : Sl} {σ : L2.St}
theorem gAll_ok : ∀ {is : List Nat} {vs : List V} {σ : L2.St} {H : Hp} {Q : L2.St → Hp → Prop}, vs.length = is.length → Q (setAll is vs σ) H → gAll is vs σ H Q
  | [], [], _, _, _, _, q => ⟨rfl, q⟩
  | i :: is, v :: vs, σ, H, Q, h, q => ⟨v, vs, rfl, gAll_ok (is := is) (vs := vs) (σ := σ.set i (some v)) (by simpa using h) q⟩
theorem gT_ok {tg : Tgt} {v : V} {d : D} {ps : List D} (h : parts tg d = .ok ps) (dv : Den K (hid S H) v d) : ∃ vs, DenL K (hid S H) vs ps ∧ ∀ (σ : L2.St) (Q : L2.St → Hp → Prop), Q (setAll tg.slots vs σ) H → gT K tg v σ H Q := by
  unfold parts at h
  split at h
  · cases h
    exact ⟨[v], .one dv, fun σ Q q => q⟩
  · cases h
    obtain ⟨a, xs, rfl, ha, ra⟩ := den_tup dv
    obtain ⟨u, u', rfl, d1, d2⟩ := ds2 ra
    exact ⟨[u, u'], ra, fun σ Q q => ⟨a, _, rfl, ex_t hid_le ha, rfl, u, [u'], rfl, u', [], rfl, rfl, q⟩⟩
  · split at h
    · rename_i hl
      cases h
      obtain ⟨a, xs, rfl, ha, ra⟩ := den_tup dv
      exact ⟨xs, ra, fun σ Q q => ⟨a, _, rfl, ex_t hid_le ha, by rw [ra.len]; exact hl, gAll_ok (by rw [ra.len]; exact hl) q⟩⟩
    · cases h
  · cases h
    obtain ⟨a, xs, rfl, ha, ra⟩ := den_tup dv
    obtain ⟨u, u', rfl, d1, d2⟩ := ds2 ra
    obtain ⟨a2, xs2, rfl, ha2, ra2⟩ := den_tup d2
    obtain ⟨u2, u2', rfl, d3, d4⟩ := ds2 ra2
    exact ⟨[u, u2, u2'], .cons d1 ra2, fun σ Q q => ⟨a, _, rfl, ex_t hid_le ha, rfl, u, [_], rfl, _, [], rfl, ⟨a2, _, rfl, ex_t hid_le ha2, rfl, u2, [u2'], rfl, u2', [], rfl, rfl, rfl, q⟩⟩⟩
  · cases h
theorem set_ok {i : Nat} {v : V} {d : D} (o : EnvOk K tb R env σ H) (dv : Den K H v d) : EnvOk K tb R (env.set i (some d)) (σ.set i (some v)) H := ⟨by rw [List.length_set, List.length_set]; exact o.len, o.tab, fun j m c hc => by
  by_cases e : i = j
  · subst e
    have hl : i < env.length := by
      have := (List.getElem?_eq_some_iff.mp hc).1
      rwa [List.length_set] at this
    rw [List.getElem?_set_self hl] at hc
    cases hc
    exact ⟨v, List.getElem?_set_self (by rw [← o.len]; exact hl), dv⟩
  · rw [List.getElem?_set_ne e] at hc
    rw [List.getElem?_set_ne e]
    exact o.get j m c hc⟩
theorem setAll_ok : ∀ {is : List Nat} {vs : List V} {ps : List D} {env : Sl} {σ : L2.St}, EnvOk K tb R env σ H → DenL K H vs ps → EnvOk K tb R (setAll is ps env) (setAll is vs σ) H
  | [], _, _, _, _, o, .nil => o
  | [], _, _, _, _, o, .cons _ _ => o
  | _ :: _, _, _, _, _, o, .nil => o
  | i :: is, _ :: vs, _ :: ps, env, σ, o, .cons h r => by
    have q := setAll_ok (is := is) (set_ok (i := i) o h) r
    exact q
def wipeE (env : Sl) : List Nat → Sl
  | [] => env
  | v :: vs => (wipeE env vs).set v none
theorem wipe_ok (o : EnvOk K tb R env σ H) : ∀ vs : List Nat, EnvOk K tb R (wipeE env vs) (wipe σ vs) H
  | [] => o
  | i :: vs => by
    have o := wipe_ok o vs
    refine ⟨by unfold wipeE wipe; rw [List.length_set, List.length_set]; exact o.len, o.tab, fun j m c hc => ?_⟩
    unfold wipeE at hc
    unfold wipe
    by_cases e : i = j
    · subst e
      have hl : i < (wipeE env vs).length := by
        have := (List.getElem?_eq_some_iff.mp hc).1
        rwa [List.length_set] at this
      rw [List.getElem?_set_self hl] at hc
      cases hc
    · rw [List.getElem?_set_ne e] at hc
      rw [List.getElem?_set_ne e]
      exact o.get j m c hc
theorem wipe_set {i : Nat} {x : Option V} : ∀ {vs : List Nat} {σ : L2.St}, i ∈ vs → wipe (σ.set i x) vs = wipe σ vs
  | v :: vs, σ, h => by
    unfold wipe
    by_cases hv : i ∈ vs
    · rw [wipe_set hv]
    · rcases List.mem_cons.mp h with e | e
      · subst e
        have : ∀ (vs : List Nat) (σ : L2.St), i ∉ vs → wipe (σ.set i x) vs = (wipe σ vs).set i x := fun vs => by
          induction vs with
          | nil => intro σ _; rfl
          | cons u us ih =>
            intro σ hn
            unfold wipe
            rw [ih σ (fun m => hn (List.mem_cons_of_mem _ m)), List.set_comm]
            intro e
            exact hn (by rw [e]; exact List.mem_cons_self)
        rw [this vs σ hv, List.set_set]
      · exact absurd e hv
theorem wipe_wipe (σ : L2.St) : ∀ vs us : List Nat, (∀ i ∈ us, i ∈ vs) → wipe (wipe σ us) vs = wipe σ vs
  | vs, [], _ => rfl
  | vs, u :: us, h => by
    rw [show wipe σ (u :: us) = (wipe σ us).set u none from rfl, wipe_set (h u List.mem_cons_self)]
    exact wipe_wipe σ vs us fun i m => h i (List.mem_cons_of_mem _ m)
theorem wipe_setAll : ∀ {is vs : List Nat} {xs : List V} {σ : L2.St}, (∀ i ∈ is, i ∈ vs) → wipe (setAll is xs σ) vs = wipe σ vs
  | [], _, [], _, _ => rfl
  | [], _, _ :: _, _, _ => rfl
  | _ :: _, _, [], _, _ => rfl
  | i :: is, vs, x :: xs, σ, h => by
    show wipe (setAll is xs (σ.set i (some x))) vs = _
    rw [wipe_setAll (fun j m => h j (List.mem_cons_of_mem _ m)), wipe_set (h i List.mem_cons_self)]
end
end Dx
set_option Elab.async false
set_option linter.all false
set_option maxRecDepth 100000
set_option maxHeartbeats 4000000
namespace Dx
open PySem PySem.Spec PyProof.Rows L2
open RZ RT
open D (okd okdA py pyA)
/-- no exception may come -/
def Wi.no (w : Wi) : Wi := ⟨fun _ _ _ => False, w.tb⟩
def noErr {α : Type} : Res α → Res α
  | .err _ => .stuck
  | r => r
@[simp] theorem noErr_ok {α : Type} (a : α) : noErr (.ok a) = .ok a := rfl
def lcGo (tg : Tgt) (t : EB) (f : EE) (base : Sl) : List D → Res (List D)
  | [] => .ok []
  | d :: ds => (parts tg d).bind fun ps => (noErr (t (setAll tg.slots ps base))).bind fun b => if b = true then (noErr (f (setAll tg.slots ps base))).bind fun y => (lcGo tg t f base ds).map (y :: ·) else lcGo tg t f base ds
theorem lcGo_cons (tg : Tgt) (t : EB) (f : EE) (base : Sl) (d : D) (ds : List D) : lcGo tg t f base (d :: ds) = (parts tg d).bind fun ps => (noErr (t (setAll tg.slots ps base))).bind fun b => if b = true then (noErr (f (setAll tg.slots ps base))).bind fun y => (lcGo tg t f base ds).map (y :: ·) else lcGo tg t f base ds := rfl
def eLc (items : EL) (tg : Tgt) (own : List Nat) (t : EB) (f : EE) : EL := fun env => (items env).bind fun ds => lim ds.length (lcGo tg t f (wipeE env own) ds)
def eYes : EB := fun _ => .ok true
theorem map_map {α β γ : Type} (f : α → β) (g : β → γ) (r : Res α) : (r.map f).map g = r.map fun a => g (f a) := by cases r <;> rfl
theorem map_id' {α : Type} {f : α → α} (h : ∀ a, f a = a) (r : Res α) : r.map f = r := by cases r <;> simp [h]
theorem hid_upd {S : List Addr} {H : Hp} {p : Addr} {o : HO} (m : p ∈ S) : hid S (upd H p o) = hid S H := by
  funext a
  unfold hid
  by_cases h : a ∈ S
  · rw [if_pos h, if_pos h]
  · rw [if_neg h, if_neg h, upd_ne (fun e => h (by rw [e]; exact m))]
theorem parts_noerr {tg : Tgt} {d : D} {c : Str} : parts tg d ≠ .err c := by
  intro h
  unfold parts at h
  split at h
  · cases h
  · cases h
  · split at h <;> cases h
  · cases h
  · cases h
section
variable {X : Cx} {w : Wi} {Ri Rt Re : List Nat} {elt tg iter : Expr} {ifs : List Expr} {scope : Scope} {own : List (Str × Nat)} {pos : Pos} {items : EL} {t : EB} {f : EE}
abbrev BT (X : Cx) (w : Wi) (R : List Nat) (ifs : List Expr) (t : EB) : Prop := PTs X ifs (tS isB X.K w R t)
theorem bt_nil : BT X w [] [] eYes := ⟨fun pins s σ H Q I ⟨S, env, sub, ok, po⟩ => pts_nil.run pins s σ H Q I (show tYes σ H Q from Post.okay (Rel := isB) po rfl)⟩
theorem bt_one {c : Expr} (h : DT X w Rt c t) : BT X w Rt [c] t := pts_one h
/-- the reading of the loop -/
theorem lc_core_of {tgt : Tgt} {vs : List Nat} (hs : ∀ i ∈ tgt.slots, i ∈ vs) {σ : L2.St} {H : Hp} {Q : VK} (h : tF X.K w (Ri ++ (Rt ++ Re)) (eLc items tgt vs t f) σ H Q) :
    tLc (tS (Walks X.K) X.K w Ri items) (gT X.K tgt) (tS isB X.K w.no Rt t) (tS (Den X.K) X.K w.no Re f) vs σ H Q := by
  obtain ⟨S, env, sub, ok, po⟩ := h
  refine ⟨S, env, sub, ok.left, PostF.bind po fun ds _ J H1 e1 wk po1 => fun D hD => ?_⟩
  obtain ⟨hz, po1⟩ : ds.length ≤ 100000 ∧ PostF X.K w S σ H1 Q (lcGo tgt t f (wipeE env vs) ds) := by
    unfold lim at po1
    split at po1
    · exact ⟨by assumption, po1⟩
    · exact po1.elim
  have sub1 := sub.mono e1
  have ok1 := (wipe_ok (ok.right.mono (hid_ex e1)) vs)
  obtain ⟨base, hbase⟩ : ∃ b, b = wipeE env vs := ⟨_, rfl⟩
  rw [← hbase] at po1 ok1
  let Iv : Nat → Hp → Prop := fun i H' => Ex H1 H' ∧ i ≤ ds.length ∧ ∃ acc ys, H' D = some (.lst acc) ∧ DenL X.K (hid (D :: S) H') acc ys ∧ ys.length ≤ i ∧ lcGo tgt t f base ds = (lcGo tgt t f base (ds.drop i)).map (ys ++ ·)
  refine ⟨fun i m H' => m = ds.length - i ∧ Iv i H', ⟨ds.length, by simp, Ex.new hD, Nat.zero_le _, [], [], upd_same, .nil, Nat.le_refl _, by rw [List.drop_zero]; exact (map_id' (fun _ => rfl) _).symm⟩, ?_⟩
  rintro i m H' ⟨rfl, e2, hi, acc, ys, hacc, dacc, hys, heq⟩
  have exH : Ex (hid S H1) (hid (D :: S) H') := hid_fresh hD e2
  have subD : Sub (D :: S) H' := fun a m z => by
    rcases List.mem_cons.mp m with q | q
    · rw [q, hacc] at z; cases z
    · exact (sub1.mono e2) a q z
  by_cases hlt : i < ds.length
  · refine .inr ?_
    obtain ⟨d, hd⟩ : ∃ d, ds[i]? = some d := ⟨ds[i], by simp [hlt]⟩
    obtain ⟨hgo, hyld⟩ := (wk i H' (exH.trans hid_le)).2 d hd
    refine ⟨hgo, Iv (i + 1), fun H'' q => ⟨ds.length - (i + 1), by omega, rfl, q⟩, fun x H'' hy => ?_⟩
    obtain ⟨e3, hden⟩ := hyld x H'' hy
    have dx := hden (D :: S) subD exH
    have hdrop : ds.drop i = d :: ds.drop (i + 1) := by
      obtain ⟨hl, he⟩ := List.getElem?_eq_some_iff.mp hd
      rw [← he]
      exact List.drop_eq_getElem_cons hl
    rw [hdrop] at heq
    rw [heq] at po1
    rw [lcGo_cons] at heq po1
    cases hp : parts tgt d with
    | stuck => rw [hp] at po1; exact po1.elim
    | err c => exact absurd hp parts_noerr
    | ok ps =>
      rw [hp] at po1 heq
      obtain ⟨us, dus, hset⟩ := gT_ok (K := X.K) hp dx
      refine hset _ _ ⟨?_, ?_⟩
      · rw [wipe_setAll hs, wipe_wipe σ vs vs fun _ m => m]
      · have ok2 : EnvOk X.K w.tb (Rt ++ Re) (setAll tgt.slots ps base) (setAll tgt.slots us (wipe σ vs)) (hid (D :: S) H'') := setAll_ok (ok1.mono (exH.trans (hid_ex e3))) dus
        refine ⟨D :: S, setAll tgt.slots ps base, subD.mono e3, ok2.left, ?_⟩
        rw [bind_ok] at po1 heq
        cases ht : t (setAll tgt.slots ps base) with
        | stuck => rw [ht] at po1; exact po1.elim
        | err c => rw [ht] at po1; exact po1.elim
        | ok b =>
          rw [ht, noErr_ok, bind_ok] at po1 heq
          intro b' H3 e4 hb
          cases (show b' = b from hb)
          cases b with
          | false =>
            exact ⟨(e2.trans e3).trans e4, hlt, acc, ys, e4 _ _ (e3 _ _ hacc), dacc.mono (hid_ex (e3.trans e4)), by omega, by rw [if_neg Bool.false_ne_true] at heq; exact heq⟩
          | true =>
            refine ⟨D :: S, setAll tgt.slots ps base, (subD.mono e3).mono e4, ok2.right.mono (hid_ex e4), ?_⟩
            rw [if_pos rfl] at po1 heq
            cases hf : f (setAll tgt.slots ps base) with
            | stuck => rw [hf] at po1; exact po1.elim
            | err c => rw [hf] at po1; exact po1.elim
            | ok y =>
              rw [hf] at heq
              intro v H4 e5 dv
              have h4 : H4 D = some (.lst acc) := e5 _ _ (e4 _ _ (e3 _ _ hacc))
              have e6 := ((e2.trans e3).trans e4).trans e5
              refine ⟨acc, h4, Evl.sz_lt (by rw [dacc.len]; omega), Ex.mutd e6 hD, hlt, acc ++ [v], ys ++ [y], upd_same, ?_, by rw [List.length_append]; show ys.length + 1 ≤ i + 1; omega, ?_⟩
              · rw [hid_upd List.mem_cons_self]
                exact (dacc.mono (hid_ex ((e3.trans e4).trans e5))).append (.one dv)
              · rw [heq, noErr_ok, bind_ok, map_map]
                congr 1
                funext l
                rw [List.append_assoc]
                rfl
  · have e : i = ds.length := by omega
    refine .inl ⟨(wk i H' (exH.trans hid_le)).1 (by omega), ?_⟩
    rw [e, List.drop_length] at heq
    rw [heq] at po1
    have q := po1 D acc H' hD e2 hacc
    dsimp only at q
    rw [List.append_nil] at q
    exact q dacc
theorem dl_lc (tgt : Tgt) (hc : X.calm = true) (hN : X.N.Nodup) (hi : DI X w Ri tg iter items) (ok : BlkOk X.N X.env.scope scope own) (hs : ∀ i ∈ tgt.slots, i ∈ own.map (·.2))
    (hg : ∀ (s : Shared) (H : Hp) (C : Addr) (cl : List (Str × Addr)) (fp : List Addr), PG (X.blk s H scope (compEnvC scope cl C X.env) fp) tg (gT X.K tgt))
    (ht : ∀ (s : Shared) (H : Hp) (C : Addr) (cl : List (Str × Addr)) (fp : List Addr), BT (X.blk s H scope (compEnvC scope cl C X.env) fp) w.no Rt ifs t)
    (he : ∀ (s : Shared) (H : Hp) (C : Addr) (cl : List (Str × Addr)) (fp : List Addr), DE (X.blk s H scope (compEnvC scope cl C X.env) fp) w.no Re elt f) (hf : ∀ x, foldedSetIterable iter X.env x = pure x := by intro _; rfl) :
    DL X w (Ri ++ (Rt ++ Re)) (.ListComp elt [⟨tg, iter, ifs, 0⟩] scope pos) (eLc items tgt (own.map (·.2)) t f) :=
  PE.weak (pe_lc hc hN hi ok hg ht he hf) fun _ _ _ h => lc_core_of hs h
theorem pg_one (i : Nat) {x : Str} (hN : X.N.Nodup) (hi : X.N[i]? = some x := by rfl) (hx : Loc X.env.scope x := by first | exact .inl rfl | exact .inr rfl) (hf : X.fn x = true ∨ X.env.scope.names.lookup x = some .local := by first | exact .inl rfl | exact .inr rfl) : PG X (.Name x pos) (gT X.K (.one i)) := pg_name hN hi hx hf
theorem pg_two (i j : Nat) {x y : Str} {p1 p2 : Pos} {k : Nat} (hc : X.calm = true) (hN : X.N.Nodup) (hi : X.N[i]? = some x := by rfl) (hj : X.N[j]? = some y := by rfl) (hx : Loc X.env.scope x := by first | exact .inl rfl | exact .inr rfl) (hy : Loc X.env.scope y := by first | exact .inl rfl | exact .inr rfl)
    (hf : X.fn x = true ∨ X.env.scope.names.lookup x = some .local := by first | exact .inl rfl | exact .inr rfl) (hf' : X.fn y = true ∨ X.env.scope.names.lookup y = some .local := by first | exact .inl rfl | exact .inr rfl) : PG X (.Tuple [.Name x p1, .Name y p2] k pos) (gT X.K (.two i j)) :=
  pg_tup hc (pgs_cons (pg_name hN hi hx hf) (pgs_cons (pg_name hN hj hy hf') pgs_nil))
theorem pg_three (i j k : Nat) {x y z : Str} {px py pz : Pos} {kk : Nat} (hc : X.calm = true) (hN : X.N.Nodup) (hx : X.N[i]? = some x := by rfl) (hy : X.N[j]? = some y := by rfl) (hz : X.N[k]? = some z := by rfl) (lx : Loc X.env.scope x := by first | exact .inl rfl | exact .inr rfl) (ly : Loc X.env.scope y := by first | exact .inl rfl | exact .inr rfl) (lz : Loc X.env.scope z := by first | exact .inl rfl | exact .inr rfl) (fx : X.fn x = true ∨ X.env.scope.names.lookup x = some .local := by first | exact .inl rfl | exact .inr rfl) (fy : X.fn y = true ∨ X.env.scope.names.lookup y = some .local := by first | exact .inl rfl | exact .inr rfl) (fz : X.fn z = true ∨ X.env.scope.names.lookup z = some .local := by first | exact .inl rfl | exact .inr rfl) : PG X (.Tuple [.Name x px, .Name y py, .Name z pz] kk pos) (gT X.K (.many [i, j, k])) := pg_tup hc (pgs_cons (pg_name hN hx lx fx) (pgs_cons (pg_name hN hy ly fy) (pgs_cons (pg_name hN hz lz fz) pgs_nil)))
theorem pg_four (i j k l : Nat) {x y z u : Str} {px py pz pu : Pos} {kk : Nat} (hc : X.calm = true) (hN : X.N.Nodup) (hx : X.N[i]? = some x := by rfl) (hy : X.N[j]? = some y := by rfl) (hz : X.N[k]? = some z := by rfl) (hu : X.N[l]? = some u := by rfl) (lx : Loc X.env.scope x := by first | exact .inl rfl | exact .inr rfl) (ly : Loc X.env.scope y := by first | exact .inl rfl | exact .inr rfl) (lz : Loc X.env.scope z := by first | exact .inl rfl | exact .inr rfl) (lu : Loc X.env.scope u := by first | exact .inl rfl | exact .inr rfl) (fx : X.fn x = true ∨ X.env.scope.names.lookup x = some .local := by first | exact .inl rfl | exact .inr rfl) (fy : X.fn y = true ∨ X.env.scope.names.lookup y = some .local := by first | exact .inl rfl | exact .inr rfl) (fz : X.fn z = true ∨ X.env.scope.names.lookup z = some .local := by first | exact .inl rfl | exact .inr rfl) (fu : X.fn u = true ∨ X.env.scope.names.lookup u = some .local := by first | exact .inl rfl | exact .inr rfl) : PG X (.Tuple [.Name x px, .Name y py, .Name z pz, .Name u pu] kk pos) (gT X.K (.many [i, j, k, l])) := pg_tup hc (pgs_cons (pg_name hN hx lx fx) (pgs_cons (pg_name hN hy ly fy) (pgs_cons (pg_name hN hz lz fz) (pgs_cons (pg_name hN hu lu fu) pgs_nil))))
theorem pg_nest (i j k : Nat) {x y z : Str} {px py pz p2 : Pos} {kk k2 : Nat} (hc : X.calm = true) (hN : X.N.Nodup) (hx : X.N[i]? = some x := by rfl) (hy : X.N[j]? = some y := by rfl) (hz : X.N[k]? = some z := by rfl) (lx : Loc X.env.scope x := by first | exact .inl rfl | exact .inr rfl) (ly : Loc X.env.scope y := by first | exact .inl rfl | exact .inr rfl) (lz : Loc X.env.scope z := by first | exact .inl rfl | exact .inr rfl) (fx : X.fn x = true ∨ X.env.scope.names.lookup x = some .local := by first | exact .inl rfl | exact .inr rfl) (fy : X.fn y = true ∨ X.env.scope.names.lookup y = some .local := by first | exact .inl rfl | exact .inr rfl) (fz : X.fn z = true ∨ X.env.scope.names.lookup z = some .local := by first | exact .inl rfl | exact .inr rfl) : PG X (.Tuple [.Name x px, .Tuple [.Name y py, .Name z pz] k2 p2] kk pos) (gT X.K (.nest i j k)) := pg_tup hc (pgs_cons (pg_name hN hx lx fx) (pgs_cons (pg_tup hc (pgs_cons (pg_name hN hy ly fy) (pgs_cons (pg_name hN hz lz fz) pgs_nil))) pgs_nil))
end
end Dx
set_option Elab.async false
set_option linter.all false
set_option maxRecDepth 100000
set_option maxHeartbeats 4000000
namespace Dx
open PySem PySem.Spec PyProof.Rows L2
open RZ RT
open D (okd okdA py pyA)
/-- the state's data: the slots of O hold lists of the def's own (at P), the rest leans on none of these; Hf: the heap at the entry; S: what the answer must not lean on; B: what stays -/
structure StOk (K : PySem.W.Frag) (tb : List Addr) (Hf : Hp) (S : List Addr) (B : Hp) (O : List Nat) (P : Nat → Addr) (env : Sl) (σ : L2.St) (H : Hp) : Prop where
  len : env.length = σ.length
  exf : Ex Hf H
  sub : Sub S Hf
  bas : Ex B (hid (S ++ O.map P) H)
  tab : ∀ T ∈ tb, GxR.TabG (hid (S ++ O.map P) H) T
  inj : ∀ i ∈ O, ∀ j ∈ O, P i = P j → i = j
  own : ∀ i ∈ O, Hf (P i) = none ∧ ∃ vs ds, σ[i]? = some (some (.ref (P i))) ∧ env[i]? = some (some (.lst ds)) ∧ H (P i) = some (.lst vs) ∧ DenL K (hid (S ++ O.map P) H) vs ds
  oth : ∀ i, i ∉ O → ∀ d, env[i]? = some (some d) → ∃ v, σ[i]? = some (some v) ∧ Den K (hid (S ++ O.map P) H) v d
section
variable {K : PySem.W.Frag} {tb : List Addr} {Hf B B' H H1 : Hp} {S : List Addr} {O O' R : List Nat} {P : Nat → Addr} {env : Sl} {σ : L2.St}
theorem StOk.subT (st : StOk K tb Hf S B O P env σ H) : Sub (S ++ O.map P) H := fun a m z => by
  rcases List.mem_append.mp m with q | q
  · exact (st.sub.mono st.exf) a q z
  · obtain ⟨i, hi, e⟩ := List.mem_map.mp q
    obtain ⟨_, vs, ds, _, _, h, _⟩ := st.own i hi
    rw [e, z] at h; cases h
theorem StOk.rd (st : StOk K tb Hf S B O P env σ H) (h : ∀ i ∈ R, i ∉ O) : EnvOk K tb R env σ (hid (S ++ O.map P) H) := ⟨st.len, st.tab, fun i m d e => st.oth i (h i m) d e⟩
theorem StOk.grow (st : StOk K tb Hf S B O P env σ H) (e : Ex H H1) : StOk K tb Hf S B O P env σ H1 := ⟨st.len, st.exf.trans e, st.sub, st.bas.trans (hid_ex e), fun T m => (hid_ex e).tab (st.tab T m), st.inj, fun i m => by
  obtain ⟨h0, vs, ds, h1, h2, h3, h4⟩ := st.own i m
  exact ⟨h0, vs, ds, h1, h2, e _ _ h3, h4.mono (hid_ex e)⟩, fun i m d h => by
  obtain ⟨v, h1, h2⟩ := st.oth i m d h
  exact ⟨v, h1, h2.mono (hid_ex e)⟩⟩
theorem StOk.rebase (st : StOk K tb Hf S B' O P env σ H) (e : Ex B B') : StOk K tb Hf S B O P env σ H := ⟨st.len, st.exf, st.sub, e.trans st.bas, st.tab, st.inj, st.own, st.oth⟩
theorem StOk.notS (st : StOk K tb Hf S B O P env σ H) {i : Nat} (hi : i ∈ O) : P i ∉ S := fun m => st.sub _ m (st.own i hi).1
theorem StOk.weak (st : StOk K tb Hf S B O P env σ H) (h : ∀ i ∈ O', i ∈ O) : StOk K tb Hf S B O' P env σ H := by
  have hs : ∀ a ∈ S ++ O'.map P, a ∈ S ++ O.map P := fun a m => by
    rcases List.mem_append.mp m with q | q
    · exact List.mem_append_left _ q
    · obtain ⟨i, hi, e⟩ := List.mem_map.mp q
      exact List.mem_append_right _ (List.mem_map.mpr ⟨i, h i hi, e⟩)
  have e : Ex (hid (S ++ O.map P) H) (hid (S ++ O'.map P) H) := hid_sub hs
  refine ⟨st.len, st.exf, st.sub, st.bas.trans e, fun T m => e.tab (st.tab T m), fun i hi j hj => st.inj i (h i hi) j (h j hj), fun i hi => ?_, fun i hi d hd => ?_⟩
  · obtain ⟨h0, vs, ds, h1, h2, h3, h4⟩ := st.own i (h i hi)
    exact ⟨h0, vs, ds, h1, h2, h3, h4.mono e⟩
  · by_cases ho : i ∈ O
    · obtain ⟨h0, vs, ds, h1, h2, h3, h4⟩ := st.own i ho
      rw [h2] at hd
      cases hd
      refine ⟨_, h1, .lst (hid_at (fun m => ?_) h3) (h4.mono e)⟩
      rcases List.mem_append.mp m with q | q
      · exact st.notS ho q
      · obtain ⟨j, hj, e'⟩ := List.mem_map.mp q
        exact hi (st.inj j (h j hj) i ho e' ▸ hj)
    · obtain ⟨v, h1, h2⟩ := st.oth i ho d hd
      exact ⟨v, h1, h2.mono e⟩
theorem StOk.bare (st : StOk K tb Hf S B O P env σ H) : StOk K tb Hf S B [] P env σ H := st.weak fun _ m => nomatch m
/-- everything may be read -/
theorem StOk.all (st : StOk K tb Hf S B O P env σ H) : EnvOk K tb R env σ (hid S H) := by
  have h := (st.bare.rd (R := R) fun _ _ m => nomatch m)
  rw [List.map_nil, List.append_nil] at h
  exact h
theorem StOk.subS (st : StOk K tb Hf S B O P env σ H) : Sub S H := st.sub.mono st.exf
theorem StOk.set (st : StOk K tb Hf S B O P env σ H) {i : Nat} (hi : i ∉ O) {v : V} {d : D} (dv : Den K (hid (S ++ O.map P) H) v d) : StOk K tb Hf S B O P (env.set i (some d)) (σ.set i (some v)) H := by
  refine ⟨by rw [List.length_set, List.length_set]; exact st.len, st.exf, st.sub, st.bas, st.tab, st.inj, fun j hj => ?_, fun j hj c hc => ?_⟩
  · obtain ⟨h0, vs, ds, h1, h2, h3, h4⟩ := st.own j hj
    have ne : i ≠ j := fun e => hi (e ▸ hj)
    exact ⟨h0, vs, ds, by rw [List.getElem?_set_ne ne]; exact h1, by rw [List.getElem?_set_ne ne]; exact h2, h3, h4⟩
  · by_cases e : i = j
    · subst e
      have hl : i < env.length := by
        have := (List.getElem?_eq_some_iff.mp hc).1
        rwa [List.length_set] at this
      rw [List.getElem?_set_self hl] at hc
      cases hc
      exact ⟨v, List.getElem?_set_self (by rw [← st.len]; exact hl), dv⟩
    · rw [List.getElem?_set_ne e] at hc ⊢
      exact st.oth j hj c hc
theorem StOk.setAll : ∀ {is : List Nat} {vs : List V} {ps : List D} {env : Sl} {σ : L2.St}, StOk K tb Hf S B O P env σ H → (∀ i ∈ is, i ∉ O) → DenL K (hid (S ++ O.map P) H) vs ps → StOk K tb Hf S B O P (Dx.setAll is ps env) (Dx.setAll is vs σ) H
  | [], _, _, _, _, st, _, .nil => st
  | [], _, _, _, _, st, _, .cons _ _ => st
  | _ :: _, _, _, _, _, st, _, .nil => st
  | i :: is, _ :: vs, _ :: ps, env, σ, st, h, .cons dv r => by
    have q := StOk.setAll (is := is) (st.set (i := i) (h i List.mem_cons_self) dv) (fun j m => h j (List.mem_cons_of_mem _ m)) r
    exact q
/-- a slot gets a list of the def's own -/
theorem StOk.new (st : StOk K tb Hf S B O P env σ H) {i : Nat} (hi : i ∉ O) (hl : i < env.length) {p : Addr} {vs : List V} {ds : List D} (e : Ex H H1) (hp : H p = none) (h1 : H1 p = some (.lst vs)) (r : DenL K (hid (p :: (S ++ O.map P)) H1) vs ds) :
    StOk K tb Hf S B (i :: O) (fun j => if j = i then p else P j) (env.set i (some (.lst ds))) (σ.set i (some (.ref p))) H1 := by
  have em : O.map (fun j => if j = i then p else P j) = O.map P := List.map_congr_left fun j hj => by
    rw [if_neg]
    intro q
    exact hi (q ▸ hj)
  have mem : ∀ a, a ∈ S ++ (i :: O).map (fun j => if j = i then p else P j) ↔ a ∈ p :: (S ++ O.map P) := fun a => by
    rw [List.map_cons, em, if_pos rfl, List.mem_append, List.mem_cons, List.mem_cons, List.mem_append]
    constructor
    · rintro (h | h | h)
      · exact .inr (.inl h)
      · exact .inl h
      · exact .inr (.inr h)
    · rintro (h | h | h)
      · exact .inr (.inl h)
      · exact .inl h
      · exact .inr (.inr h)
  have he : hid (S ++ (i :: O).map (fun j => if j = i then p else P j)) H1 = hid (p :: (S ++ O.map P)) H1 := by
    funext a
    unfold hid
    by_cases m : a ∈ p :: (S ++ O.map P)
    · rw [if_pos m, if_pos ((mem a).mpr m)]
    · rw [if_neg m, if_neg fun z => m ((mem a).mp z)]
  have ex : Ex (hid (S ++ O.map P) H) (hid (p :: (S ++ O.map P)) H1) := hid_fresh hp e
  have pn : ∀ j ∈ O, P j ≠ p := fun j hj z => by
    obtain ⟨_, vs, ds, _, _, h, _⟩ := st.own j hj
    rw [z, hp] at h; cases h
  refine ⟨by rw [List.length_set, List.length_set]; exact st.len, st.exf.trans e, st.sub, ?_, fun T m => by rw [he]; exact ex.tab (st.tab T m), fun j hj k hk q => ?_, fun j hj => ?_, fun j hj c hc => ?_⟩
  · rw [he]; exact st.bas.trans ex
  · by_cases ej : j = i
    · by_cases ek : k = i
      · rw [ej, ek]
      · rw [if_pos ej, if_neg ek] at q
        rcases List.mem_cons.mp hk with z | z
        · exact absurd z ek
        · exact absurd q.symm (pn k z)
    · rcases List.mem_cons.mp hj with z | z
      · exact absurd z ej
      · by_cases ek : k = i
        · rw [if_neg ej, if_pos ek] at q
          exact absurd q (pn j z)
        · rw [if_neg ej, if_neg ek] at q
          rcases List.mem_cons.mp hk with z' | z'
          · exact absurd z' ek
          · exact st.inj j z k z' q
  · rw [he]
    by_cases ej : j = i
    · subst ej
      rw [if_pos rfl]
      exact ⟨ex_none st.exf hp, vs, ds, List.getElem?_set_self (by rw [← st.len]; exact hl), List.getElem?_set_self hl, h1, r⟩
    · rw [if_neg ej]
      rcases List.mem_cons.mp hj with z | z
      · exact absurd z ej
      · obtain ⟨g0, us, es, g1, g2, g3, g4⟩ := st.own j z
        exact ⟨g0, us, es, by rw [List.getElem?_set_ne (Ne.symm ej)]; exact g1, by rw [List.getElem?_set_ne (Ne.symm ej)]; exact g2, e _ _ g3, g4.mono ex⟩
  · rw [he]
    have ej : i ≠ j := fun z => hj (z ▸ List.mem_cons_self)
    rw [List.getElem?_set_ne ej] at hc ⊢
    obtain ⟨v, g1, g2⟩ := st.oth j (fun m => hj (List.mem_cons_of_mem _ m)) c hc
    exact ⟨v, g1, g2.mono ex⟩
/-- a list of the def's own is changed -/
theorem StOk.upd (st : StOk K tb Hf S B O P env σ H) {i : Nat} (hi : i ∈ O) {vs : List V} {ds : List D} (r : DenL K (hid (S ++ O.map P) H) vs ds) : StOk K tb Hf S B O P (env.set i (some (.lst ds))) σ (L2.upd H (P i) (.lst vs)) := by
  have m : P i ∈ S ++ O.map P := List.mem_append_right _ (List.mem_map.mpr ⟨i, hi, rfl⟩)
  have he := hid_upd (H := H) (o := .lst vs) m
  obtain ⟨f0, us, es, f1, f2, f3, f4⟩ := st.own i hi
  have hl : i < env.length := (List.getElem?_eq_some_iff.mp f2).1
  refine ⟨by rw [List.length_set]; exact st.len, Ex.mutd st.exf f0, st.sub, by rw [he]; exact st.bas, by rw [he]; exact st.tab, st.inj, fun j hj => ?_, fun j hj c hc => ?_⟩
  · rw [he]
    by_cases ej : i = j
    · subst ej
      exact ⟨f0, vs, ds, f1, List.getElem?_set_self hl, upd_same, r⟩
    · obtain ⟨g0, us, es, g1, g2, g3, g4⟩ := st.own j hj
      exact ⟨g0, us, es, g1, by rw [List.getElem?_set_ne ej]; exact g2, by rw [upd_ne fun z => ej (st.inj i hi j hj z.symm)]; exact g3, g4⟩
  · rw [he]
    have ej : i ≠ j := fun z => hj (z ▸ hi)
    rw [List.getElem?_set_ne ej] at hc
    exact st.oth j hj c hc
end
theorem flat_any {K : PySem.W.Frag} {H H' : Hp} {v : V} {d : D} (h : Den K H v d) (f : D.flat d = true) : Den K H' v d := by
  cases h <;> first | exact absurd f Bool.false_ne_true | constructor
inductive Out where
  | nxt (e : Sl) | ret (d : D) | brk (e : Sl) | cnt (e : Sl) | err (c : Str) (e : Sl) | stuck
def PostS (K : PySem.W.Frag) (w : Wi) (Hf : Hp) (S : List Addr) (B : Hp) (fr : Bool) (L O : List Nat) (Dn : Ends) : Out → Prop
  | .nxt e => ∀ P σ H, StOk K w.tb Hf S B O P e σ H → Dn.nx σ H
  | .brk e => ∀ P σ H, StOk K w.tb Hf S B L P e σ H → Dn.bk σ H
  | .cnt e => ∀ P σ H, StOk K w.tb Hf S B L P e σ H → Dn.ct σ H
  | .ret d => ∀ v H1, Ex Hf H1 → RetOk K fr S Hf H1 v d → Dn.rt v H1
  | .err c e => ∀ P σ H, StOk K w.tb Hf S B [] P e σ H → w c σ H
  | .stuck => False
def sS (K : PySem.W.Frag) (w : Wi) (fr : Bool) (L O O' : List Nat) (f : Sl → Out) : TS := fun Dn σ H => ∃ (Hf : Hp) (S : List Addr) (B : Hp) (P : Nat → Addr) (env : Sl), StOk K w.tb Hf S B O P env σ H ∧ PostS K w Hf S B fr L O' Dn (f env)
abbrev DS (X : Cx) (w : Wi) (fr : Bool) (L O O' : List Nat) (st : Stmt) (f : Sl → Out) : Prop := PS X st (sS X.K w fr L O O' f)
abbrev DSs (X : Cx) (w : Wi) (fr : Bool) (L O O' : List Nat) (st : List Stmt) (f : Sl → Out) : Prop := PSs X st (sS X.K w fr L O O' f)
def toOut (env : Sl) : Res Out → Out
  | .ok o => o
  | .err c => .err c env
  | .stuck => .stuck
def sNext : Sl → Out := .nxt
def Out.andThen (o : Out) (g : Sl → Out) : Out := match o with
  | .nxt e => g e
  | o => o
def sSeq (f g : Sl → Out) : Sl → Out := fun env => (f env).andThen g
def sSet (i : Nat) (f : EE) : Sl → Out := fun env => toOut env ((f env).map fun d => .nxt (env.set i (some d)))
def sSetF (i : Nat) (f : EE) : Sl → Out := fun env => toOut env ((f env).bind fun d => if D.flat d = true then .ok (.nxt (env.set i (some d))) else .stuck)
def sOwn (i : Nat) (f : EL) : Sl → Out := fun env => toOut env ((f env).bind fun ds => if i < env.length then .ok (.nxt (env.set i (some (.lst ds)))) else .stuck)
def sRet (f : EE) : Sl → Out := fun env => toOut env ((f env).map .ret)
def sRetL (f : EL) : Sl → Out := fun env => toOut env ((f env).map fun ds => .ret (.lst ds))
def sDrop (f : EE) : Sl → Out := fun env => toOut env ((f env).map fun _ => .nxt env)
def Res.branch (r : Res Bool) (env : Sl) (f g : Sl → Out) : Out := match r with
  | .ok b => if b = true then f env else g env
  | .err c => .err c env
  | .stuck => .stuck
def sIf (t : EB) (f g : Sl → Out) : Sl → Out := fun env => (t env).branch env f g
section
variable {X : Cx} {w : Wi} {fr : Bool} {L O O' O1 O2 R Ra Rb Rc : List Nat} {st : Stmt} {rest sa sb : List Stmt} {a b c e : Expr} {es : List Expr} {f f1 f2 : EE} {fl : EL} {t : EB} {s1 s2 : Sl → Out} {pos pos' : Pos} {i : Nat} {x : Str}
theorem PostS.mono {K : PySem.W.Frag} {Hf B B' : Hp} {S : List Addr} {Dn : Ends} {o : Out} (h : PostS K w Hf S B fr L O Dn o) (e : Ex B B') : PostS K w Hf S B' fr L O Dn o := by
  cases o with
  | nxt _ => exact fun P σ H st => h P σ H (st.rebase e)
  | brk _ => exact fun P σ H st => h P σ H (st.rebase e)
  | cnt _ => exact fun P σ H st => h P σ H (st.rebase e)
  | ret _ => exact h
  | err _ _ => exact fun P σ H st => h P σ H (st.rebase e)
  | stuck => exact h
theorem dss_nil : DSs X w fr L O O [] sNext := PSs.weak pss_nil fun Dn σ H ⟨Hf, S, B, P, env, st, po⟩ => po P σ H st
theorem dss_cons (h1 : DS X w fr L O O1 st s1) (h2 : DSs X w fr L O1 O2 rest s2) : DSs X w fr L O O2 (st :: rest) (sSeq s1 s2) := PSs.weak (pss_cons h1 h2) fun Dn σ H ⟨Hf, S, B, P, env, st, po⟩ => by
  refine ⟨Hf, S, B, P, env, st, ?_⟩
  unfold sSeq Out.andThen at po
  cases q : s1 env with
  | nxt e => rw [q] at po; exact fun P' σ' H' st' => ⟨Hf, S, B, P', e, st', po⟩
  | ret d => rw [q] at po; exact po
  | brk e => rw [q] at po; exact po
  | cnt e => rw [q] at po; exact po
  | err c e => rw [q] at po; exact po
  | stuck => rw [q] at po; exact po
theorem dss_one (h1 : DS X w fr L O O1 st s1) : DSs X w fr L O O1 [st] s1 := pss_one h1
theorem PostS.post {K : PySem.W.Frag} {Hf B : Hp} {S : List Addr} {Dn : Ends} {o : Out} (hO : ∀ j ∈ O', j ∈ O) (h : PostS K w Hf S B fr L O' Dn o) : PostS K w Hf S B fr L O Dn o := by
  cases o with
  | nxt _ => exact fun P σ H st => h P σ H (st.weak hO)
  | _ => exact h
theorem ds_post (hO : ∀ j ∈ O', j ∈ O1) (h : DS X w fr L O O1 st s1) : DS X w fr L O O' st s1 := PS.weak h fun Dn σ H ⟨Hf, S, B, P, env, st, po⟩ => ⟨Hf, S, B, P, env, st, po.post hO⟩
theorem dss_post (hO : ∀ j ∈ O', j ∈ O1) (h : DSs X w fr L O O1 sa s1) : DSs X w fr L O O' sa s1 := PSs.weak h fun Dn σ H ⟨Hf, S, B, P, env, st, po⟩ => ⟨Hf, S, B, P, env, st, po.post hO⟩
/-- an evaluation in such a state, what it reads being none of O -/
theorem eval_at {α β : Type} {Rel : Hp → β → α → Prop} {K : PySem.W.Frag} {g : Sl → Res α} {Hf B : Hp} {S : List Addr} {P : Nat → Addr} {env : Sl} {σ : L2.St} {H : Hp} {Q : β → Hp → Prop} {Dn : Ends} {k : α → Res Out} (hR : ∀ j ∈ R, j ∉ O)
    (st : StOk K w.tb Hf S B O P env σ H) (po : PostS K w Hf S B fr L O' Dn (toOut env ((g env).bind k))) (hk : ∀ a b H1, StOk K w.tb Hf S B O P env σ H1 → Rel (hid (S ++ O.map P) H1) b a → PostS K w Hf S B fr L O' Dn (toOut env (k a)) → Q b H1) : tS Rel K w R g σ H Q := by
  refine ⟨S ++ O.map P, env, st.subT, st.rd hR, ?_⟩
  cases q : g env with
  | ok a => rw [q] at po; exact fun b H1 e r => hk a b H1 (st.grow e) r po
  | err c => rw [q] at po; exact fun H1 e => po P σ H1 (st.grow e).bare
  | stuck => rw [q] at po; exact po
/-- everything may be read, the answer leans on all -/
theorem eval_all {α β : Type} {Rel : Hp → β → α → Prop} {K : PySem.W.Frag} {g : Sl → Res α} {Hf B : Hp} {S : List Addr} {P : Nat → Addr} {env : Sl} {σ : L2.St} {H : Hp} {Q : β → Hp → Prop} {Dn : Ends} {k : α → Res Out}
    (st : StOk K w.tb Hf S B O P env σ H) (po : PostS K w Hf S B fr L O' Dn (toOut env ((g env).bind k))) (hk : ∀ a b H1, Ex H H1 → StOk K w.tb Hf S B O P env σ H1 → Rel (hid S H1) b a → PostS K w Hf S B fr L O' Dn (toOut env (k a)) → Q b H1) : tS Rel K w R g σ H Q := by
  refine ⟨S, env, st.subS, st.all, ?_⟩
  cases q : g env with
  | ok a => rw [q] at po; exact fun b H1 e r => hk a b H1 e (st.grow e) r po
  | err c => rw [q] at po; exact fun H1 e => po P σ H1 (st.grow e).bare
  | stuck => rw [q] at po; exact po
theorem evalF_at {K : PySem.W.Frag} {g : EL} {Hf B : Hp} {S : List Addr} {P : Nat → Addr} {env : Sl} {σ : L2.St} {H : Hp} {Q : VK} {Dn : Ends} {k : List D → Res Out} (hR : ∀ j ∈ R, j ∉ O)
    (st : StOk K w.tb Hf S B O P env σ H) (po : PostS K w Hf S B fr L O' Dn (toOut env ((g env).bind k))) (hk : ∀ ds p vs H1, H p = none → Ex H H1 → H1 p = some (.lst vs) → DenL K (hid (p :: (S ++ O.map P)) H1) vs ds → PostS K w Hf S B fr L O' Dn (toOut env (k ds)) → Q (.ref p) H1) : tF K w R g σ H Q := by
  refine ⟨S ++ O.map P, env, st.subT, st.rd hR, ?_⟩
  cases q : g env with
  | ok a => rw [q] at po; exact fun p vs H1 hp e h1 r => hk a p vs H1 hp e h1 r po
  | err c => rw [q] at po; exact fun H1 e => po P σ H1 (st.grow e).bare
  | stuck => rw [q] at po; exact po
theorem map_bind {α β : Type} (g : α → β) (r : Res α) : r.map g = r.bind fun a => .ok (g a) := by cases r <;> rfl
theorem ds_set (hR : ∀ j ∈ R, j ∉ O) (hi : i ∉ O) (hN : X.N.Nodup) (he : DE X w R e f) (hx : X.N[i]? = some x := by rfl) (hl : Loc X.env.scope x := by first | exact .inl rfl | exact .inr rfl) (hs : swapsWith e (some (.Name x pos')) pos.line X.env = pure false := by rfl) (hf : X.fn x = true ∨ X.env.scope.names.lookup x = some .local := by first | exact .inl rfl | exact .inr rfl) :
    DS X w fr L O O (.Assign [.Name x pos'] e pos) (sSet i f) := PS.weak (ps_set hN hx hl he hs hf) fun Dn σ H ⟨Hf, S, B, P, env, st, po⟩ => by
  unfold sSet at po
  rw [map_bind] at po
  exact eval_at hR st po fun d v H1 st1 dv po1 => po1 _ _ _ (st1.set hi dv)
theorem own_of {σ : L2.St} {H : Hp} {Dn : Ends} (hR : ∀ j ∈ R, j ∉ O) (hi : i ∉ O) (h : sS X.K w fr L O (i :: O) (sOwn i fl) Dn σ H) : tAsg (tF X.K w R fl) (gName i) Dn σ H := by
  obtain ⟨Hf, S, B, P, env, st, po⟩ := h
  unfold sOwn at po
  refine evalF_at hR st po fun ds p vs H1 hp e1 h1 r po1 => ?_
  by_cases hn : i < env.length
  · rw [if_pos hn] at po1
    exact po1 _ _ _ (st.new hi hn e1 hp h1 r)
  · rw [if_neg hn] at po1
    exact po1.elim
theorem ds_own (hR : ∀ j ∈ R, j ∉ O) (hi : i ∉ O) (hN : X.N.Nodup) (he : DL X w R e fl) (hx : X.N[i]? = some x := by rfl) (hl : Loc X.env.scope x := by first | exact .inl rfl | exact .inr rfl) (hs : swapsWith e (some (.Name x pos')) pos.line X.env = pure false := by rfl) (hf : X.fn x = true ∨ X.env.scope.names.lookup x = some .local := by first | exact .inl rfl | exact .inr rfl) :
    DS X w fr L O (i :: O) (.Assign [.Name x pos'] e pos) (sOwn i fl) := PS.weak (ps_set hN hx hl he hs hf) fun Dn σ H h => own_of hR hi h
theorem ds_ownLc {Ri Rt Re : List Nat} {elt tg iter : Expr} {ifs : List Expr} {scope : Scope} {own : List (Str × Nat)} {cpos : Pos} {items : EL} (tgt : Tgt) (hR : ∀ j ∈ Ri ++ (Rt ++ Re), j ∉ O) (hi : i ∉ O) (hc : X.calm = true) (hN : X.N.Nodup) (hit : DI X w Ri tg iter items) (ok : BlkOk X.N X.env.scope scope own) (hs : ∀ i ∈ tgt.slots, i ∈ own.map (·.2))
    (hg : ∀ (s : Shared) (H : Hp) (C : Addr) (cl : List (Str × Addr)) (fp : List Addr), PG (X.blk s H scope (compEnvC scope cl C X.env) fp) tg (gT X.K tgt))
    (ht : ∀ (s : Shared) (H : Hp) (C : Addr) (cl : List (Str × Addr)) (fp : List Addr), BT (X.blk s H scope (compEnvC scope cl C X.env) fp) w.no Rt ifs t)
    (he : ∀ (s : Shared) (H : Hp) (C : Addr) (cl : List (Str × Addr)) (fp : List Addr), DE (X.blk s H scope (compEnvC scope cl C X.env) fp) w.no Re elt f)
    (hy : X.N[i]? = some x := by rfl) (hyl : X.env.scope.names.lookup x = some .local := by rfl) (hsw : swapsWith (.ListComp elt [⟨tg, iter, ifs, 0⟩] scope cpos) (some (.Name x pos')) pos.line X.env = pure true := by exact sw_true rfl rfl rfl (by decide +kernel)) (hf : ∀ x, foldedSetIterable iter X.env x = pure x := by intro _; rfl) :
    DS X w fr L O (i :: O) (.Assign [.Name x pos'] (.ListComp elt [⟨tg, iter, ifs, 0⟩] scope cpos) pos) (sOwn i (eLc items tgt (own.map (·.2)) t f)) := PS.weak (ps_setLc hc hN hy hyl hsw hit ok hg ht he hf) fun Dn σ H h => by
  have q := own_of (R := Ri ++ (Rt ++ Re)) hR hi h
  exact lc_core_of hs q
theorem ds_ret (he : DE X w R e f) : DS X w false L O O' (.Return (some e) pos) (sRet f) := PS.weak (ps_ret he) fun Dn σ H ⟨Hf, S, B, P, env, st, po⟩ => by
  unfold sRet at po
  rw [map_bind] at po
  exact eval_all (Rel := Den X.K) st po fun d v H1 _ st1 dv po1 => po1 v H1 st1.exf dv
theorem ds_retL (he : DL X w R e fl) : DS X w true L O O' (.Return (some e) pos) (sRetL fl) := PS.weak (ps_ret he) fun Dn σ H ⟨Hf, S, B, P, env, st, po⟩ => by
  unfold sRetL at po
  rw [map_bind] at po
  have st := st.bare
  refine evalF_at (R := R) (O := []) (fun _ _ m => List.not_mem_nil m) st po fun ds p vs H1 hp e1 h1 r po1 => ?_
  rw [List.map_nil, List.append_nil] at r
  exact po1 _ H1 (st.exf.trans e1) ⟨p, vs, ds, rfl, rfl, ex_none st.exf hp, h1, r⟩
def sRetV (i : Nat) : Sl → Out := fun env => match env[i]? with
  | some (some d) => .ret d
  | _ => .stuck
theorem ds_drop (he : DE X w R e f) (hs : swapsWith e none pos.line X.env = pure false := by rfl) : DS X w fr L O O (.Expr e pos) (sDrop f) := PS.weak (ps_expr he hs) fun Dn σ H ⟨Hf, S, B, P, env, st, po⟩ => by
  unfold sDrop at po
  rw [map_bind] at po
  exact eval_all (Rel := Den X.K) st po fun d v H1 _ st1 dv po1 => po1 _ _ _ st1
theorem ds_if (hc : DT X w Rc c t) (ha : DSs X w fr L O O' sa s1) (hb : DSs X w fr L O O' sb s2) : DS X w fr L O O' (.If c sa sb pos) (sIf t s1 s2) := PS.weak (ps_if hc ha hb) fun Dn σ H ⟨Hf, S, B, P, env, st, po⟩ => by
  refine ⟨S, env, st.subS, st.all, ?_⟩
  unfold sIf Res.branch at po
  cases q : t env with
  | ok b =>
    rw [q] at po
    intro b' H1 e1 hb'
    cases (show b' = b from hb')
    cases b with
    | true => exact ⟨Hf, S, B, P, env, st.grow e1, po⟩
    | false => exact ⟨Hf, S, B, P, env, st.grow e1, po⟩
  | err c => rw [q] at po; exact fun H1 e1 => po P σ H1 (st.grow e1).bare
  | stuck => rw [q] at po; exact po
def sApp (i : Nat) (f : EE) : Sl → Out := fun env => toOut env ((f env).bind fun d => match env[i]? with
  | some (some (.lst ds)) => lim (ds.length + 1) (.ok (.nxt (env.set i (some (.lst (ds ++ [d]))))))
  | _ => .stuck)
def sAppF (i : Nat) (f : EE) : Sl → Out := fun env => toOut env ((f env).bind fun d => if D.flat d = true then (match env[i]? with
  | some (some (.lst ds)) => lim (ds.length + 1) (.ok (.nxt (env.set i (some (.lst (ds ++ [d]))))))
  | _ => .stuck) else .stuck)
theorem lim_out {n : Nat} {env : Sl} {o : Res Out} {K : PySem.W.Frag} {Hf B : Hp} {S : List Addr} {Dn : Ends} (h : PostS K w Hf S B fr L O Dn (toOut env (lim n o))) : n ≤ 100000 ∧ PostS K w Hf S B fr L O Dn (toOut env o) := by
  unfold lim at h
  split at h
  · exact ⟨by assumption, h⟩
  · exact h.elim
theorem app_of (hi : i ∈ O) {K : PySem.W.Frag} {te : TE} {σ : L2.St} {H : Hp} {Dn : Ends} {Hf B : Hp} {S : List Addr} {P : Nat → Addr} {env : Sl} (st : StOk K w.tb Hf S B O P env σ H)
    (hte : te σ H fun v H1 => ∃ d ds, StOk K w.tb Hf S B O P env σ H1 ∧ Den K (hid (S ++ O.map P) H1) v d ∧ env[i]? = some (some (.lst ds)) ∧ PostS K w Hf S B fr L O Dn (toOut env (lim (ds.length + 1) (.ok (.nxt (env.set i (some (.lst (ds ++ [d]))))))))) (mono : ∀ Q Q' : VK, (∀ v H1, Q v H1 → Q' v H1) → te σ H Q → te σ H Q') :
    tDrop (tBM K "list" rAppend (tVar i) (tCons te tNil)) Dn σ H := by
  obtain ⟨h0, vs, ds0, h1, h2, h3, h4⟩ := st.own i hi
  refine ⟨_, h1, .inl ⟨rfl, vs, .of h3⟩, mono _ _ (fun v H1 q => ?_) hte⟩
  obtain ⟨d, ds, st1, dv, hds, po⟩ := q
  obtain ⟨_, us, es, g1, g2, g3, g4⟩ := st1.own i hi
  rw [hds] at g2
  cases g2
  obtain ⟨hz, po⟩ := lim_out po
  exact ⟨P i, us, v, rfl, rfl, g3, Evl.sz_lt (by rw [g4.len]; omega), po _ _ _ (st1.upd hi (g4.append (.one dv)))⟩
theorem tS_mono {α β : Type} {Rel : Hp → β → α → Prop} {K : PySem.W.Frag} {g : Sl → Res α} {σ : L2.St} {H : Hp} {Q Q' : β → Hp → Prop} (hQ : ∀ b H1, Q b H1 → Q' b H1) (h : tS Rel K w R g σ H Q) : tS Rel K w R g σ H Q' := by
  obtain ⟨S, env, sub, ok, po⟩ := h
  refine ⟨S, env, sub, ok, ?_⟩
  cases q : g env with
  | ok a => rw [q] at po; exact fun b H1 e r => hQ _ _ (po b H1 e r)
  | err c => rw [q] at po; exact po
  | stuck => rw [q] at po; exact po
theorem ds_app (hi : i ∈ O) (hR : ∀ j ∈ R, j ∉ O) {p1 p2 p3 : Pos} (he : DE X w R e f) (hN : X.N[i]? = some x := by rfl) (hv : Vis X.env.scope x := by first | exact Or.inl rfl | exact Or.inr (Or.inl rfl)) (hd : (x == ("__debug__" : Str)) = false := by decide) (hcd : (x == ("__classdict__" : Str)) = false := by decide)
    (hs : swapsWith (.Call (.Attribute (.Name x p1) "append" p2) [e] [] p3) none pos.line X.env = pure false := by rfl) (hst : starEach [e] X.env = (false, eval e X.env) :: starEach [] X.env := by rfl)
    (hfew : ((backTo p3 (starEach [e] X.env)).all (fun x => !x.1) && (backToKw p3 (keywordEach [] X.env)).all (fun x => x.1.isSome) && decide ([e].length + ([] : List Keyword).length + (if ([] : List Keyword).isEmpty then 0 else 1) < 30)) = true := by rfl) (hline : (p2.endLine == p3.line) = true := by rfl)
    (hbase : attributeBase (.Name x p1) "append" X.env (eval (.Name x p1) X.env) = eval (.Name x p1) X.env := by rfl) :
    DS X w fr L O O (.Expr (.Call (.Attribute (.Name x p1) "append" p2) [e] [] p3) pos) (sApp i f) :=
  PS.weak (ps_expr (pe_bm PySem.F.plainAttrs_list PySem.F.slot_list_append PySem.F.type_list_append mt_append (pe_var hN hv hd hcd) (pa_cons he pa_nil hst) hbase hfew hline hst) hs) fun Dn σ H ⟨Hf, S, B, P, env, st, po⟩ => by
    refine app_of (w := w) (fr := fr) (L := L) hi st (eval_at hR st po fun d v H1 st1 dv po1 => ?_) fun Q Q' hQ h => tS_mono hQ h
    obtain ⟨h0, vs, ds, h1, h2, h3, h4⟩ := st.own i hi
    rw [h2] at po1
    exact ⟨d, ds, st1, dv, h2, po1⟩
def sLst (g : List D → List D) (i : Nat) : Sl → Out := fun env => match env[i]? with
  | some (some (.lst ds)) => .nxt (env.set i (some (.lst (g ds))))
  | _ => .stuck
theorem ds_reverse (hi : i ∈ O) {p1 p2 p3 : Pos} (hN : X.N[i]? = some x := by rfl) (hv : Vis X.env.scope x := by first | exact Or.inl rfl | exact Or.inr (Or.inl rfl)) (hd : (x == ("__debug__" : Str)) = false := by decide) (hcd : (x == ("__classdict__" : Str)) = false := by decide)
    (hs : swapsWith (.Call (.Attribute (.Name x p1) "reverse" p2) [] [] p3) none pos.line X.env = pure false := by rfl) (hline : (p2.endLine == p3.line) = true := by rfl) (hbase : attributeBase (.Name x p1) "reverse" X.env (eval (.Name x p1) X.env) = eval (.Name x p1) X.env := by rfl) :
    DS X w fr L O O (.Expr (.Call (.Attribute (.Name x p1) "reverse" p2) [] [] p3) pos) (sLst List.reverse i) :=
  PS.weak (ps_expr (pe_bm0 PySem.F.plainAttrs_list PySem.F.slot_list_reverse PySem.F.type_list_reverse mt_reverse (pe_var hN hv hd hcd) hbase hline) hs) fun Dn σ H ⟨Hf, S, B, P, env, st, po⟩ => by
    obtain ⟨h0, vs, ds, h1, h2, h3, h4⟩ := st.own i hi
    unfold sLst at po
    rw [h2] at po
    exact ⟨_, h1, .inl ⟨rfl, vs, .of h3⟩, P i, vs, rfl, rfl, h3, po _ _ _ (st.upd hi h4.reverse)⟩
end
end Dx
set_option Elab.async false
set_option linter.all false
set_option maxRecDepth 100000
set_option maxHeartbeats 4000000
namespace Dx
open PySem PySem.Spec PyProof.Rows L2
open RZ RT
open D (okd okdA py pyA)
section
variable {X : Cx} {w : Wi} {fr : Bool} {L O O' O1 O2 R Ra Rb Rc Ri : List Nat} {st : Stmt} {body rest sa sb : List Stmt} {a b c e tg iter : Expr} {es : List Expr} {f f1 f2 : EE} {fl items : EL} {t : EB} {s1 s2 sf : Sl → Out} {pos pos' : Pos} {i j : Nat} {x y : Str}
def sAug (i : Nat) (g : D → D → Res D) (f : EE) : Sl → Out := fun env => toOut env (match env[i]? with
  | some (some d) => (f env).bind fun c => (g d c).bind fun r => if D.flat r = true then .ok (.nxt (env.set i (some r))) else .stuck
  | _ => .stuck)
theorem pip_of {op : Operator} {r : R2} (h : OpR X (inplaceOp op) r) : PIp X op r := fun pins s σ H x y v u Q I rx ry q => h pins s σ H x y v u Q I rx ry q
theorem ds_aug {op : Operator} {r : R2} {g : D → D → Res D} (ho : OpR X (inplaceOp op) r) (hr : Op2 X.K w r g) (hi : i ∉ O) (hN : X.N.Nodup) (he : DE X w R e f) (hx : X.N[i]? = some x := by rfl) (hl : Loc X.env.scope x := by first | exact .inl rfl | exact .inr rfl)
    (hf : X.fn x = true ∨ X.env.scope.names.lookup x = some .local := by first | exact .inl rfl | exact .inr rfl) : DS X w fr L O O (.AugAssign (.Name x pos') op e pos) (sAug i g f) :=
  PS.weak (ps_aug hN hx hl he (pip_of ho) hf) fun Dn σ H ⟨Hf, S, B, P, env, st, po⟩ => by
    unfold sAug at po
    split at po
    · rename_i d hd
      obtain ⟨v, hv, dv⟩ := (st.all (R := [i])).get i (List.mem_singleton.mpr rfl) d hd
      refine ⟨v, hv, eval_all (Rel := Den X.K) st po fun c u H1 e1 st1 du po1 => ?_⟩
      refine hr S σ H1 v u d c _ st1.subS (dv.mono (hid_ex e1)) du ?_
      cases q : g d c with
      | ok z =>
        rw [q] at po1
        intro v' H2 e2 dv'
        by_cases hf : D.flat z = true
        · rw [bind_ok, if_pos hf] at po1
          exact po1 _ _ _ ((st1.grow e2).set hi (flat_any dv' hf))
        · rw [bind_ok, if_neg hf] at po1
          exact po1.elim
      | err c => rw [q] at po1; exact fun H2 e2 => po1 P σ H2 (st1.grow e2).bare
      | stuck => rw [q] at po1; exact po1
    · exact po.elim
theorem iop2_add : OpR X (inplaceOp .Add) (fun x y H Q => rI0 (fun i j => .int (i + j)) x y H Q ∨ ∃ i j, x = .str i ∧ y = .str j ∧ i.length + j.length ≤ sizeLine ∧ Q (.str (i ++ j)) H) := iop_add.or iop_add_str
namespace D
def iadd : D → D → Res D
  | .int i, .int j => .ok (.int (i + j))
  | .str x, .str y => lim (x.length + y.length) (.ok (.str (x ++ y)))
  | _, _ => .stuck
end D
theorem op2_iadd {K : PySem.W.Frag} : Op2 K w (fun x y H Q => rI0 (fun i j => .int (i + j)) x y H Q ∨ ∃ i j, x = .str i ∧ y = .str j ∧ i.length + j.length ≤ sizeLine ∧ Q (.str (i ++ j)) H) D.iadd := fun S σ H x y a b Q sub da db po => by
  cases a <;> cases b <;> first | exact po.elim | skip
  · exact .inl ⟨_, _, den_int da, den_int db, Post.okay (Rel := Den K) po (.int _)⟩
  · obtain ⟨h, po⟩ := Post.lim po
    exact .inr ⟨_, _, den_str da, den_str db, h, Post.okay (Rel := Den K) po (.str _)⟩
def sSetI (i : Nat) (fi f : EE) (chk : D → Bool) : Sl → Out := fun env => toOut env ((f env).bind fun d => if chk d = true then (fi env).bind fun k => (match env[i]?, k with
  | some (some (.lst ds)), .int k => (match ixN ds.length k with
    | some j => .ok (.nxt (env.set i (some (.lst (ds.set j d)))))
    | none => .stuck)
  | _, _ => .stuck) else .stuck)
/-- xs[k] = e: e leans on none of one's own lists, or is flat -/
theorem ds_setI {p1 p2 : Pos} {e2 : Expr} {fi : EE} (hi : i ∈ O) (hR : ∀ j ∈ R, j ∉ O) (he : DE X w R e f) (hk : DE X w Rb e2 fi) (hN : X.N[i]? = some x := by rfl) (hv : Vis X.env.scope x := by first | exact Or.inl rfl | exact Or.inr (Or.inl rfl)) (hd : (x == ("__debug__" : Str)) = false := by decide) (hcd : (x == ("__classdict__" : Str)) = false := by decide)
    (hs : swapsWithSole [.Subscript (.Name x p1) e2 p2] e pos.line X.env = pure false := by rfl) (hw : swappedStores [.Subscript (.Name x p1) e2 p2] e X.env = pure none := by rfl)
    (h1 : (assignEach [.Subscript (.Name x p1) e2 p2] X.env).map (·.2) = [assign (.Subscript (.Name x p1) e2 p2) X.env] := by rfl)
    (ha : ∀ v, assign (.Subscript (.Name x p1) e2 p2) X.env v = (do
      let ov ← holding [v] (eval (.Name x p1) X.env)
      let iv ← holding [v, ov] (eval e2 X.env)
      standAt p2
      holding [v, ov, iv] (setItem ov iv v)
      release [v, ov, iv] []) := by intro _; rfl) : DS X w fr L O O (.Assign [.Subscript (.Name x p1) e2 p2] e pos) (sSetI i fi f fun _ => true) :=
  PS.weak (ps_asg he (pg_sub (pe_var hN hv hd hcd) hk set_list ha) hs hw h1) fun Dn σ H ⟨Hf, S, B, P, env, st, po⟩ => by
    unfold sSetI at po
    refine eval_at (Rel := Den X.K) hR st po fun d v H1 st1 dv po1 => ?_
    rw [if_pos rfl] at po1
    obtain ⟨h0, vs, ds, h1, h2, h3, h4⟩ := st1.own i hi
    refine ⟨_, h1, eval_all (Rel := Den X.K) st1 po1 fun k u H2 e2 st2 du po2 => ?_⟩
    rw [h2] at po2
    cases k <;> first | exact po2.elim | skip
    rename_i k
    rw [den_int du]
    obtain ⟨g0, us, es, g1, g2, g3, g4⟩ := st2.own i hi
    rw [h2] at g2
    cases g2
    dsimp only at po2
    split at po2
    · rename_i n hn
      exact ⟨P i, us, k, n, rfl, rfl, g3, by rw [g4.len]; exact hn, po2 _ _ _ (st2.upd hi (g4.set (dv.mono (hid_ex e2)) n))⟩
    · exact po2.elim
def sTgt (tg : Tgt) (f : EE) : Sl → Out := fun env => toOut env ((f env).bind fun d => (parts tg d).map fun ps => .nxt (setAll tg.slots ps env))
theorem ds_tgt {k : Nat} {es : List Expr} (tgt : Tgt) (hR : ∀ j ∈ R, j ∉ O) (hT : ∀ j ∈ tgt.slots, j ∉ O) (he : DE X w R e f) (hg : PG X (.Tuple es k pos') (gT X.K tgt)) (hs : swapsWithSole [.Tuple es k pos'] e pos.line X.env = pure false := by rfl) (hw : swappedStores [.Tuple es k pos'] e X.env = pure none := by rfl)
    (h1 : (assignEach [.Tuple es k pos'] X.env).map (·.2) = [assign (.Tuple es k pos') X.env] := by rfl) : DS X w fr L O O (.Assign [.Tuple es k pos'] e pos) (sTgt tgt f) :=
  PS.weak (ps_asg he hg hs hw h1) fun Dn σ H ⟨Hf, S, B, P, env, st, po⟩ => by
    unfold sTgt at po
    refine eval_at (Rel := Den X.K) hR st po fun d v H1 st1 dv po1 => ?_
    cases hp : parts tgt d with
    | ok ps =>
      rw [hp] at po1
      obtain ⟨us, dus, hset⟩ := gT_ok (K := X.K) hp dv
      exact hset _ _ (po1 _ _ _ (st1.setAll hT dus))
    | err c => exact absurd hp parts_noerr
    | stuck => rw [hp] at po1; exact po1.elim
def Out.loop (o : Out) (k : Sl → Out) : Out := match o with
  | .nxt e => k e
  | .cnt e => k e
  | .brk e => .nxt e
  | .ret d => .ret d
  | .err c e => .err c e
  | .stuck => .stuck
def forGo (tg : Tgt) (s : Sl → Out) : List D → Sl → Out
  | [], env => .nxt env
  | d :: ds, env => match parts tg d with
    | .ok ps => (s (setAll tg.slots ps env)).loop (forGo tg s ds)
    | _ => .stuck
def Res.walk (r : Res (List D)) (env : Sl) (k : List D → Sl → Out) : Out := match r with
  | .ok ds => k ds env
  | .err c => .err c env
  | .stuck => .stuck
def sFor (items : EL) (tg : Tgt) (s : Sl → Out) : Sl → Out := fun env => (items env).walk env (forGo tg s)
theorem ds_for (tgt : Tgt) (hR : ∀ j ∈ Ri, j ∉ O) (hT : ∀ j ∈ tgt.slots, j ∉ O) (hp : PassesOwn (model X.prog X.w) X.A X.env X.xe) (hc : X.calm = true) (hi : DI X w Ri tg iter items) (hg : PG X tg (gT X.K tgt)) (hb : DSs X w fr O O O body sf)
    (hs : ∀ x, foldedSetIterable iter X.env x = pure x := by intro _; rfl) : DS X w fr L O O (.For tg iter body [] pos) (sFor items tgt sf) :=
  PS.weak (ps_for hp hc hi hg hb hs) fun Dn σ H ⟨Hf, S, B, P, env, st, po⟩ => by
    refine ⟨S ++ O.map P, env, st.subT, st.rd hR, ?_⟩
    unfold sFor Res.walk at po
    cases q : items env with
    | err c => rw [q] at po; exact fun H1 e => po P σ H1 (st.grow e).bare
    | stuck => rw [q] at po; exact po
    | ok ds =>
      rw [q] at po
      intro J H1 e1 wk
      have st1 := st.grow e1
      obtain ⟨B', hB'⟩ : ∃ b, b = hid (S ++ O.map P) H1 := ⟨_, rfl⟩
      rw [← hB'] at wk
      have exB : Ex B B' := by rw [hB']; exact st1.bas
      have st1' : StOk X.K w.tb Hf S B' O P env σ H1 := ⟨st1.len, st1.exf, st1.sub, by rw [hB']; exact Ex.refl _, st1.tab, st1.inj, st1.own, st1.oth⟩
      let W : Nat → L2.St → Hp → Prop := fun i σ' H' => i ≤ ds.length ∧ ∃ P' env', StOk X.K w.tb Hf S B' O P' env' σ' H' ∧ PostS X.K w Hf S B fr L O Dn (forGo tgt sf (ds.drop i) env')
      refine ⟨fun i m σ' H' => m = ds.length - i ∧ W i σ' H', ⟨ds.length, by simp, Nat.zero_le _, P, env, st1', by rw [List.drop_zero]; exact po⟩, ?_⟩
      rintro i m σ' H' ⟨rfl, hi, P', env', st', po'⟩
      by_cases hlt : i < ds.length
      · refine .inr ?_
        obtain ⟨d, hd⟩ : ∃ d, ds[i]? = some d := ⟨ds[i], by simp [hlt]⟩
        obtain ⟨hgo, hyld⟩ := (wk i H' (st'.bas.trans hid_le)).2 d hd
        refine ⟨hgo, W (i + 1), fun σ2 H2 q => ⟨ds.length - (i + 1), by omega, rfl, q⟩, fun v H'' hy => ?_⟩
        obtain ⟨e3, hden⟩ := hyld v H'' hy
        have dv := hden _ st'.subT st'.bas
        have hdrop : ds.drop i = d :: ds.drop (i + 1) := by
          obtain ⟨hl, he⟩ := List.getElem?_eq_some_iff.mp hd
          rw [← he]
          exact List.drop_eq_getElem_cons hl
        rw [hdrop] at po'
        unfold forGo Out.loop at po'
        cases hpt : parts tgt d with
        | stuck => rw [hpt] at po'; exact po'.elim
        | err c => exact absurd hpt parts_noerr
        | ok ps =>
          rw [hpt] at po'
          dsimp only at po'
          obtain ⟨us, dus, hset⟩ := gT_ok (K := X.K) hpt dv
          refine hset _ _ ⟨Hf, S, B', P', setAll tgt.slots ps env', (st'.grow e3).setAll hT dus, ?_⟩
          cases hs : sf (setAll tgt.slots ps env') with
          | nxt e =>
            rw [hs] at po'
            exact fun P2 σ2 H2 st2 => ⟨hlt, P2, e, st2, po'⟩
          | cnt e =>
            rw [hs] at po'
            exact fun P2 σ2 H2 st2 => ⟨hlt, P2, e, st2, po'⟩
          | brk e =>
            rw [hs] at po'
            exact fun P2 σ2 H2 st2 => po' P2 σ2 H2 (st2.rebase exB)
          | ret d => rw [hs] at po'; exact po'
          | err c e => rw [hs] at po'; exact fun P2 σ2 H2 st2 => po' P2 σ2 H2 (st2.rebase exB)
          | stuck => rw [hs] at po'; exact po'
      · have e : i = ds.length := by omega
        refine .inl ⟨(wk i H' (st'.bas.trans hid_le)).1 (by omega), ?_⟩
        rw [e, List.drop_length] at po'
        exact po' P' σ' H' (st'.rebase exB)
end
def outRes : Out → Res D
  | .nxt _ => .ok .non
  | .ret d => .ok d
  | .err c _ => .err c
  | _ => .stuck
/-- what a def hands back, by its body's data -/
def fnSem (n : Nat) (s : Sl → Out) : List D → Res D := fun ds => outRes (s (ds.map some ++ List.replicate (n - ds.length) none))
/-- the same of a def that hands back a list of its own -/
def outResL : Out → Res D
  | .ret d => .ok d
  | .err c _ => .err c
  | _ => .stuck
def fnSemL (n : Nat) (s : Sl → Out) : List D → Res D := fun ds => outResL (s (ds.map some ++ List.replicate (n - ds.length) none))
/-- a def's wish about exceptions -/
def wE (mg : Str → Option Value) (tb : List Addr) (E : XK) : Wi := ⟨fun c _ H => ∀ u, mg c = some u → E u none H, tb⟩
theorem takesE {X : Cx} {mg : Str → Option Value} {tb : List Addr} {E : XK} (h : Takes X (fun cls d _ H => E cls d H)) : Takes X (wx mg (wE mg tb E)) := h.imp fun c d σ H ⟨n, hn, hd, hw⟩ => by
  subst hd
  exact hw c hn
theorem takes_w0 {X : Cx} {mg : Str → Option Value} {w : Wi} : Takes X (wx mg w.no) := takes0.imp fun _ _ _ _ ⟨_, _, _, z⟩ => z
section
variable {P : Program} {w : World} {K : PySem.W.Frag} {mg : Str → Option Value} {base : Heap} {tb : List Addr} {n : Nat}
theorem start_get {K : PySem.W.Frag} {H : Hp} {vs : List V} {ds : List D} (r : DenL K H vs ds) (m i : Nat) (d : D) (h : (ds.map some ++ List.replicate (m - ds.length) none)[i]? = some (some d)) : ∃ v, (vs.map some ++ List.replicate (m - vs.length) none)[i]? = some (some v) ∧ Den K H v d := by
  have hl := r.len
  by_cases hi : i < ds.length
  · rw [List.getElem?_append_left (by simpa using hi), List.getElem?_map] at h
    cases q : ds[i]? with
    | none => rw [q] at h; cases h
    | some c =>
      rw [q] at h
      cases h
      obtain ⟨v, hv, dv⟩ := r.get q
      exact ⟨v, by rw [List.getElem?_append_left (by simpa [hl] using hi), List.getElem?_map, hv]; rfl, dv⟩
  · rw [List.getElem?_append_right (by simpa using hi), List.getElem?_replicate] at h
    split at h <;> cases h
/-- a def's promise by its body; its code is told -/
theorem okX {x qual : Str} {pm : Arguments} {bd : List Stmt} {sc : Scope} {f : Addr} {fd : FuncData} {N ps : List Str} {k : Nat} {sp : Sp} (F : FunD K x qual pm bd sc [] [] f fd) (Sc : FnScope N ps sc)
    (len : ∀ (vs : List V) (H : Hp) (Q : VK) (E : XK), sp vs H Q E → vs.length = ps.length)
    (body : ∀ (cdv : Value), fd.code = cdv → ∀ (A : Around) (outer : List Env) (s : Shared) (H : Hp) (vs : List V) (Q : VK) (E : XK), Room k (A.deeper (envOfC qual sc s.heap.objs.size f cdv)) → sp vs H Q E →
      ∃ t, PSs (cxOf (L2.CX P w) P w K mg base N qual sc f cdv A outer s H E) bd t ∧ t { nx := fun _ H' => Q .non H', rt := Q } (start N vs) H) :
    FnOk P w K mg base (L2.CX P w) (k + 1) f fd ps sp := by
  obtain ⟨oc, od, dV, kV, doc, pm, an, cdv, ct, osl, rfl, lk, hcd, _, _⟩ := F.ex
  exact fn_of lk hcd Sc len fun A outer s H vs Q E hr h => body cdv rfl A outer s H vs Q E hr h
/-- a def's code and table -/
def HasTab (base : Heap) (mg : Str → Option Value) (tb : List Addr) (cdv : Value) : Prop := ∃ c T, cdv = .ref c ∧ GxR.TabB base mg c T ∧ T ∈ tb
abbrev BodyOk (P : Program) (w : World) (K : PySem.W.Frag) (mg : Str → Option Value) (base : Heap) (tb : List Addr) (N : List Str) (qual : Str) (sc : Scope) (f : Addr) (fd : FuncData) (k : Nat) (fr : Bool) (O' : List Nat) (bd : List Stmt) (sf : Sl → Out) : Prop :=
  ∀ (cdv : Value), fd.code = cdv → ∀ (A : Around) (outer : List Env) (s : Shared) (H : Hp) (E : XK), Room k (A.deeper (envOfC qual sc s.heap.objs.size f cdv)) →
      N.Nodup → Takes (cxOf (L2.CX P w) P w K mg base N qual sc f cdv A outer s H E) (wx mg (wE mg tb E)) → PassesOwn (model P w) (cxOf (L2.CX P w) P w K mg base N qual sc f cdv A outer s H E).A (cxOf (L2.CX P w) P w K mg base N qual sc f cdv A outer s H E).env (cxOf (L2.CX P w) P w K mg base N qual sc f cdv A outer s H E).xe →
      DSs (cxOf (L2.CX P w) P w K mg base N qual sc f cdv A outer s H E) (wE mg tb E) fr [] [] O' bd sf
theorem fn_ok {x qual : Str} {pm : Arguments} {bd : List Stmt} {sc : Scope} {f : Addr} {fd : FuncData} {N ps : List Str} {k : Nat} {O' : List Nat} {sf : Sl → Out} (F : FunD K x qual pm bd sc [] [] f fd) (Sc : FnScope N ps sc)
    (body : BodyOk P w K mg base tb N qual sc f fd k false O' bd sf) :
    FnOk P w K mg base (L2.CX P w) (k + 1) f fd ps (SpF K mg tb ps.length false (fnSem N.length sf)) := by
  refine okX F Sc (fun vs H Q E h => h.1) fun cdv hcd A outer s H vs Q E hr h => ⟨_, body cdv hcd A outer s H E hr Sc.nd (takesE (takes_of rfl rfl rfl rfl)) (passes_of rfl), ?_⟩
  obtain ⟨hl, S, ds, sub, tabs, dv, po⟩ := h
  refine ⟨H, S, hid S H, fun _ => 0, ds.map some ++ List.replicate (N.length - ds.length) none, ⟨?_, Ex.refl _, sub, ?_, ?_, (fun _ m => nomatch m), (fun _ m => nomatch m), fun i _ d hd => ?_⟩, ?_⟩
  · show _ = (start N vs).length
    unfold L2.start
    simp [dv.len]
  · show Ex (hid S H) (hid (S ++ []) H)
    rw [List.append_nil]
    exact Ex.refl _
  · show ∀ T ∈ tb, GxR.TabG (hid (S ++ []) H) T
    rw [List.append_nil]
    exact tabs
  · show ∃ v, (start N vs)[i]? = some (some v) ∧ Den K (hid (S ++ []) H) v d
    rw [List.append_nil]
    exact start_get dv N.length i d hd
  · unfold fnSem at po
    generalize sf (ds.map some ++ List.replicate (N.length - ds.length) none) = o at po
    cases o with
    | nxt e => exact fun P' σ' H' st => po .non H' st.exf .non
    | ret d => exact po
    | err c e => exact fun P' σ' H' st u hu => po H' u st.exf hu
    | brk e => exact po.elim
    | cnt e => exact po.elim
    | stuck => exact po.elim
theorem fn_okL {x qual : Str} {pm : Arguments} {bd : List Stmt} {sc : Scope} {f : Addr} {fd : FuncData} {N ps : List Str} {k : Nat} {O' : List Nat} {sf : Sl → Out} (F : FunD K x qual pm bd sc [] [] f fd) (Sc : FnScope N ps sc)
    (body : BodyOk P w K mg base tb N qual sc f fd k true O' bd sf) :
    FnOk P w K mg base (L2.CX P w) (k + 1) f fd ps (SpF K mg tb ps.length true (fnSemL N.length sf)) := by
  refine okX F Sc (fun vs H Q E h => h.1) fun cdv hcd A outer s H vs Q E hr h => ⟨_, body cdv hcd A outer s H E hr Sc.nd (takesE (takes_of rfl rfl rfl rfl)) (passes_of rfl), ?_⟩
  obtain ⟨hl, S, ds, sub, tabs, dv, po⟩ := h
  refine ⟨H, S, hid S H, fun _ => 0, ds.map some ++ List.replicate (N.length - ds.length) none, ⟨?_, Ex.refl _, sub, ?_, ?_, (fun _ m => nomatch m), (fun _ m => nomatch m), fun i _ d hd => ?_⟩, ?_⟩
  · show _ = (start N vs).length
    unfold L2.start
    simp [dv.len]
  · show Ex (hid S H) (hid (S ++ []) H)
    rw [List.append_nil]
    exact Ex.refl _
  · show ∀ T ∈ tb, GxR.TabG (hid (S ++ []) H) T
    rw [List.append_nil]
    exact tabs
  · show ∃ v, (start N vs)[i]? = some (some v) ∧ Den K (hid (S ++ []) H) v d
    rw [List.append_nil]
    exact start_get dv N.length i d hd
  · unfold fnSemL at po
    generalize sf (ds.map some ++ List.replicate (N.length - ds.length) none) = o at po
    cases o with
    | nxt e => exact po.elim
    | ret d => exact po
    | err c e => exact fun P' σ' H' st u hu => po H' u st.exf hu
    | brk e => exact po.elim
    | cnt e => exact po.elim
    | stuck => exact po.elim
theorem callee_of {x : Str} {k n : Nat} {fr : Bool} {F : List D → Res D} {f : Addr} {fd : FuncData} {ps : List Str} (G : FnOk P w K mg base (L2.CX P w) k f fd ps (SpF K mg tb n fr F)) (hm : mg x = some (.ref f)) (hk : PySem.W.keepIn K (.ref f) = true) (hb : Binds K fd ps []) : Callee P w K mg base tb x k n fr F := ⟨f, fd, ps, G, hm, hk, hb⟩
end
end Dx
set_option Elab.async false
set_option linter.all false
set_option maxRecDepth 100000
set_option maxHeartbeats 4000000
namespace Dx
open PySem L2
section
variable {i j : Nat} {a b d c : D} {f g h f1 f2 f3 : EE} {t u : EB} {l m : EL} {env e : Sl} {s s1 s2 : Sl → Out} {ds es : List D} {x y : Int} {k : Bool} {z : Str}
@[simp] theorem eVar_ap (h : env[i]? = some (some d)) : eVar i env = .ok d := by unfold eVar; rw [h]
@[simp] theorem eC_ap : eC d env = .ok d := rfl
@[simp] theorem eBin_ap {G : D → D → Res D} : eBin G f1 f2 env = (f1 env).bind fun x => (f2 env).bind fun y => G x y := rfl
@[simp] theorem eUn_ap {G : D → Res D} : eUn G f env = (f env).bind G := rfl
@[simp] theorem eTest_ap : eTest f env = (f env).bind D.isBl := rfl
@[simp] theorem eTruth_ap : eTruth f env = (f env).bind D.truth := rfl
@[simp] theorem eNotB_ap : eNotB t env = (t env).map (!·) := rfl
def andB (r : Res Bool) (q : Unit → Res Bool) : Res Bool := r.bind fun b => if b = true then q () else .ok false
def orB (r : Res Bool) (q : Unit → Res Bool) : Res Bool := r.bind fun b => if b = true then .ok true else q ()
@[simp] theorem eAndB_ap : eAndB t u env = andB (t env) fun _ => u env := rfl
@[simp] theorem eOrB_ap : eOrB t u env = orB (t env) fun _ => u env := rfl
@[simp] theorem andB_t {q : Unit → Res Bool} : andB (.ok true) q = q () := rfl
@[simp] theorem andB_f {q : Unit → Res Bool} : andB (.ok false) q = .ok false := rfl
@[simp] theorem orB_t {q : Unit → Res Bool} : orB (.ok true) q = .ok true := rfl
@[simp] theorem orB_f {q : Unit → Res Bool} : orB (.ok false) q = q () := rfl
def andV (r : Res D) (q : Unit → Res D) : Res D := r.bind fun d => (D.isBl d).bind fun b => if b = true then q () else .ok (.bl false)
def orV (r : Res D) (q : Unit → Res D) : Res D := r.bind fun d => (D.isBl d).bind fun b => if b = true then .ok (.bl true) else q ()
@[simp] theorem eAndV_ap : eAndV f g env = andV (f env) fun _ => g env := rfl
@[simp] theorem eOrV_ap : eOrV f g env = orV (f env) fun _ => g env := rfl
@[simp] theorem andV_t {q : Unit → Res D} : andV (.ok (.bl true)) q = q () := rfl
@[simp] theorem andV_f {q : Unit → Res D} : andV (.ok (.bl false)) q = .ok (.bl false) := rfl
@[simp] theorem orV_t {q : Unit → Res D} : orV (.ok (.bl true)) q = .ok (.bl true) := rfl
@[simp] theorem orV_f {q : Unit → Res D} : orV (.ok (.bl false)) q = q () := rfl
def ifR (r : Res Bool) (p q : Unit → Res D) : Res D := r.bind fun b => if b = true then p () else q ()
@[simp] theorem eIf_ap : eIf t f g env = ifR (t env) (fun _ => f env) (fun _ => g env) := rfl
@[simp] theorem ifR_t {p q : Unit → Res D} : ifR (.ok true) p q = p () := rfl
@[simp] theorem ifR_f {p q : Unit → Res D} : ifR (.ok false) p q = q () := rfl
def chainR (G : D → D → Res D) (r : Res D) (y : D) (q : Unit → Res D) : Res D := r.bind fun z => (D.isBl z).bind fun b => if b = true then (q ()).bind fun u => G y u else .ok (.bl false)
@[simp] theorem eChain_ap {G G' : D → D → Res D} : eChain G G' f1 f2 f3 env = (f1 env).bind fun x => (f2 env).bind fun y => chainR G' (G x y) y fun _ => f3 env := rfl
@[simp] theorem chainR_t {G : D → D → Res D} {q : Unit → Res D} : chainR G (.ok (.bl true)) a q = (q ()).bind fun u => G a u := rfl
@[simp] theorem chainR_f {G : D → D → Res D} {q : Unit → Res D} : chainR G (.ok (.bl false)) a q = .ok (.bl false) := rfl
@[simp] theorem eNil_ap : eNil env = .ok [] := rfl
@[simp] theorem eCons_ap : eCons f l env = (f env).bind fun d => (l env).map (d :: ·) := rfl
@[simp] theorem eTup_ap : eTup l env = (l env).map .tup := rfl
@[simp] theorem eL_ap : eL l env = (l env).map .lst := rfl
@[simp] theorem eCall_ap {F : List D → Res D} : eCall l F env = (l env).bind F := rfl
@[simp] theorem eCallL_ap {F : List D → Res (List D)} : eCallL l F env = (l env).bind F := rfl
@[simp] theorem eItems_ap : eItems f env = (f env).bind D.items := rfl
@[simp] theorem eRev_ap : eRev f env = (f env).bind D.rev := rfl
@[simp] theorem eYes_ap : eYes env = .ok true := rfl
def partI : D → Res (Option Int)
  | .int i => .ok (some i)
  | _ => .stuck
@[simp] theorem partI_int : partI (.int x) = .ok (some x) := rfl
@[simp] theorem ePart_ap : ePart f env = (f env).bind partI := by
  unfold ePart
  congr 1
@[simp] theorem eNoPart_ap : eNoPart env = .ok none := rfl
@[simp] theorem eSl_ap {lo hi : Sl → Res (Option Int)} : eSl f lo hi env = (f env).bind fun d => (lo env).bind fun p => (hi env).bind fun q => D.sl d p q := rfl
@[simp] theorem eSlL_ap {lo hi : Sl → Res (Option Int)} : eSlL f lo hi env = (f env).bind fun d => (lo env).bind fun p => (hi env).bind fun q => D.slL d p q := rfl
@[simp] theorem lim_lt {α : Type} {n : Nat} {r : Res α} (h : n ≤ 100000) : lim n r = r := lim_ok h
theorem eLc_ap {tg : Tgt} {own : List Nat} : eLc l tg own t f env = (l env).bind fun ds => lim ds.length (lcGo tg t f (wipeE env own) ds) := rfl
@[simp] theorem lcGo_nil {tg : Tgt} : lcGo tg t f env [] = .ok [] := rfl
def consR (r : Res Bool) (p : Unit → Res D) (q : Res (List D)) : Res (List D) := (noErr r).bind fun b => if b = true then (noErr (p ())).bind fun y => q.map (y :: ·) else q
theorem lcGo_one : lcGo (.one i) t f env (d :: ds) = consR (t (env.set i (some d))) (fun _ => f (env.set i (some d))) (lcGo (.one i) t f env ds) := rfl
theorem lcGo_two : lcGo (.two i j) t f env (.tup [a, b] :: ds) = consR (t ((env.set i (some a)).set j (some b))) (fun _ => f ((env.set i (some a)).set j (some b))) (lcGo (.two i j) t f env ds) := rfl
@[simp] theorem consR_t {q : Res (List D)} : consR (.ok true) (fun _ => .ok d) q = q.map (d :: ·) := rfl
@[simp] theorem consR_f {p : Unit → Res D} {q : Res (List D)} : consR (.ok false) p q = q := rfl
@[simp] theorem isBl_bl : D.isBl (.bl k) = .ok k := rfl
@[simp] theorem truth_bl : D.truth (.bl k) = .ok k := rfl
@[simp] theorem truth_int : D.truth (.int x) = .ok (x != 0) := rfl
@[simp] theorem truth_non : D.truth .non = .ok false := rfl
@[simp] theorem nt_bl : D.nt (.bl k) = .ok (.bl !k) := rfl
@[simp] theorem add_int : D.add (.int x) (.int y) = .ok (.int (x + y)) := rfl
@[simp] theorem add_str {z' : Str} : D.add (.str z) (.str z') = lim (z.length + z'.length) (.ok (.str (z ++ z'))) := rfl
@[simp] theorem add_lst : D.add (.lst ds) (.lst es) = lim (ds.length + es.length) (.ok (.lst (ds ++ es))) := rfl
@[simp] theorem add_tup : D.add (.tup (d :: ds)) (.tup es) = lim ((d :: ds).length + es.length) (.ok (.tup (d :: ds ++ es))) := rfl
@[simp] theorem sub_int : D.sub (.int x) (.int y) = .ok (.int (x - y)) := rfl
@[simp] theorem neg_int : D.neg (.int x) = .ok (.int (-x)) := rfl
@[simp] theorem iadd_int : D.iadd (.int x) (.int y) = .ok (.int (x + y)) := rfl
@[simp] theorem iadd_str {z' : Str} : D.iadd (.str z) (.str z') = lim (z.length + z'.length) (.ok (.str (z ++ z'))) := rfl
@[simp] theorem mul_l (h : D.fits x = true) : D.mul (.int x) (.int y) = .ok (.int (x * y)) := by simp [D.mul, h]
@[simp] theorem mul_r (h : D.fits y = true) : D.mul (.int x) (.int y) = .ok (.int (x * y)) := by simp [D.mul, h]
theorem fits_of (h1 : -(2 ^ 64) < x) (h2 : x < 2 ^ 64) : D.fits x = true := by simp [D.fits]; omega
@[simp] theorem fdiv_int (h1 : 0 < y) (h2 : y < 1073741824) : D.fdiv (.int x) (.int y) = .ok (.int (x / y)) := by simp [D.fdiv, h1, h2]
@[simp] theorem mod_int (h1 : 0 < y) : D.mod (.int x) (.int y) = .ok (.int (x % y)) := by simp [D.mod, h1]
@[simp] theorem lt_int : D.lt (.int x) (.int y) = .ok (.bl (decide (x < y))) := rfl
@[simp] theorem le_int : D.le (.int x) (.int y) = .ok (.bl (decide (x ≤ y))) := rfl
@[simp] theorem gt_int : D.gt (.int x) (.int y) = .ok (.bl (decide (y < x))) := rfl
@[simp] theorem ge_int : D.ge (.int x) (.int y) = .ok (.bl (decide (y ≤ x))) := rfl
@[simp] theorem len_lst : D.len [.lst ds] = .ok (.int ds.length) := rfl
@[simp] theorem len_tup : D.len [.tup ds] = .ok (.int ds.length) := rfl
@[simp] theorem len_fz : D.len [.fz ds] = .ok (.int ds.length) := rfl
@[simp] theorem len_str : D.len [.str z] = lim z.length (.ok (.int z.length)) := rfl
@[simp] theorem listOf_lst : D.listOf [.lst ds] = .ok ds := rfl
@[simp] theorem listOf_tup : D.listOf [.tup ds] = .ok ds := rfl
@[simp] theorem listOf_fz : D.listOf [.fz ds] = .ok ds := rfl
@[simp] theorem tupOf_lst : D.tupOf [.lst ds] = .ok (.tup ds) := rfl
@[simp] theorem tupOf_tup : D.tupOf [.tup ds] = .ok (.tup ds) := rfl
@[simp] theorem int1_int : D.int1 [.int x] = .ok (.int x) := rfl
@[simp] theorem int1_bl : D.int1 [.bl k] = .ok (.int (if k then 1 else 0)) := rfl
@[simp] theorem abs1_int : D.abs1 [.int x] = .ok (.int (if x < 0 then -x else x)) := rfl
@[simp] theorem min2_int : D.min2 [.int x, .int y] = .ok (.int (if y < x then y else x)) := rfl
@[simp] theorem max2_int : D.max2 [.int x, .int y] = .ok (.int (if y > x then y else x)) := rfl
@[simp] theorem items_lst : D.items (.lst ds) = .ok ds := rfl
@[simp] theorem items_tup : D.items (.tup ds) = .ok ds := rfl
@[simp] theorem items_fz : D.items (.fz ds) = .ok ds := rfl
@[simp] theorem items_str : D.items (.str z) = .ok (z.cps.toList.map fun c => .str ⟨#[c]⟩) := rfl
@[simp] theorem rev_lst : D.rev (.lst ds) = .ok ds.reverse := rfl
@[simp] theorem rev_tup : D.rev (.tup ds) = .ok ds.reverse := rfl
@[simp] theorem zip2_lst : D.zip2 [.lst ds, .lst es] = .ok (zipD ds es) := rfl
@[simp] theorem zip2_tup : D.zip2 [.tup ds, .tup es] = .ok (zipD ds es) := rfl
theorem rng1_ok (h1 : -100000 ≤ x) (h2 : x ≤ 100000) : D.rng1 [.int x] = .ok ((List.range x.toNat).map fun (k : Nat) => .int k) := by simp [D.rng1, h1, h2]
theorem rng1_nat {n : Nat} (h : n ≤ 100000) : D.rng1 [.int n] = .ok ((List.range n).map fun (k : Nat) => .int k) := by rw [rng1_ok (by omega) (by omega)]; simp
@[simp] theorem unl_lst : unl (.lst ds) = .ok ds := rfl
@[simp] theorem parts_one : parts (.one i) d = .ok [d] := rfl
@[simp] theorem parts_two : parts (.two i j) (.tup [a, b]) = .ok [a, b] := rfl
@[simp] theorem flat_int : D.flat (.int x) = true := id rfl
@[simp] theorem flat_bl : D.flat (.bl k) = true := id rfl
@[simp] theorem flat_str : D.flat (.str z) = true := id rfl
@[simp] theorem flat_non : D.flat .non = true := id rfl
@[simp] theorem eq_int (i j : Int) : D.eq (.int i) (.int j) = .ok (.bl (i == j)) := by simp [D.eq, D.okq, D.okd, D.eqv, D.py, PyData.eqv]
@[simp] theorem ne_int (i j : Int) : D.ne (.int i) (.int j) = .ok (.bl (!(i == j))) := by simp [D.ne, D.okq, D.okd, D.eqv, D.py, PyData.eqv]
@[simp] theorem eq_str (i j : Str) : D.eq (.str i) (.str j) = .ok (.bl (i == j)) := by simp [D.eq, D.okq, D.eqv, D.py, PyData.eqv]
@[simp] theorem ne_str (i j : Str) : D.ne (.str i) (.str j) = .ok (.bl (!(i == j))) := by simp [D.ne, D.okq, D.eqv, D.py, PyData.eqv]
theorem eqv_self (h : D.okd 8 d = true) : D.eqv d d = true := PySem.SeqAt.eqv_refl _ (okd_lay 8 d h).1
theorem eq_self (h : D.okd 8 d = true) : D.eq d d = .ok (.bl true) := by
  unfold D.eq D.okq
  rw [h, eqv_self h]
  simp
theorem ne_self (h : D.okd 8 d = true) : D.ne d d = .ok (.bl false) := by
  unfold D.ne D.okq
  rw [h, eqv_self h]
  simp
@[simp] theorem isi_int_int : D.isi [.int x, .raw (.ty "int")] = .ok (.bl true) := rfl
@[simp] theorem isi_int_bool : D.isi [.int x, .raw (.ty "bool")] = .ok (.bl false) := rfl
@[simp] theorem isi_bl_int : D.isi [.bl k, .raw (.ty "int")] = .ok (.bl true) := rfl
@[simp] theorem isi_bl_bool : D.isi [.bl k, .raw (.ty "bool")] = .ok (.bl true) := rfl
@[simp] theorem isi_lst_list : D.isi [.lst ds, .raw (.ty "list")] = .ok (.bl true) := rfl
@[simp] theorem isi_tup_list : D.isi [.tup ds, .raw (.ty "list")] = .ok (.bl false) := rfl
@[simp] theorem isi_tup_tuple : D.isi [.tup ds, .raw (.ty "tuple")] = .ok (.bl true) := rfl
@[simp] theorem isi_lst_tuple : D.isi [.lst ds, .raw (.ty "tuple")] = .ok (.bl false) := rfl
@[simp] theorem isi_str_str : D.isi [.str z, .raw (.ty "str")] = .ok (.bl true) := rfl
@[simp] theorem toOut_ok {o : Out} : toOut env (.ok o) = o := rfl
@[simp] theorem sNext_ap : sNext env = .nxt env := rfl
@[simp] theorem andThen_nxt : (Out.nxt e).andThen s = s e := rfl
@[simp] theorem andThen_ret : (Out.ret d).andThen s = .ret d := rfl
@[simp] theorem andThen_brk : (Out.brk e).andThen s = .brk e := rfl
@[simp] theorem andThen_cnt : (Out.cnt e).andThen s = .cnt e := rfl
@[simp] theorem andThen_err : (Out.err z e).andThen s = .err z e := rfl
@[simp] theorem sSeq_ap : sSeq s1 s2 env = (s1 env).andThen s2 := rfl
@[simp] theorem sSet_ap : sSet i f env = toOut env ((f env).map fun d => .nxt (env.set i (some d))) := rfl
@[simp] theorem sSetF_ap (h : f env = .ok d) (h' : D.flat d = true) : sSetF i f env = .nxt (env.set i (some d)) := by unfold sSetF; rw [h, bind_ok, if_pos h']; rfl
@[simp] theorem sOwn_ap (hi : i < env.length) : sOwn i l env = toOut env ((l env).map fun ds => .nxt (env.set i (some (.lst ds)))) := by
  unfold sOwn
  simp only [hi, if_true]
  rw [map_bind]
@[simp] theorem sRet_ap : sRet f env = toOut env ((f env).map .ret) := rfl
@[simp] theorem sRetL_ap : sRetL l env = toOut env ((l env).map fun ds => .ret (.lst ds)) := rfl
@[simp] theorem sRetV_ap (h : env[i]? = some (some d)) : sRetV i env = .ret d := by unfold sRetV; rw [h]
@[simp] theorem sDrop_ap : sDrop f env = toOut env ((f env).map fun _ => .nxt env) := rfl
@[simp] theorem sIf_ap : sIf t s1 s2 env = (t env).branch env s1 s2 := rfl
@[simp] theorem branch_t : (Res.ok true).branch env s1 s2 = s1 env := rfl
@[simp] theorem branch_f : (Res.ok false).branch env s1 s2 = s2 env := rfl
@[simp] theorem sApp_ap (h : env[i]? = some (some (.lst ds))) (hl : ds.length < 100000) : sApp i f env = toOut env ((f env).map fun d => .nxt (env.set i (some (.lst (ds ++ [d]))))) := by
  unfold sApp
  rw [map_bind]
  congr 1
  congr 1
  funext d
  rw [h]
  exact lim_ok hl
@[simp] theorem sAppF_ap (h : env[i]? = some (some (.lst ds))) (hl : ds.length < 100000) (hf : f env = .ok d) (hd : D.flat d = true) : sAppF i f env = .nxt (env.set i (some (.lst (ds ++ [d])))) := by
  unfold sAppF
  rw [hf, bind_ok, if_pos hd, h]
  simp only [lim_ok (show ds.length + 1 ≤ 100000 from hl)]
  rfl
def augR (i : Nat) (env : Sl) (r : Res D) : Out := toOut env (r.bind fun r => if D.flat r = true then .ok (.nxt (env.set i (some r))) else .stuck)
@[simp] theorem sAug_ap {G : D → D → Res D} (h : env[i]? = some (some a)) : sAug i G f env = augR i env ((f env).bind fun c => G a c) := by
  unfold sAug augR
  rw [h]
  dsimp only
  cases f env <;> rfl
@[simp] theorem augR_ok (h : D.flat d = true) : augR i env (.ok d) = .nxt (env.set i (some d)) := by unfold augR; rw [bind_ok, if_pos h]; rfl
@[simp] theorem sLst_ap {G : List D → List D} (h : env[i]? = some (some (.lst ds))) : sLst G i env = .nxt (env.set i (some (.lst (G ds)))) := by unfold sLst; rw [h]
@[simp] theorem sTgt_ap {tg : Tgt} : sTgt tg f env = toOut env ((f env).bind fun d => (parts tg d).map fun ps => .nxt (setAll tg.slots ps env)) := rfl
@[simp] theorem sFor_ap {tg : Tgt} : sFor l tg s env = (l env).walk env (forGo tg s) := rfl
@[simp] theorem walk_ok {K : List D → Sl → Out} : (Res.ok ds).walk env K = K ds env := rfl
@[simp] theorem forGo_nil {tg : Tgt} : forGo tg s [] env = .nxt env := rfl
theorem forGo_one : forGo (.one i) s (d :: ds) env = (s (env.set i (some d))).loop (forGo (.one i) s ds) := rfl
theorem forGo_two : forGo (.two i j) s (.tup [a, b] :: ds) env = (s ((env.set i (some a)).set j (some b))).loop (forGo (.two i j) s ds) := rfl
@[simp] theorem loop_nxt {K : Sl → Out} : (Out.nxt e).loop K = K e := rfl
@[simp] theorem loop_cnt {K : Sl → Out} : (Out.cnt e).loop K = K e := rfl
@[simp] theorem loop_brk {K : Sl → Out} : (Out.brk e).loop K = .nxt e := rfl
@[simp] theorem loop_ret {K : Sl → Out} : (Out.ret d).loop K = .ret d := rfl
@[simp] theorem outRes_nxt : outRes (.nxt e) = .ok .non := rfl
@[simp] theorem outRes_ret : outRes (.ret d) = .ok d := rfl
@[simp] theorem outRes_err : outRes (.err z e) = .err z := rfl
@[simp] theorem outResL_ret : outResL (.ret d) = .ok d := rfl
@[simp] theorem outResL_err : outResL (.err z e) = .err z := rfl
theorem fnSem_ap {n : Nat} : fnSem n s ds = outRes (s (ds.map some ++ List.replicate (n - ds.length) none)) := rfl
end
def dInts (ns : List Int) : List D := ns.map D.int
@[simp] theorem dInts_len (ns : List Int) : (dInts ns).length = ns.length := by simp [dInts]
@[simp] theorem dInts_nil : dInts [] = [] := rfl
@[simp] theorem dInts_cons (n : Int) (ns : List Int) : dInts (n :: ns) = .int n :: dInts ns := rfl
theorem dInts_append (ns ms : List Int) : dInts (ns ++ ms) = dInts ns ++ dInts ms := by simp [dInts]
theorem atI_dInts {ns : List Int} {k : Nat} (h : k < ns.length) : L2.atI (dInts ns) (k : Int) = some (.int (ns.getD k 0)) := by
  refine L2.atI_nat ?_
  simp [dInts, List.getElem?_map, List.getElem?_eq_getElem h, List.getD_eq_getElem?_getD]
theorem ix_fz {ns : List Int} {k : Nat} (h : k < ns.length) : D.ix (.fz (dInts ns)) (.int (k : Int)) = .ok (.int (ns.getD k 0)) := by
  unfold D.ix
  simp only [atI_dInts h]
end Dx
set_option Elab.async false
set_option linter.all false
set_option maxRecDepth 100000
set_option maxHeartbeats 4000000
namespace Dx
open PySem PySem.Spec PyProof.Rows L2
open RZ RT
def eAllS (pb : Nat → Bool) (f : EE) : EE := fun env => (f env).bind fun d => match d with
  | .str z => .ok (.bl (z.cps.toList.all pb))
  | _ => .stuck
theorem tabbed_ex {P : Addr} {H H' : Hp} (g : GxR.TabG H P) (h : GxR.Tabbed P H H') : Ex H H' := fun a o q => by
  by_cases e : a = P
  · subst e
    obtain ⟨ps, e1, t1⟩ := g
    obtain ⟨ps', e2, t2⟩ := h.1
    rw [e1] at q
    cases q
    exact ⟨ps', e2, fun _ => t2⟩
  · rw [h.2 a e, q]
    exact Keep.same o
section
variable {X : Cx} {w : Wi} {R : List Nat} {iter elt : Expr} {f : EE} {x : Str} {px p pos gpos : Pos} {scope : Scope} {pb : Nat → Bool} {k : Nat}
theorem de_allS (T : HasTab X.base X.mg w.tb X.env.code) (hr : Room k X.A) (hm : X.mg "all" = none) (hi : DE X w R iter f) (S : GxR.GenS X.env scope x) (hel : GxR.EltP X.prog X.w scope x elt pb) (hg : Gl X "all" := by rfl) (hs : ∀ v, genFold iter X.env v = pure v := by intro _; rfl)
    (hst : starEach [.GeneratorExp elt [⟨.Name x px, iter, [], 0⟩] scope gpos] X.env = (false, eval (.GeneratorExp elt [⟨.Name x px, iter, [], 0⟩] scope gpos) X.env) :: starEach [] X.env := by rfl) :
    DE X w R (.Call (.Name "all" p) [.GeneratorExp elt [⟨.Name x px, iter, [], 0⟩] scope gpos] [] pos) (eAllS pb f) := by
  obtain ⟨c, T, hcode, TB, hT⟩ := T
  refine PE.weak (GxR.pe_allS hr hg hm (by decide +kernel) TB hcode S hi hel hs hst) fun σ H Q ⟨S', env, sub, ok, po⟩ => ?_
  refine ⟨S', env, sub, ok, Post.bind (Rel2 := Den X.K) po fun d _ v H1 e1 dv po1 => ?_⟩
  cases d <;> first | exact po1.elim | skip
  have tg := hid_le.tab ((ok.mono (hid_ex e1)).tab T hT)
  exact ⟨_, den_str dv, tg, fun H2 h2 => po1 _ _ (tabbed_ex tg h2) (.bl _)⟩
end
theorem elt_le2 {prog : Program} {w : World} {scope : Scope} {x k1 k2 : Str} {j1 j2 : Nat} {p1 p2 p3 p4 : Pos} (hk : scope.kind = .function) (hl : scope.names.lookup x = some .local) (hd : (x == ("__debug__" : Str)) = false := by decide) :
    GxR.EltP prog w scope x (.Compare (.Constant (.str k1) j1 p1) [.LtE, .LtE] [.Name x p2, .Constant (.str k2) j2 p3] p4) (fun c => !decide ([c] < k1.cps.toList) && !decide (k2.cps.toList < [c])) :=
  fun cenv A' E' c t s₂ m₂ hs hn hm => by
    have hk' : cenv.scope.kind = .function := by rw [hs]; exact hk
    have hl' : cenv.scope.names.lookup x = some .local := by rw [hs]; exact hl
    refine Compare_chain (Calls.Constant_str (chain_link (wpAny_Name (wpAny_loadName_local hk' hl' hn hm (P.le_str (wpAny_truthy_bool ?_))) hd)))
    cases q : !decide ([c] < k1.cps.toList) with
    | false => exact ⟨by show Value.bool false = Value.bool (!decide ([c] < k1.cps.toList) && !decide (k2.cps.toList < [c])); rw [q, Bool.false_and], GxR.keeps_tok s₂ _⟩
    | true => exact chain_last (Calls.Constant_str (P.le_str ⟨by show Value.bool (!decide (k2.cps.toList < [c])) = Value.bool (!decide ([c] < k1.cps.toList) && !decide (k2.cps.toList < [c])); rw [q, Bool.true_and], GxR.keeps_tok s₂ _⟩))
end Dx
set_option Elab.async false
set_option linter.all false
set_option maxRecDepth 100000
set_option maxHeartbeats 4000000
namespace Dx
open PySem PySem.Spec PyProof.Rows L2
open RZ RT
/-- an exception's class of the text, over ValueError -/
structure ExcD (K : PySem.W.Frag) (mg : Str → Option Value) (n : Str) : Prop where
  g : mg n = some (.ref (He.ga K n))
  x : PySem.W.excIn K (He.ga K n) He.veBase "ValueError.__new__" = true
  k : PySem.W.keepIn K (.ref (He.ga K n)) = true
  b : PySem.W.subIn K (.ref (He.ga K n)) (.type "BaseException") = some true
  t : PySem.W.typeIn K (.ref (He.ga K n)) = some (.type "type")
def sRaise (c : Str) : Sl → Out := fun env => .err c env
section
variable {X : Cx} {w : Wi} {fr : Bool} {L O O' : List Nat} {x m : Str} {p p2 pos pos' : Pos} {j : Nat}
theorem ds_raise (F : ExcD X.K X.mg x) (hc : X.calm = true) (tk : Takes X (wx X.mg w)) (hg : Gl X x := by rfl) (hdb : (x == ("__debug__" : Str)) = false := by decide) : DS X w fr L O O' (.Raise (some (.Call (.Name x p) [.Constant (.str m) j p2] [] pos)) none pos') (sRaise x) :=
  PS.weak (ps_raise hc tk (pmk_own PySem.F.excBase_ValueError F.x F.g F.k (raises_own F.b F.t) hg (hdb := hdb))) fun Dn σ H ⟨Hf, S, B, P, env, st, po⟩ => ⟨x, F.g, rfl, po P σ H st.bare⟩
end
section
variable {X : Cx} {CX : CXT} {k : Nat} {f C : Addr} {fd : FuncData} {ps : List Str} {sp : Sp} {E : L2.St → XK} {x m : Str} {p pos apos : Pos} {e o : Expr} {es : List Expr} {ta : TE} {t : TA} {pl : Sem Bool} {σ : L2.St}
theorem run_makeS {pins : List (Addr × Obj)} {H : Hp} {s : Shared} {Q : VK} {us : List Value} {vs : List V} {E : XK} (M : Mk X.K C f) (F : FnOk X.prog X.w X.K X.mg X.base CX k f fd ps sp) (hr : Room (k + 1) X.A) (hb : Binds X.K fd ps []) (hx : PassesAt CX X σ E) (I : L2.Inv X pins σ H s) (r : Vals vs us)
    (h : ∀ x dx, H x = none → H dx = none → dx ≠ x → sp (.ref x :: vs) (upd (upd H dx (.own x)) x (.ins C dx [])) (fun v H2 => v = .non ∧ Q (.ref x) H2) E) :
    wpAny (model X.prog X.w) X.A (call (.ref C) us) (EP X pins σ Q) X.xe s := by
  have hq := h (s.heap.objs.size + 1) s.heap.objs.size (I.hok.fresh (Nat.le_succ _)) (I.hok.fresh (Nat.le_refl _)) (Nat.ne_of_lt (Nat.lt_succ_self _))
  have I2 := I.made (C := C)
  have r2 : Vals (.ref (s.heap.objs.size + 1) :: vs) (.ref (s.heap.objs.size + 1) :: us) := .cons (show L2.RelV (.ref _) (.ref _) from rfl) r
  have hl : (Value.ref (s.heap.objs.size + 1) :: us).length = ps.length := by rw [← Vals.length r2]; exact F.len _ _ _ _ hq
  have hb2 := hb _ (.ref (s.heap.objs.size + 1) :: us) I2.kIn (by rw [List.append_nil]; exact hl)
  rw [List.append_nil] at hb2
  refine wpAny_call (make_map I.kIn M.makes M.init (beq_iff_eq.mp M.fn) (codeAny_mono (F.run _ X.stack _ _ _ _ _ _ _ (hr.make C us []) (I2.env0.make C us []) hb2 r2 hq) fun r s' hq' => ?_))
  cases r with
  | error e => exact hx _ _ _ e s' I2 hq'
  | ok fl =>
    cases fl with
    | ret u =>
      obtain ⟨v, H', I3, rv, ev, q3⟩ := I2.after hq'
      subst ev
      exact ⟨rv, .ref (s.heap.objs.size + 1), H', I3, rfl, q3⟩
    | _ => exact hq'.elim
theorem pe_makeS (M : Mk X.K C f) (F : FnOk X.prog X.w X.K X.mg X.base CX k f fd ps sp) (hr : Room (k + 1) X.A) (hg : Gl X x) (hm : X.mg x = some (.ref C)) (hb : Binds X.K fd ps []) (hx : ∀ σ, PassesAt CX X σ (E σ)) (ha : PA X (e :: es) t) (hdb : (x == ("__debug__" : Str)) = false := by decide)
    (he : starEach (e :: es) X.env = (false, eval e X.env) :: starEach es X.env := by rfl) (hpl : (backTo pos (starEach es X.env)).any (·.1) = false := by rfl) :
    PE X (.Call (.Name x p) (e :: es) [] pos) (fun σ H Q => t σ H fun vs H1 => ∀ x dx, H1 x = none → H1 dx = none → dx ≠ x → sp (.ref x :: vs) (upd (upd H1 dx (.own x)) x (.ins C dx [])) (fun v H2 => v = .non ∧ Q (.ref x) H2) (E σ)) :=
  ⟨fun pins s σ H Q I h => wpAny_Call_Name_kw (ld_glob I hg hm (PySem.W.callWith_K I.ok.mod.kin M.kp (thn (ha.run pos pins s σ H _ I h) fun us s1 ⟨vs, H1, I1, r, q⟩ => ⟨I1.kIn, run_makeS M F hr hb (hx σ) I1 r q⟩) he hpl) hdb)⟩
theorem pe_methS (he : PE X o ta) (c : Cls X.K C) (hm : Meth X.K C m f) (F : FnOk X.prog X.w X.K X.mg X.base CX k f fd ps sp) (hr : Room k X.A) (hb : Binds X.K fd ps []) (hx : ∀ σ, PassesAt CX X σ (E σ)) (ha : PA X (e :: es) t)
    (hst : starEach (e :: es) X.env = (false, eval e X.env) :: starEach es X.env := by rfl) (hpl : (backTo pos (starEach es X.env)).any (·.1) = false := by rfl)
    (ht : eval (.Call (.Attribute o m apos) (e :: es) [] pos) X.env = (do
      let ov ← eval o X.env
      standAt apos.atName
      let (f, first) ← holding [ov] (getMethod ov m pl)
      callWith pos f first (backTo pos (starEach (e :: es) X.env)) (backToKw pos (keywordEach [] X.env))) := by rfl) :
    PE X (.Call (.Attribute o m apos) (e :: es) [] pos) (fun σ H Q => ta σ H fun x H1 => ∃ a dx fs, x = .ref a ∧ H1 a = some (.ins C dx fs) ∧ fs.lookup m = none ∧ t σ H1 fun vs H2 => sp (x :: vs) H2 Q (E σ)) :=
  ⟨fun pins s σ H Q I h => PySem.W.methodCall_KW (thn (he.run pins s σ H _ I h) fun u s1 ⟨x, H1, I1, rx, a, dx, fs, ex, ea, l, q⟩ => by
    subst ex
    cases rx
    exact getmeth_ok I1 ea c hm l (PySem.W.callWith_K I.ok.mod.kin hm.kp (thn (ha.run pos pins s1 σ H1 _ I1 q) fun us s2 ⟨vs, H2, I2, r, q2⟩ => ⟨I2.kIn, run_fnS F hr hb (hx σ) I2 (.cons (show L2.RelV (.ref a) (.ref a) from rfl) r) q2⟩) hst hpl)) ht⟩
end
end Dx
set_option Elab.async false
set_option linter.all false
set_option maxRecDepth 100000
set_option maxHeartbeats 4000000
namespace Dx
open PySem PySem.Spec PyProof.Rows L2
open RZ RT
/-- what is new in a later heap -/
def nw (H H1 : Hp) : Hp := fun b => if H b = none then H1 b else none
section
variable {K : PySem.W.Frag} {H H1 H2 H3 : Hp} {S : List Addr}
theorem nw_at {b : Addr} {o : HO} (n : H b = none) (h : H1 b = some o) : nw H H1 b = some o := by unfold nw; rw [if_pos n]; exact h
theorem nw_out {b : Addr} {o : HO} (h : nw H H1 b = some o) : H b = none ∧ H1 b = some o := by
  unfold nw at h
  split at h
  · exact ⟨by assumption, h⟩
  · cases h
theorem nw_hid (s : Sub S H) : Ex (nw H H1) (hid S H1) := fun b o h => by
  obtain ⟨n, h⟩ := nw_out h
  rw [hid_at (s.new n) h]; exact Keep.same o
/-- seen from an earlier heap, by a later one -/
theorem nw_ex (e : Ex H H1) (e2 : Ex H2 H3) : Ex (nw H1 H2) (nw H H3) := fun b o h => by
  obtain ⟨n, h⟩ := nw_out h
  have n' := ex_none e n
  show Keep o (if H b = none then H3 b else none)
  rw [if_pos n']
  exact e2 b o h
theorem flatL_any {H H' : Hp} : ∀ {vs : List V} {ds : List D}, DenL K H vs ds → ds.all D.flat = true → DenL K H' vs ds
  | _, _, .nil, _ => .nil
  | _, _, .cons h r, f => by
    rw [List.all_cons, Bool.and_eq_true] at f
    exact .cons (flat_any h f.1) (flatL_any r f.2)
theorem ex_hid0 : Ex H (hid [] H) := fun a o h => by rw [hid_at (List.not_mem_nil) h]; exact Keep.same o
theorem DenF.lookN : ∀ {fs : List (Str × V)} {gs : List (Str × D)} {f : Str}, DenF K H fs gs → gs.lookup f = none → fs.lookup f = none
  | _, _, f, .nil, e => rfl
  | _, _, f, .cons (f := g) h r, e => by
    rw [List.lookup_cons] at e ⊢
    cases q : f == g with
    | true => rw [q] at e; cases e
    | false => rw [q] at e; exact DenF.lookN r e
end
/-- the promise of a class's __init__ -/
def SpI (K : PySem.W.Frag) (mg : Str → Option Value) (tb : List Addr) (n : Nat) (c : Str) (F : List D → Res (List (Str × D))) : Sp := fun vs H Q E =>
  ∃ (a dx : Addr) (us : List V) (S : List Addr) (ds : List D), vs = .ref a :: us ∧ us.length = n ∧ H a = some (.ins (He.ga K c) dx []) ∧ Sub S H ∧ (∀ T ∈ tb, GxR.TabG (hid (a :: S) H) T) ∧ DenL K (hid (a :: S) H) us ds ∧
  match F ds with
  | .ok gs => ∀ H1 fs, Ex (hid [a] H) (hid [a] H1) → H1 a = some (.ins (He.ga K c) dx fs) → DenF K (nw H H1) fs gs → Q .non H1
  | .err e => ∀ H1 u, Ex (hid [a] H) (hid [a] H1) → mg e = some u → E u none H1
  | .stuck => False
structure Maker (P : Program) (w : World) (K : PySem.W.Frag) (mg : Str → Option Value) (base : Heap) (tb : List Addr) (c : Str) (k n : Nat) (F : List D → Res (List (Str × D))) : Prop where
  g : mg c = some (.ref (He.ga K c))
  ex : ∃ (f : Addr) (fd : FuncData) (ps : List Str), FnOk P w K mg base (L2.CX P w) k f fd ps (SpI K mg tb n c F) ∧ Mk K (He.ga K c) f ∧ Binds K fd ps []
structure MCallee (P : Program) (w : World) (K : PySem.W.Frag) (mg : Str → Option Value) (base : Heap) (tb : List Addr) (c m : Str) (k n : Nat) (fr : Bool) (F : List D → Res D) : Prop where
  cl : Cls K (He.ga K c)
  ex : ∃ (f : Addr) (fd : FuncData) (ps : List Str), FnOk P w K mg base (L2.CX P w) k f fd ps (SpF K mg tb n fr F) ∧ Meth K (He.ga K c) m f ∧ Binds K fd ps []
def eMake (c : Str) (g : EL) (F : List D → Res (List (Str × D))) : EE := fun env => (g env).bind fun ds => (F ds).map (.obj c)
def eMeth (c m : Str) (f : EE) (g : EL) (F : List D → Res D) : EE := fun env => (f env).bind fun d => match d with
  | .obj c' gs => if c' = c ∧ gs.lookup m = none then (g env).bind fun ds => F (.obj c' gs :: ds) else .stuck
  | _ => .stuck
/-- an evaluation whose value leans on new objects alone -/
def PostN (K : PySem.W.Frag) (w : Wi) (σ : L2.St) (H : Hp) (Q : VK) : Res D → Prop
  | .ok d => ∀ v H1, Ex H H1 → Den K (nw H H1) v d → Q v H1
  | .err c => ∀ H1, Ex H H1 → w c σ H1
  | .stuck => False
def tN (K : PySem.W.Frag) (w : Wi) (R : List Nat) (f : EE) : TE := fun σ H Q => ∃ (S : List Addr) (env : Sl), Sub S H ∧ EnvOk K w.tb R env σ (hid S H) ∧ PostN K w σ H Q (f env)
abbrev DN (X : Cx) (w : Wi) (R : List Nat) (e : Expr) (f : EE) : Prop := PE X e (tN X.K w R f)
section
variable {X : Cx} {w : Wi} {R Ra Rb : List Nat} {e o : Expr} {es : List Expr} {g : EL} {fo : EE} {F : List D → Res (List (Str × D))} {G : List D → Res D} {x c m : Str} {p pos apos : Pos} {k j n : Nat} {pl : Sem Bool}
theorem DN.de {f : EE} (h : DN X w R e f) : DE X w R e f := PE.weak h fun σ H Q ⟨S, env, sub, ok, po⟩ => ⟨S, env, sub, ok, by
  cases q : f env with
  | ok d => rw [q] at po; exact fun v H1 e1 dv => po v H1 e1 (dv.mono (nw_hid sub))
  | err c => rw [q] at po; exact po
  | stuck => rw [q] at po; exact po⟩
theorem PostN.mono {K : PySem.W.Frag} {σ : L2.St} {H H1 : Hp} {Q : VK} {r : Res D} (h : PostN K w σ H Q r) (e : Ex H H1) : PostN K w σ H1 Q r := by
  cases r with
  | ok a => exact fun v H2 e2 r => h v H2 (e.trans e2) (r.mono (nw_ex e (Ex.refl _)))
  | err c => exact fun H2 e2 => h H2 (e.trans e2)
  | stuck => exact h
theorem PostN.bind {K : PySem.W.Frag} {S : List Addr} {σ : L2.St} {H : Hp} {Q : VK} {α β : Type} {Rel : Hp → β → α → Prop} {Q' : β → Hp → Prop} {r : Res α} {k : α → Res D} (h : PostN K w σ H Q (r.bind k)) (hk : ∀ a, r = .ok a → ∀ b H1, Ex H H1 → Rel (hid S H1) b a → PostN K w σ H1 Q (k a) → Q' b H1) : Post Rel w S σ H Q' r := by
  cases r with
  | ok a => exact fun b H1 e r => hk a rfl b H1 e r (PostN.mono (r := k a) h e)
  | err c => exact h
  | stuck => exact h
theorem dn_make (C : Maker X.prog X.w X.K X.mg X.base w.tb x k n F) (hr : Room j X.A) (tk : Takes X (wx X.mg w)) (ha : DA X w R (e :: es) g) (hk : k + 1 ≤ j := by decide) (hg : Gl X x := by rfl) (hdb : (x == ("__debug__" : Str)) = false := by decide)
    (he : starEach (e :: es) X.env = (false, eval e X.env) :: starEach es X.env := by rfl) (hpl : (backTo pos (starEach es X.env)).any (·.1) = false := by rfl) (hn : (e :: es).length = n := by rfl) : DN X w R (.Call (.Name x p) (e :: es) [] pos) (eMake x g F) := by
  obtain ⟨f, fd, ps, G, M, hb⟩ := C.ex
  refine PE.weak (pe_makeS M G (hr.mono hk) hg C.g hb (fun σ => passAt tk σ) ha.pa hdb he hpl) fun σ H Q ⟨S, env, sub, ok, po⟩ => ?_
  refine ⟨S, env, sub, ok, PostN.bind po fun ds hd vs H1 e1 dv po1 => fun a dx ha' hdx ne => ?_⟩
  have s1 := sub.mono e1
  have eH : Ex H1 (upd (upd H1 dx (.own a)) a (.ins (He.ga X.K x) dx [])) := Ex.mutd (Ex.new hdx) ha'
  have eh : Ex (hid S H1) (hid (a :: S) (upd (upd H1 dx (.own a)) a (.ins (He.ga X.K x) dx []))) := hid_fresh ha' eH
  have eh0 : Ex H1 (hid [a] (upd (upd H1 dx (.own a)) a (.ins (He.ga X.K x) dx []))) := ex_hid0.trans (hid_fresh ha' eH)
  refine ⟨a, dx, vs, S, ds, rfl, by rw [dv.len, ha.len env ds hd]; exact hn, upd_same, s1.mono eH, fun T m => eh.tab ((ok.mono (hid_ex e1)).tab T m), dv.mono eh, ?_⟩
  cases q : F ds with
  | ok gs =>
    rw [q] at po1
    intro H2 fs e2 h2 r2
    exact ⟨rfl, po1 _ _ ((eh0.trans e2).trans hid_le) (.obj (nw_at ha' h2) (r2.mono (nw_ex eH (Ex.refl _))))⟩
  | err c => rw [q] at po1; exact fun H2 u e2 hu => ⟨c, hu, rfl, po1 H2 ((eh0.trans e2).trans hid_le)⟩
  | stuck => rw [q] at po1; exact po1
theorem de_meth (C : MCallee X.prog X.w X.K X.mg X.base w.tb c m k n false G) (hr : Room j X.A) (tk : Takes X (wx X.mg w)) (ho : DE X w Ra o fo) (ha : DA X w Rb (e :: es) g) (hk : k ≤ j := by decide)
    (hst : starEach (e :: es) X.env = (false, eval e X.env) :: starEach es X.env := by rfl) (hpl : (backTo pos (starEach es X.env)).any (·.1) = false := by rfl)
    (ht : eval (.Call (.Attribute o m apos) (e :: es) [] pos) X.env = (do
      let ov ← eval o X.env
      standAt apos.atName
      let (f, first) ← holding [ov] (getMethod ov m pl)
      callWith pos f first (backTo pos (starEach (e :: es) X.env)) (backToKw pos (keywordEach [] X.env))) := by rfl) (hn : (e :: es).length + 1 = n := by rfl) :
    DE X w (Ra ++ Rb) (.Call (.Attribute o m apos) (e :: es) [] pos) (eMeth c m fo g G) := by
  obtain ⟨f, fd, ps, F, M, hb⟩ := C.ex
  refine PE.weak (pe_methS ho C.cl M F (hr.mono hk) hb (fun σ => passAt tk σ) ha.pa hst hpl ht) fun σ H Q ⟨S, env, sub, ok, po⟩ => ?_
  refine ⟨S, env, sub, ok.left, Post.bind (Rel2 := Den X.K) po fun d _ v H1 e1 dv po1 => ?_⟩
  cases d <;> first | exact po1.elim | skip
  rename_i c' gs _
  dsimp only at po1
  split at po1
  · rename_i hc
    obtain ⟨rfl, hl⟩ := hc
    obtain ⟨a, dx, fs, rfl, h1, r1⟩ := den_obj dv
    refine ⟨a, dx, fs, rfl, (hid_out h1).2, r1.lookN hl, S, env, sub.mono e1, ok.right.mono (hid_ex e1), Post.bind (Rel2 := Den X.K) po1 fun ds hd vs H2 e2 dvs po2 => ?_⟩
    refine ⟨by rw [List.length_cons, dvs.len, ha.len env ds hd]; exact hn, S, _, (sub.mono e1).mono e2, ((ok.mono (hid_ex e1)).mono (hid_ex e2)).tab, .cons (dv.mono (hid_ex e2)) dvs, ?_⟩
    cases q : G (.obj c' gs :: ds) with
    | ok d => rw [q] at po2; exact fun v H3 e3 r => po2 v H3 e3 r
    | err c => rw [q] at po2; exact fun H3 u e3 hu => ⟨c, hu, rfl, po2 H3 e3⟩
    | stuck => rw [q] at po2; exact po2
  · exact po1.elim
end
end Dx
set_option Elab.async false
set_option linter.all false
set_option maxRecDepth 100000
set_option maxHeartbeats 4000000
namespace Dx
open PySem PySem.Spec PyProof.Rows L2
open RZ RT
def flatL (l : List D) : Res (List D) := if l.all D.flat = true then .ok l else .stuck
def selfAt (e : Sl) : Option Addr := match e[0]? with
  | some (some (D.raw (.ref b))) => some b
  | _ => none
def initEnv (n : Nat) (a : Addr) (ds : List D) : Sl := (D.raw (.ref a) :: ds).map some ++ List.replicate (n - (D.raw (.ref a) :: ds).length) none
def initTwo (n : Nat) (f1 f2 : Str) (s1 : Sl → Out) (g1 g2 : EL) (a : Addr) (ds : List D) : Res (List (Str × D)) :=
  match s1 (initEnv n a ds) with
  | .nxt e => if selfAt e = some a then ((g1 e).bind flatL).bind fun l1 => ((g2 e).bind flatL).bind fun l2 => .ok [(f1, .lst l1), (f2, .lst l2)] else .stuck
  | .err c _ => .err c
  | _ => .stuck
def InitOk (P : Program) (w : World) (K : PySem.W.Frag) (mg : Str → Option Value) (base : Heap) (tb : List Addr) (N : List Str) (qual : Str) (sc : Scope) (f : Addr) (fd : FuncData) (k : Nat) (st1 : Stmt) (t1 t2 : Expr) (v1 v2 : Expr) (r1 r2 : Pos) (s1 : Sl → Out) (R1 R2 : List Nat) (g1 g2 : EL) : Prop :=
  ∀ (cdv : Value), fd.code = cdv → ∀ (A : Around) (outer : List Env) (s : Shared) (H : Hp) (E : XK), Room k (A.deeper (envOfC qual sc s.heap.objs.size f cdv)) → N.Nodup → Takes (cxOf (L2.CX P w) P w K mg base N qual sc f cdv A outer s H E) (wx mg (wE mg tb E)) →
    DS (cxOf (L2.CX P w) P w K mg base N qual sc f cdv A outer s H E) (wE mg tb E) false [] [] [] st1 s1 ∧
      DL (cxOf (L2.CX P w) P w K mg base N qual sc f cdv A outer s H E) (wE mg tb E) R1 v1 g1 ∧ DL (cxOf (L2.CX P w) P w K mg base N qual sc f cdv A outer s H E) (wE mg tb E) R2 v2 g2 ∧
      swapsWith v1 (some t1) r1.line (cxOf (L2.CX P w) P w K mg base N qual sc f cdv A outer s H E).env = pure false ∧ swapsWith v2 (some t2) r2.line (cxOf (L2.CX P w) P w K mg base N qual sc f cdv A outer s H E).env = pure false
theorem ex_hid_upd {H H1 : Hp} {a : Addr} {o : HO} (e : Ex (hid [a] H) (hid [a] H1)) : Ex (hid [a] H) (hid [a] (upd H1 a o)) := by
  rw [hid_upd (List.mem_singleton.mpr rfl)]; exact e
section
variable {P : Program} {w : World} {K : PySem.W.Frag} {mg : Str → Option Value} {base : Heap} {tb : List Addr}
theorem fn_okI {c qual f1 f2 : Str} {self : Str} {pm : Arguments} {bd : List Stmt} {sc : Scope} {f : Addr} {fd : FuncData} {N ps : List Str} {k : Nat} {st1 : Stmt} {v1 v2 : Expr} {p1 p2 q1 q2 r1 r2 : Pos} {s1 : Sl → Out} {R1 R2 : List Nat} {g1 g2 : EL} {F : List D → Res (List (Str × D))} {n : Nat}
    (FD : FunD K "__init__" qual pm bd sc [] [] f fd) (hbd : bd = [st1, .Assign [.Attribute (.Name self p1) f1 q1] v1 r1, .Assign [.Attribute (.Name self p2) f2 q2] v2 r2]) (Sc : FnScope N ps sc) (hn : ps.length = n + 1) (hs : N[0]? = some self) (hvis : Vis sc self) (hdb : (self == ("__debug__" : Str)) = false) (hcd : (self == ("__classdict__" : Str)) = false)
    (cl : Cls K (He.ga K c)) (na1 : NoAttr K (He.ga K c) f1) (na2 : NoAttr K (He.ga K c) f2) (hput1 : ∀ y : V, putF f1 y [] = [(f1, y)]) (hput : ∀ y z : V, putF f2 z [(f1, y)] = [(f1, y), (f2, z)])
    (hF : ∀ a ds, initTwo N.length f1 f2 s1 g1 g2 a ds = F ds)
    (hb : InitOk P w K mg base tb N qual sc f fd k st1 (.Attribute (.Name self p1) f1 q1) (.Attribute (.Name self p2) f2 q2) v1 v2 r1 r2 s1 R1 R2 g1 g2) :
    FnOk P w K mg base (L2.CX P w) (k + 1) f fd ps (SpI K mg tb n c F) := by
  subst hbd
  refine okX FD Sc (fun vs H Q E h => ?_) fun cdv hcode A outer s H vs Q E hr h => ?_
  · obtain ⟨a, dx, us, S, ds, rfl, hl, _⟩ := h
    rw [List.length_cons, hl, hn]
  obtain ⟨d1, e1, e2, sw1, sw2⟩ := hb cdv hcode A outer s H E hr Sc.nd (takesE (takes_of rfl rfl rfl rfl))
  have vn : ∀ p, PE (cxOf (L2.CX P w) P w K mg base N qual sc f cdv A outer s H E) (.Name self p) (tVar 0) := fun p => pe_var hs hvis hdb hcd
  refine ⟨_, pss_cons d1 (pss_cons (ps_fld (vn _) e1 sw1) (pss_one (ps_fld (vn _) e2 sw2))), ?_⟩
  obtain ⟨a, dx, us, S, ds, rfl, hl, ha, sub, tabs, dv, po⟩ := h
  have subA : Sub (a :: S) H := fun b m z => by
    rcases List.mem_cons.mp m with q | q
    · rw [q, ha] at z; cases z
    · exact sub b q z
  have dall : DenL K (hid (a :: S) H) (.ref a :: us) (D.raw (.ref a) :: ds) := .cons (.raw _) dv
  refine ⟨H, a :: S, hid (a :: S) H, fun _ => 0, initEnv N.length a ds, ⟨?_, Ex.refl _, subA, ?_, ?_, (fun _ m => nomatch m), (fun _ m => nomatch m), fun i _ d hd => ?_⟩, ?_⟩
  · show _ = (start N (.ref a :: us)).length
    unfold L2.start initEnv
    simp [dv.len]
  · show Ex (hid (a :: S) H) (hid (a :: S ++ []) H)
    rw [List.append_nil]
    exact Ex.refl _
  · show ∀ T ∈ tb, GxR.TabG (hid (a :: S ++ []) H) T
    rw [List.append_nil]
    exact tabs
  · show ∃ v, (start N (.ref a :: us))[i]? = some (some v) ∧ Den K (hid (a :: S ++ []) H) v d
    rw [List.append_nil]
    exact start_get dall N.length i d hd
  · rw [← hF a ds] at po
    unfold initTwo at po
    generalize s1 (initEnv N.length a ds) = o at po
    cases o with
    | nxt e =>
      dsimp only at po
      intro P' σ H1 st
      by_cases hself : selfAt e = some a
      · rw [if_pos hself] at po
        have ea : e[0]? = some (some (D.raw (.ref a))) := by
          unfold selfAt at hself
          split at hself
          · rename_i b hb
            cases hself
            exact hb
          · cases hself
        obtain ⟨va, hσ, dva⟩ := st.oth 0 (fun m => nomatch m) _ ea
        cases dva
        have okE : ∀ R, EnvOk K tb R e σ (hid (a :: S) H1) := fun R => st.all
        have sub1 : Sub (a :: S) H1 := st.subS
        have h1a : H1 a = some (.ins (He.ga K c) dx []) := st.exf _ _ ha
        refine ⟨a :: S, e, sub1, okE _, ?_⟩
        cases x1 : g1 e with
        | stuck => rw [x1] at po; exact po.elim
        | err c' => rw [x1] at po; exact fun H2 ex2 u hu => po H2 u ((hid_ex (st.exf.trans ex2))) hu
        | ok l1 =>
          intro p vs1 H2 hp ex2 hp2 r1
          rw [x1] at po
          have po2 := po
          by_cases fl1 : l1.all D.flat = true
          · have z1 : (Res.bind (.ok l1) flatL) = .ok l1 := by rw [bind_ok]; unfold flatL; rw [if_pos fl1]
            rw [z1, bind_ok] at po
            have h2a : H2 a = some (.ins (He.ga K c) dx []) := ex2 _ _ h1a
            refine ⟨.ref a, hσ, a, He.ga K c, dx, [], rfl, h2a, cl, na1, (by decide), ?_⟩
            rw [hput1]
            have hu : hid (a :: S) (upd H2 a (.ins (He.ga K c) dx [(f1, .ref p)])) = hid (a :: S) H2 := hid_upd List.mem_cons_self
            refine ⟨a :: S, e, ?_, ?_, ?_⟩
            · intro b m z
              by_cases hb : b = a
              · rw [hb, upd_same] at z; cases z
              · rw [upd_ne hb] at z; exact (sub1.mono ex2) b m z
            · rw [hu]; exact (okE _).mono (hid_ex ex2)
            · have ex12 := st.exf.trans ex2
              cases x2 : g2 e with
              | stuck => rw [x2] at po; exact po.elim
              | err c' =>
                rw [x2] at po
                intro H3 ex3 u hu'
                exact po H3 u ((ex_hid_upd (hid_ex ex12)).trans (hid_ex ex3)) hu'
              | ok l2 =>
                rw [x2] at po
                by_cases fl2 : l2.all D.flat = true
                · have z2 : (Res.bind (.ok l2) flatL) = .ok l2 := by rw [bind_ok]; unfold flatL; rw [if_pos fl2]
                  rw [z2, bind_ok] at po
                  intro q vs2 H3 hq ex3 hq3 r2
                  have h3a : H3 a = some (.ins (He.ga K c) dx [(f1, .ref p)]) := ex3 _ _ upd_same
                  refine ⟨.ref a, hσ, a, He.ga K c, dx, _, rfl, h3a, cl, na2, (by show 1 < 1000; decide), ?_⟩
                  rw [hput]
                  have pa : p ≠ a := fun z => by rw [z, h1a] at hp; cases hp
                  have qa : q ≠ a := fun z => by rw [z, upd_same] at hq; cases hq
                  have h3p : H3 p = some (.lst vs1) := ex3 p (.lst vs1) (by rw [upd_ne pa]; exact hp2)
                  have nq : H q = none := by
                    rw [upd_ne qa] at hq
                    exact ex_none ex12 hq
                  refine po _ _ (ex_hid_upd ((ex_hid_upd (hid_ex ex12)).trans (hid_ex ex3))) upd_same ?_
                  refine .cons (.lst (nw_at (ex_none st.exf hp) (by rw [upd_ne pa]; exact h3p)) (flatL_any r1 fl1)) (.cons (.lst (nw_at nq (by rw [upd_ne qa]; exact hq3)) (flatL_any r2 fl2)) .nil)
                · rw [show Res.bind (.ok l2) flatL = .stuck from by rw [bind_ok]; unfold flatL; rw [if_neg fl2]] at po
                  exact po.elim
          · rw [show Res.bind (.ok l1) flatL = .stuck from by rw [bind_ok]; unfold flatL; rw [if_neg fl1]] at po
            exact po.elim
      · rw [if_neg hself] at po
        exact po.elim
    | err c' e => exact fun P' σ' H' st u hu => po H' u (hid_ex st.exf) hu
    | ret d => exact po.elim
    | brk e => exact po.elim
    | cnt e => exact po.elim
    | stuck => exact po.elim
end
end Dx
set_option Elab.async false
set_option linter.all false
set_option maxRecDepth 100000
set_option maxHeartbeats 4000000
namespace Dx
open PySem PySem.Spec PyProof.Rows L2
open RZ RT
end Dx
set_option Elab.async false
set_option linter.all false
set_option maxRecDepth 100000
set_option maxHeartbeats 4000000
namespace Dx
open PySem PySem.Spec PyProof.Rows L2
open RZ RT
end Dx
set_option Elab.async false
set_option linter.all false
set_option maxRecDepth 100000
set_option maxHeartbeats 4000000
namespace Dx
open PySem PySem.Spec PyProof.Rows L2
open RZ RT
end Dx
set_option Elab.async false
set_option linter.all false
set_option maxRecDepth 100000
set_option maxHeartbeats 4000000
namespace Dx
open PySem PySem.Spec PyProof.Rows L2
open RZ RT
open D (okd okdA py pyA)
namespace D
def upper : D → Res D
  | .str z => lim z.length (.ok (.str (Txt.upper z)))
  | _ => .stuck
def index : D → D → Res D
  | .lst ys, x => if flat x = true ∧ ys.all flat = true then (match ys.findIdx? (fun y => eqF y x) with | some j => .ok (.int j) | none => .stuck) else .stuck
  | _, _ => .stuck
end D
end Dx
set_option Elab.async false
set_option linter.all false
set_option maxRecDepth 100000
set_option maxHeartbeats 4000000
namespace Dx
open PySem PySem.Spec PyProof.Rows L2
open RZ RT
open D (okd okdA py pyA)
section
variable {X : Cx} {w : Wi} {R Ra Rb : List Nat} {o e : Expr} {fo fe : EE} {p pos apos : Pos}
theorem findIdx_den {K : PySem.W.Frag} {H : Hp} {y : V} {x : D} (hy : Den K H y x) (fx : D.flat x = true) : ∀ {vs : List V} {ds : List D} {j : Nat}, DenL K H vs ds → ds.all D.flat = true → ds.findIdx? (fun d => D.eqF d x) = some j → ∃ z, vs[j]? = some z ∧ eqV z y = true ∧ ∀ (m : Nat) (z' : V), m < j → vs[m]? = some z' → eqV z' y = false
  | _, _, _, .nil, _, e => by simp at e
  | _, _, j, .cons (v := v) (d := d) h r, f, e => by
    rw [List.all_cons, Bool.and_eq_true] at f
    rw [List.findIdx?_cons] at e
    cases q : D.eqF d x with
    | true =>
      rw [q] at e
      cases e
      refine ⟨v, rfl, by rw [eqF_den h f.1 hy fx]; exact q, fun m z' hm => by omega⟩
    | false =>
      rw [q] at e
      cases q2 : (List.findIdx? (fun d => D.eqF d x) _) with
      | none => rw [q2] at e; cases e
      | some i =>
        rw [q2] at e
        cases e
        obtain ⟨z, h1, h2, h3⟩ := findIdx_den hy fx r f.2 q2
        refine ⟨z, h1, h2, fun m z' hm hz => ?_⟩
        cases m with
        | zero => cases hz; rw [eqF_den h f.1 hy fx]; exact q
        | succ m => exact h3 m z' (by have : m + 1 < i + 1 := hm; omega) hz
/-- a list's method with one argument -/
def eMethL (g : D → D → Res D) (f h : EE) : EE := fun env => (f env).bind fun d => match d with
  | .lst ds => (h env).bind fun x => g (.lst ds) x
  | _ => .stuck
theorem methL_of {r : V → List V → Hp → VK → Prop} {g : D → D → Res D} (hr : ∀ (S : List Addr) (σ : L2.St) (H : Hp) (v y : V) (ds : List D) (x : D) (Q : VK), Sub S H → Den X.K (hid S H) v (.lst ds) → Den X.K (hid S H) y x → PostV X.K w S σ H Q (g (.lst ds) x) → r v [y] H Q) {σ : L2.St} {H : Hp} {Q : VK} (h : tS (Den X.K) X.K w (Ra ++ Rb) (eMethL g fo fe) σ H Q) :
    tBM X.K "list" r (tS (Den X.K) X.K w Ra fo) (tCons (tS (Den X.K) X.K w Rb fe) tNil) σ H Q := by
  obtain ⟨S, env, sub, ok, po⟩ := h
  refine ⟨S, env, sub, ok.left, Post.bind (Rel2 := Den X.K) po fun d hd v H1 e1 dv po1 => ?_⟩
  cases d <;> first | exact po1.elim | skip
  have dv0 := dv
  obtain ⟨a, xs, rfl, ha, ra⟩ := den_lst dv
  refine ⟨.inl ⟨rfl, xs, .of (hid_out ha).2⟩, S, env, sub.mono e1, ok.right.mono (hid_ex e1), Post.bind (Rel2 := Den X.K) po1 fun x _ y H2 e2 dy po2 => ?_⟩
  exact hr S σ H2 _ y _ x Q ((sub.mono e1).mono e2) (dv0.mono (hid_ex e2)) dy po2
theorem de_index (ho : DE X w Ra o fo) (he : DE X w Rb e fe) (hst : starEach [e] X.env = (false, eval e X.env) :: starEach [] X.env := by rfl)
    (hfew : ((backTo pos (starEach [e] X.env)).all (fun x => !x.1) && (backToKw pos (keywordEach [] X.env)).all (fun x => x.1.isSome) && decide ([e].length + ([] : List Keyword).length + (if ([] : List Keyword).isEmpty then 0 else 1) < 30)) = true := by rfl) (hline : (apos.endLine == pos.line) = true := by rfl)
    (hbase : attributeBase o "index" X.env (eval o X.env) = eval o X.env := by rfl) : DE X w (Ra ++ Rb) (.Call (.Attribute o "index" apos) [e] [] pos) (eMethL D.index fo fe) :=
  PE.weak (pe_bm PySem.F.plainAttrs_list PySem.F.slot_list_index PySem.F.type_list_index mt_index ho (pa_cons he pa_nil hst) hbase hfew hline hst) fun σ H Q h => methL_of (fun S σ H v y ds x Q sub dv dy po => by
    obtain ⟨a, xs, rfl, ha, ra⟩ := den_lst dv
    unfold D.index at po
    dsimp only at po
    split at po
    · rename_i hf
      split at po
      · rename_i j hj
        obtain ⟨z, h1, h2, h3⟩ := findIdx_den dy hf.1 ra hf.2 hj
        exact ⟨a, xs, y, j, z, rfl, rfl, .of (hid_out ha).2, flat_den dy hf.1, flats_den ra hf.2, h1, h2, h3, Post.okay (Rel := Den X.K) po (.int _)⟩
      · exact po.elim
    · exact po.elim) h
namespace D
end D
end
end Dx
set_option Elab.async false
set_option linter.all false
set_option maxRecDepth 100000
set_option maxHeartbeats 4000000
namespace Dx
open PySem PySem.Spec PyProof.Rows L2
open RZ RT
open D (okd okdA py pyA)
structure ClsIs (K : PySem.W.Frag) (C : Str) : Prop where
  cl : Cls K (He.ga K C)
  f1 : PySem.W.findIn K (.ref (He.ga K C)) "__class__" = some (some (.builtin "object.__class__"))
  f2 : PySem.W.specialIn K (.builtin "object.__class__") "__get__" = some (some (.builtin "getset_descriptor.__get__"))
  f3 : PySem.W.takesIn K (.builtin "object.__class__") = some true
  f4 : PySem.W.mroIn K (He.ga K C) (.type "object") = some true
  self : PySem.W.kitOne K (.ref (He.ga K C)) (.ref (He.ga K C)) = some true
  no : ∀ t ∈ ["NoneType", "bool", "int", "str", "list", "tuple"], PySem.W.kitOne K (.type t) (.ref (He.ga K C)) = some false
def eIsC (C : Str) (f : EE) : EE := fun env => (f env).bind fun d => match d with
  | .obj c _ => if c = C then .ok (.bl true) else .stuck
  | .dct _ => .stuck
  | d => match D.ty d with | some _ => .ok (.bl false) | none => .stuck
end Dx
set_option Elab.async false
set_option linter.all false
set_option maxRecDepth 100000
set_option maxHeartbeats 4000000
namespace Dx
open PySem PySem.Spec PyProof.Rows L2
open RZ RT
end Dx
set_option Elab.async false
set_option linter.all false
set_option maxRecDepth 100000
set_option maxHeartbeats 4000000
namespace Dx
open PySem PySem.Spec PyProof.Rows L2
open RZ RT
theorem genS_of {env : Env} {scope : Scope} {x : Str} (h1 : scope.kind = .function) (h2 : scope.isCoroutine = false) (h3 : (scope.names.all fun y => (match y.2 with | .cell => false | .free => false | _ => true)) = true) (h4 : scope.names.lookup (".0" : Str) = some .local) (h5 : scope.names.lookup x = some .local) : GxR.GenS env scope x := by
  have h := List.all_eq_true.mp h3
  refine ⟨h1, h2, fun y hy e => ?_, h4, h5, fun y hy e => ?_⟩
  · have := h y hy
    rw [e] at this
    cases this
  · have := h y hy
    rw [e] at this
    cases this
section
variable {X : Cx} {w : Wi} {Ri Rt Re ow : List Nat} {elt tg iter : Expr} {ifs : List Expr} {scope : Scope} {own : List (Str × Nat)} {pos : Pos} {items : EL} {t : EB} {f : EE}
/-- as dl_lc, the slots told by themselves -/
theorem dl_lcE (tgt : Tgt) (hc : X.calm = true) (hN : X.N.Nodup) (hi : DI X w Ri tg iter items) (ok : BlkOk X.N X.env.scope scope own) (hs : ∀ i ∈ tgt.slots, i ∈ own.map (·.2))
    (hg : ∀ (s : Shared) (H : Hp) (C : Addr) (cl : List (Str × Addr)) (fp : List Addr), PG (X.blk s H scope (compEnvC scope cl C X.env) fp) tg (gT X.K tgt))
    (ht : ∀ (s : Shared) (H : Hp) (C : Addr) (cl : List (Str × Addr)) (fp : List Addr), BT (X.blk s H scope (compEnvC scope cl C X.env) fp) w.no Rt ifs t)
    (he : ∀ (s : Shared) (H : Hp) (C : Addr) (cl : List (Str × Addr)) (fp : List Addr), DE (X.blk s H scope (compEnvC scope cl C X.env) fp) w.no Re elt f) (how : own.map (·.2) = ow := by rfl) (hf : ∀ x, foldedSetIterable iter X.env x = pure x := by intro _; rfl) :
    DL X w (Ri ++ (Rt ++ Re)) (.ListComp elt [⟨tg, iter, ifs, 0⟩] scope pos) (eLc items tgt ow t f) := by
  subst how
  exact dl_lc tgt hc hN hi ok hs hg ht he hf
end
section
variable {X : Cx} {w : Wi}
theorem ds_ownLcE {Ri Rt Re ow O L : List Nat} {elt tg iter : Expr} {ifs : List Expr} {scope : Scope} {own : List (Str × Nat)} {cpos pos pos' : Pos} {items : EL} {t : EB} {f : EE} {fr : Bool} {i : Nat} {x : Str} (tgt : Tgt) (hR : ∀ j ∈ Ri ++ (Rt ++ Re), j ∉ O) (hi : i ∉ O) (hc : X.calm = true) (hN : X.N.Nodup) (hit : DI X w Ri tg iter items) (ok : BlkOk X.N X.env.scope scope own) (hs : ∀ i ∈ tgt.slots, i ∈ own.map (·.2))
    (hg : ∀ (s : Shared) (H : Hp) (C : Addr) (cl : List (Str × Addr)) (fp : List Addr), PG (X.blk s H scope (compEnvC scope cl C X.env) fp) tg (gT X.K tgt))
    (ht : ∀ (s : Shared) (H : Hp) (C : Addr) (cl : List (Str × Addr)) (fp : List Addr), BT (X.blk s H scope (compEnvC scope cl C X.env) fp) w.no Rt ifs t)
    (he : ∀ (s : Shared) (H : Hp) (C : Addr) (cl : List (Str × Addr)) (fp : List Addr), DE (X.blk s H scope (compEnvC scope cl C X.env) fp) w.no Re elt f)
    (how : own.map (·.2) = ow := by rfl) (hy : X.N[i]? = some x := by rfl) (hyl : X.env.scope.names.lookup x = some .local := by rfl) (hsw : swapsWith (.ListComp elt [⟨tg, iter, ifs, 0⟩] scope cpos) (some (.Name x pos')) pos.line X.env = pure true := by exact sw_true rfl rfl rfl (by decide +kernel)) (hf : ∀ x, foldedSetIterable iter X.env x = pure x := by intro _; rfl) :
    DS X w fr L O (i :: O) (.Assign [.Name x pos'] (.ListComp elt [⟨tg, iter, ifs, 0⟩] scope cpos) pos) (sOwn i (eLc items tgt ow t f)) := by
  subst how
  exact ds_ownLc tgt hR hi hc hN hit ok hs hg ht he hy hyl hsw hf
end
end Dx
set_option Elab.async false
set_option linter.all false
set_option maxRecDepth 100000
set_option maxHeartbeats 4000000
namespace Dx
open PySem PySem.Spec PyProof.Rows L2
open PySem.W (findIn specialIn takesIn mroIn subIn hasDictIn kitOne)
def exI (K : PySem.W.Frag) (C : Str) : Bool :=
  He.eqO (findIn K (.ref (He.ga K C)) "__class__") (some (some (.builtin "object.__class__"))) && (He.eqO (specialIn K (.builtin "object.__class__") "__get__") (some (some (.builtin "getset_descriptor.__get__"))) && (decide (takesIn K (.builtin "object.__class__") = some true) && (decide (mroIn K (He.ga K C) (.type "object") = some true) && (decide (kitOne K (.ref (He.ga K C)) (.ref (He.ga K C)) = some true) && ["NoneType", "bool", "int", "str", "list", "tuple"].all fun t => decide (kitOne K (.type t) (.ref (He.ga K C)) = some false)))))
theorem exI_ok {K : PySem.W.Frag} {C : Str} (h : exI K C = true) (cl : Cls K (He.ga K C)) : ClsIs K C := by
  unfold exI at h
  rw [Bool.and_eq_true, Bool.and_eq_true, Bool.and_eq_true, Bool.and_eq_true, Bool.and_eq_true] at h
  obtain ⟨a, b, c, d, e, f⟩ := h
  exact ⟨cl, He.eqO_ok a, He.eqO_ok b, of_decide_eq_true c, of_decide_eq_true d, of_decide_eq_true e, fun t ht => of_decide_eq_true (List.all_eq_true.mp f t ht)⟩
theorem excD_of {K : PySem.W.Frag} {h : Heap} {mg : Str → Option Value} {x : Str} (X : K.In h) (G : h.Ns mainGlobals mg) (g : He.Fa.ok K (.glo x) = true) (e : He.Fa.ok K (.exc x) = true) : ExcD K mg x := by
  obtain ⟨a, b, c, d⟩ := He.exc_ok e
  exact ⟨He.glo_ok X G g, a, b, c, d⟩
theorem hasTab_of {K : PySem.W.Frag} {base : Heap} {mg : Str → Option Value} {tb : List Addr} {name qual : Str} {pm : Arguments} {bd : List Stmt} {sc : Scope} {p : He.Defn} {fd : FuncData} (F : FunD K name qual pm bd sc [] [] (He.fAd K p) fd) (T : LamX.TabB base mg (He.cT K p).1 (He.cT K p).2) (m : (He.cT K p).2 ∈ tb) : HasTab base mg tb fd.code := by
  obtain ⟨oc, od, dV, kV, doc, pm', an, cdv, ct, osl, e, lk, hcd, _, _⟩ := F.ex
  obtain ⟨c, hc⟩ := He.codeIn_ref hcd
  have hfc : fd.code = .ref c := by rw [e]; exact hc
  have hco := He.codeOf_eq lk hfc
  refine ⟨(He.cT K p).1, (He.cT K p).2, ?_, ⟨T.code, T.bm, T.gP⟩, m⟩
  rw [hfc]
  show _ = Value.ref (He.codeOf K p)
  rw [hco]
/-- the law's promise: a list of at most 63 ints is handed in, True comes out -/
def spLaw (K : PySem.W.Frag) (tb : List Addr) : Sp := fun vs H Q _ => ∃ (a : Addr) (ns : List Int), vs = [.ref a] ∧ SqL K H a (ns.map V.int) ∧ ns.length ≤ 63 ∧ (∀ T ∈ tb, GxR.TabG H T) ∧ ∀ H', Q (.bl true) H'
theorem denInts {K : PySem.W.Frag} {H : Hp} : ∀ ns : List Int, DenL K H (ns.map V.int) (dInts ns)
  | [] => .nil
  | n :: ns => .cons (.int n) (denInts ns)
theorem law_sp {K : PySem.W.Frag} {mg : Str → Option Value} {tb : List Addr} {F : List D → Res D} (hF : ∀ ns : List Int, ns.length ≤ 63 → F [.fz (dInts ns)] = .ok (.bl true)) : ∀ vs H Q E, spLaw K tb vs H Q E → SpF K mg tb 1 false F vs H Q E := fun vs H Q E h => by
  obtain ⟨a, ns, rfl, hs, hl, tabs, k⟩ := h
  refine ⟨rfl, [], [.fz (dInts ns)], (fun _ m => absurd m (List.not_mem_nil)), fun T m => ex_hid0.tab (tabs T m), .one (.fz (ex_l ex_hid0 hs) (denInts ns)), ?_⟩
  rw [hF ns hl]
  intro v H1 _ hv
  rw [den_bl hv]
  exact k H1
theorem tab_new {H : Hp} {P : Addr} (h : H P = some (.tbl #[])) : GxR.TabG H P := ⟨#[], h, by first | trivial | exact .nil | (intro x hx; cases hx) | (simp [TriplesOk])⟩
end Dx
set_option Elab.async false
set_option linter.all false
set_option maxRecDepth 100000
set_option maxHeartbeats 4000000
namespace Dx
open PySem L2
section
variable {i j n : Nat} {a b d c : D} {f g h fo fe : EE} {t u : EB} {l m : EL} {env e : Sl} {s s1 s2 sb : Sl → Out} {ds es : List D} {x y : Int} {k : Bool} {z C M w : Str} {ad : Addr} {cs : List Str} {F : Str → Res D} {gs : List (Str × D)}
@[simp] theorem sRaise_ap : sRaise C env = .err C env := rfl
@[simp] theorem eMake_ap {G : List D → Res (List (Str × D))} : eMake C l G env = (l env).bind fun ds => (G ds).map (.obj C) := rfl
theorem eMeth_ap {G : List D → Res D} (h1 : fo env = .ok (.obj C gs)) (h2 : gs.lookup M = none) : eMeth C M fo l G env = (l env).bind fun ds => G (.obj C gs :: ds) := by
  unfold eMeth
  rw [h1, bind_ok]
  dsimp only
  rw [if_pos ⟨rfl, h2⟩]
theorem eIsC_obj (h1 : fe env = .ok (.obj C gs)) : eIsC C fe env = .ok (.bl true) := by
  unfold eIsC
  rw [h1, bind_ok]
  dsimp only
  rw [if_pos rfl]
theorem eAllS_ap {pb : Nat → Bool} (h1 : fe env = .ok (.str z)) : eAllS pb fe env = .ok (.bl (z.cps.toList.all pb)) := by
  unfold eAllS
  rw [h1, bind_ok]
theorem eMethL_ap {G : D → D → Res D} (h1 : fo env = .ok (.lst ds)) : eMethL G fo fe env = (fe env).bind fun x => G (.lst ds) x := by
  unfold eMethL
  rw [h1, bind_ok]
@[simp] theorem upper_str (h : z.length ≤ 100000) : D.upper (.str z) = .ok (.str (Txt.upper z)) := by unfold D.upper; exact lim_ok h
theorem fld_ap (h : gs.lookup M = some d) : D.fld C M (.obj C gs) = .ok d := by
  unfold D.fld
  dsimp only
  rw [if_pos rfl, h]
@[simp] theorem isi_non_list : D.isi [.non, .raw (.ty "list")] = .ok (.bl false) := rfl
@[simp] theorem isi_non_tuple : D.isi [.non, .raw (.ty "tuple")] = .ok (.bl false) := rfl
@[simp] theorem isi_non_str : D.isi [.non, .raw (.ty "str")] = .ok (.bl false) := rfl
@[simp] theorem isi_non_int : D.isi [.non, .raw (.ty "int")] = .ok (.bl false) := rfl
@[simp] theorem isi_int_str : D.isi [.int x, .raw (.ty "str")] = .ok (.bl false) := rfl
@[simp] theorem isi_bl_str : D.isi [.bl k, .raw (.ty "str")] = .ok (.bl false) := rfl
@[simp] theorem isi_lst_str : D.isi [.lst ds, .raw (.ty "str")] = .ok (.bl false) := rfl
@[simp] theorem isi_tup_str : D.isi [.tup ds, .raw (.ty "str")] = .ok (.bl false) := rfl
@[simp] theorem isi_str_int : D.isi [.str z, .raw (.ty "int")] = .ok (.bl false) := rfl
@[simp] theorem isi_str_bool : D.isi [.str z, .raw (.ty "bool")] = .ok (.bl false) := rfl
@[simp] theorem isi_str_list : D.isi [.str z, .raw (.ty "list")] = .ok (.bl false) := rfl
@[simp] theorem isi_str_tuple : D.isi [.str z, .raw (.ty "tuple")] = .ok (.bl false) := rfl
@[simp] theorem isi_lst_int : D.isi [.lst ds, .raw (.ty "int")] = .ok (.bl false) := rfl
@[simp] theorem isi_tup_int : D.isi [.tup ds, .raw (.ty "int")] = .ok (.bl false) := rfl
@[simp] theorem isi_non_bool : D.isi [.non, .raw (.ty "bool")] = .ok (.bl false) := rfl
@[simp] theorem isi_int_list : D.isi [.int x, .raw (.ty "list")] = .ok (.bl false) := rfl
@[simp] theorem isi_int_tuple : D.isi [.int x, .raw (.ty "tuple")] = .ok (.bl false) := rfl
end
end Dx
set_option Elab.async false
set_option linter.all false
set_option maxRecDepth 100000
set_option maxHeartbeats 4000000
namespace Dx
open PySem PySem.Spec PyProof.Rows L2 GenW
open D (okd okdA py pyA)
def allGo (f : EE) : List D → Res Bool
  | [] => .ok true
  | d :: ds => (noErr (f [none, some d])).bind fun r => (D.isBl r).bind fun b => (allGo f ds).bind fun c => .ok (b && c)
def eAllG (items : EL) (f : EE) : EE := fun env => (items env).bind fun ds => (allGo f ds).map D.bl
theorem allGo_cons {f : EE} {d : D} {ds : List D} {r : Bool} (h : allGo f (d :: ds) = .ok r) : ∃ b c, f [none, some d] = .ok (.bl b) ∧ allGo f ds = .ok c ∧ r = (b && c) := by
  unfold allGo at h
  cases q : f [none, some d] with
  | ok y =>
    rw [q] at h
    cases y with
    | bl b =>
      cases p : allGo f ds with
      | ok c =>
        rw [p] at h
        cases h
        exact ⟨b, c, rfl, rfl, rfl⟩
      | err c => rw [p] at h; cases h
      | stuck => rw [p] at h; cases h
    | _ => cases h
  | err c => rw [q] at h; cases h
  | stuck => rw [q] at h; cases h
/-- the generator expression's own names: the walked thing and its one name -/
structure GScp (scope : Scope) (x : Str) : Prop where
  kind : scope.kind = .function
  co : scope.isCoroutine = false
  plain : ∀ y ∈ scope.names, y.2 ≠ .cell ∧ y.2 ≠ .free
  dot : scope.names.lookup (".0" : Str) = some NameKind.local
  loc : scope.names.lookup x = some .local
  ne : (".0" : Str) ≠ x
/-- its frame's context -/
@[reducible] def gX (X : Cx) (scope : Scope) (x : Str) (C : Addr) (cd : Value) (A : Around) (s : Shared) (H : Hp) (fp : List Addr) : Cx where
  prog := X.prog
  w := X.w
  K := X.K
  mg := X.mg
  base := X.base
  A := A
  N := [".0", x]
  s_0 := s
  H_0 := H
  env := genEnv scope [] C cd builtinsNs X.env
  outer := X.stack
  stack := genEnv scope [] C cd builtinsNs X.env :: X.stack
  ex := fp
  fn := fun _ => false
  calm := true
  pn := []
  xe := fun _ _ => False
section
variable {X : Cx} {scope : Scope} {x : Str} {C : Addr} {cd : Value} {A : Around} {s : Shared} {H : Hp} {fp : List Addr} {pins : List (Addr × Obj)} {σ : L2.St}
theorem gX_ok (I : Inv X pins σ H s) (G : GScp scope x) (hC : s.heap.objs.size ≤ C) (hA : A.handled = none) (hfr : A.frames = some (genEnv scope [] C cd builtinsNs X.env :: X.stack)) (hf : ∀ b ∈ fp, FpOk X pins H b ∧ b < s.heap.objs.size) :
    (gX X scope x C cd A s H fp).Ok where
  mod := I.ok.mod
  kind := G.kind
  glob := I.ok.glob
  blt := rfl
  above := hC
  inj := fun _ _ _ e => by cases e
  has := fun y hy => by
    have hy : scope.names.lookup y = some .cell ∨ scope.names.lookup y = some .free := hy
    rcases hy with hy | hy
    · exact absurd rfl (G.plain _ (PySem.mem_of_lookup hy)).1
    · exact absurd rfl (G.plain _ (PySem.mem_of_lookup hy)).2
  cab := fun _ _ _ e => by cases e
  hd := fun _ => hA
  frames := hfr
  stk := .inr ⟨rfl, rfl⟩
  exf := fun b m => ⟨fun e => by
    have := (hf b m).2
    rw [e] at this
    exact absurd (Nat.lt_of_lt_of_le this hC) (Nat.lt_irrefl _), fun _ _ e => by cases e⟩
  bs := I.bs
  bsz := Nat.le_trans I.ok.bsz I.sz
  noex := fun b o e m => by
    obtain ⟨_, _, _, h, _⟩ := (hf b m).1
    rcases h with h | h
    · exact I.ok.noex b o e h
    · have := Heap.lt_size e
      exact absurd (Nat.lt_of_lt_of_le this (Nat.le_trans I.ok.bsz h)) (Nat.lt_irrefl _)
  exfs := fun b m hb => by
    obtain ⟨_, h1, h2, _⟩ := (hf b m).1
    rcases List.mem_cons.mp (I.stkSub b hb) with z | z
    · exact h1 z
    · exact h2 z
  funs := I.stack
  frf := I.stkFree
/-- Inv speaks of the generators' bareness alone -/
theorem inv_gens {Y : Cx} (I : Inv Y pins σ H s) {g : Array GenState} (hg : AllBare g) : Inv Y pins σ H { s with gens := g } :=
  ⟨I.ok, I.os, hg, I.base, I.loc, I.cell, I.free, I.freeC, I.pin, I.hok, I.len⟩
theorem bare_set (h : AllBare s.gens) {g : Nat} {q : GenState} (hq : q.bare = true) : AllBare (s.setGen g q).gens := fun y hy => by
  obtain ⟨i, hi, e⟩ := Array.mem_iff_getElem.mp hy
  have sz : (s.setGen g q).gens.size = s.gens.size := setGen_size s g q
  have hi2 : i < s.gens.size := by rw [← sz]; exact hi
  have e2 : (s.setGen g q).gens[i]? = some y := by rw [Array.getElem?_eq_getElem hi, e]
  by_cases z : i = g
  · subst z
    have : (s.setGen i q).gens[i]? = some q := by
      show (s.gens.setIfInBounds i q)[i]? = some q
      simp [hi2]
    rw [this] at e2
    cases e2
    exact hq
  · have : (s.setGen g q).gens[i]? = s.gens[i]? := by
      show (s.gens.setIfInBounds g q)[i]? = _
      rw [Array.getElem?_setIfInBounds_ne (Ne.symm z)]
    rw [this] at e2
    exact h y (Array.mem_of_getElem? e2)
/-- before the turn j: the frame stands, the walked thing is at j -/
def GSt (Y : Cx) (gp : List (Addr × Obj)) (H1 : Hp) (fp : List Addr) (tn : Nat → Heap → Prop) (j : Nat) (s : Shared) : Prop :=
  ∃ H2 σ2, Inv Y gp σ2 H2 s ∧ Ex H1 H2 ∧ tn j s.heap ∧ ∀ b ∈ fp, H2 b = none
def GEnd (Y : Cx) (gp : List (Addr × Obj)) (H1 : Hp) (s : Shared) : Prop := ∃ H2 σ2, Inv Y gp σ2 H2 s ∧ Ex H1 H2
theorem GSt.set {Y : Cx} {gp : List (Addr × Obj)} {H1 : Hp} {tn : Nat → Heap → Prop} {j : Nat} (h : GSt Y gp H1 fp tn j s) {g : Nat} {q : GenState} (hq : q.bare = true) : GSt Y gp H1 fp tn j (s.setGen g q) := by
  obtain ⟨H2, σ2, I, a, b, c⟩ := h
  exact ⟨H2, σ2, inv_gens I (bare_set I.bare hq), a, b, c⟩
def AEnd (Y : Cx) (gp : List (Addr × Obj)) (H1 : Hp) : GenEnd := fun n _ r s1 => r = .ok .next ∧ (n = 0 ∧ GEnd Y gp H1 s1)
def AItem (Y : Cx) (gp : List (Addr × Obj)) (H1 : Hp) (fp : List Addr) (tn : Nat → Heap → Prop) (f : EE) (ds : List D) : Protocol := fun n _ v s1 kap =>
  ∃ j b d, n + 1 + j = ds.length ∧ ds[j]? = some d ∧ f [none, some d] = .ok (.bl b) ∧ v = .bool b ∧ GSt Y gp H1 fp tn (j + 1) s1 ∧ ∀ s2, GSt Y gp H1 fp tn (j + 1) s2 → kap (.send .none) s2
end
abbrev cLoop (elt tg iter : Expr) (scope : Scope) (pos : Pos) (it : Addr) (env : Env) : Code := .compLoop (.GeneratorExp elt [⟨tg, iter, [], 0⟩] scope pos) 0 (.ref it) .none env
abbrev cStart (elt tg iter : Expr) (scope : Scope) (pos : Pos) (it : Addr) (env : Env) : Code := .compStart (.GeneratorExp elt [⟨tg, iter, [], 0⟩] scope pos) 0 (.ref it) .none env
section
variable {Y : Cx} {W : Around} {scope : Scope} {x : Str} {px pos : Pos} {elt iter : Expr} {it : Addr} {fp : List Addr} {tn : Nat → Heap → Prop} {J : It} {gp : List (Addr × Obj)} {H1 : Hp} {S : List Addr} {ds : List D} {f : EE} {w : Wi} {Re : List Nat}
theorem drop_at {j : Nat} (h : j < ds.length) : ∃ d, ds[j]? = some d ∧ ds.drop j = d :: ds.drop (j + 1) := ⟨ds[j], List.getElem?_eq_getElem h, List.drop_eq_getElem_cons h⟩
/-- a turn of the generator -/
theorem seg_turns (hcalm : Y.calm = true) (hN : Y.N = [(".0" : Str), x]) (hov : W.over (cLoop elt (.Name x px) iter scope pos it Y.env) [] = Y.A) (T : Turn Y.prog Y.w Y.K (.Name x px) J fp it tn)
    (stat : ∀ H b, b ∈ fp → H b = none → FpOk Y gp H b) (Wk : Walks Y.K (hid S H1) J ds) (hS : Sub S H1) (htab : ∀ P ∈ w.tb, GxR.TabG (hid S H1) P) (hel : DE Y w.no Re elt f) (hco : Y.env.scope.isCoroutine = false)
    (hg : PG Y (.Name x px) (gName 1)) (hxe : ∀ e s, ¬ Y.xe e s) :
    ∀ (k j : Nat) (r : Bool) (s₀ s : Shared), ds.length - j = k → j ≤ ds.length → allGo f (ds.drop j) = .ok r → GSt Y gp H1 fp tn j s →
      Seg (model Y.prog Y.w) W (AEnd Y gp H1) (AItem Y gp H1 fp tn f ds) k s₀ (cLoop elt (.Name x px) iter scope pos it Y.env) ((model Y.prog Y.w).den (cLoop elt (.Name x px) iter scope pos it Y.env)) [] s := by
  intro k
  induction k with
  | zero =>
    intro j r s₀ s hk hj hr hG
    obtain ⟨H2, σ2, I, ex, st, fn⟩ := hG
    have stop : J.stop j H2 := (Wk j H2 (hid_le.trans ex)).1 (by omega)
    show Seg _ W _ _ _ s₀ _ ((compTurn _ 0 (.ref it) .none Y.env).onRaise (leaving Y.env)) [] s
    rw [compTurn_gen, Sem.onRaise_eq_wrap]
    refine seg_bind_wrap (wpAny_standAt (seg_bind_wrap ?_))
    rw [hov]
    refine wpAny_mono (T.done Y rfl rfl rfl hcalm j gp s σ2 H2 (fun _ _ => False) I (fun b m => stat H2 b m (fn b m)) st stop) (fun q s1 hq => ?_) fun _ _ z => z.elim
    obtain ⟨rfl, I1⟩ := hq
    exact seg_end (.ok .next) ⟨rfl, rfl, H2, σ2, I1, ex⟩
  | succ k ih =>
    intro j r s₀ s hk hj hr hG
    have hlt : j < ds.length := by omega
    obtain ⟨d, hd, hdrop⟩ := drop_at hlt
    rw [hdrop] at hr
    obtain ⟨b, c, hb, hrest, _⟩ := allGo_cons hr
    obtain ⟨H2, σ2, I, ex, st, fn⟩ := hG
    have ex1 : Ex (hid S H1) H2 := hid_le.trans ex
    obtain ⟨go, yl⟩ := (Wk j H2 ex1).2 d hd
    show Seg _ W _ _ _ s₀ _ ((compTurn _ 0 (.ref it) .none Y.env).onRaise (leaving Y.env)) [] s
    rw [compTurn_gen, Sem.onRaise_eq_wrap]
    refine seg_bind_wrap (wpAny_standAt (seg_bind_wrap ?_))
    rw [hov]
    refine wpAny_mono (T.item Y rfl rfl rfl hcalm j gp s σ2 H2 (fun _ _ => False) I (fun b m => stat H2 b m (fn b m)) st go) (fun q s1 hq => ?_) fun _ _ z => z.elim
    obtain ⟨u, rfl, h1⟩ := hq
    refine seg_bind_wrap ?_
    rw [hov]
    refine wpAny_mono h1 (fun _ s2 h2 => ?_) fun _ _ z => z.elim
    obtain ⟨v, H3, I3, rv, yd, st3, fn3⟩ := h2
    obtain ⟨ex3, den⟩ := yl v H3 yd
    have hden : Den Y.K (hid S H3) v d := den S (hS.mono ex) (hid_ex ex)
    have I3' := I3.pinned (fun b m => stat H3 b m (fn3 b m)) (T.obj _ _ st3)
    refine seg_bind_wrap ?_
    rw [hov]
    refine wpAny_mono (hg.run _ s2 σ2 H3 v u (fun σ' H' => σ' = σ2.set 1 (some v) ∧ H' = H3) I3' rv ⟨rfl, rfl⟩) (fun _ s4 h4 => ?_) fun e s' z => (hxe e s' z).elim
    obtain ⟨σ4, H4, I4, rfl, rfl⟩ := h4
    have hlen : σ2.length = 2 := by have := I.len; rw [hN] at this; exact this
    have subS : Sub S H4 := (hS.mono ex).mono ex3
    have okE : EnvOk Y.K w.no.tb Re [none, some d] (σ2.set 1 (some v)) (hid S H4) := ⟨by rw [List.length_set, hlen]; rfl, fun P m => (hid_ex (ex.trans ex3)).tab (htab P m), fun i _ c hc => by
      have hi : i = 1 ∧ c = d := by
        rcases i with _ | _ | i
        · simp at hc
        · simp at hc; exact ⟨rfl, hc.symm⟩
        · simp at hc
      obtain ⟨rfl, rfl⟩ := hi
      exact ⟨v, List.getElem?_set_self (by omega), hden⟩⟩
    have hev := hel.run (gp ++ pinsAt fp s2.heap) s4 (σ2.set 1 (some v)) H4 (fun y H' => y = .bl b ∧ Ex H4 H') I4 ⟨S, [none, some d], subS, okE, by rw [hb]; exact fun y H' e dn => ⟨den_bl dn, e⟩⟩
    simp only [List.forIn_nil]
    refine seg_bind_wrap (wpAny_pure ?_)
    have hy : ∀ v, yieldOut Y.env v = yieldValue v := fun v => by simp only [yieldOut, hco, Bool.false_eq_true, if_false]
    simp only [hy, if_true]
    rw [Sem.bind_eq_wrap', Sem.bind_eq_wrap', Sem.wrap_wrap, Sem.wrap_wrap]
    refine seg_wrap ?_
    rw [hov]
    refine wpAny_mono hev (fun y s5 h5 => ?_) fun e s' z => (hxe e s' z).elim
    obtain ⟨v5, H5, I5, r5, rfl, ex5⟩ := h5
    obtain rfl : y = .bool b := r5
    have pin5 : ∀ c ∈ fp, ∃ o, s2.heap.get? c = some o ∧ s5.heap.get? c = some o ∧ H5 c = none := fun c m => by
      obtain ⟨o, e, _⟩ := T.obj _ _ st3 c m
      have := I5.pin (c, o) (List.mem_append_right _ (List.mem_append_right _ (mem_pinsAt m e)))
      exact ⟨o, e, this.1, this.2.1⟩
    have st5 : tn (j + 1) s5.heap := T.keep _ _ _ st3 fun c m o e => by
      obtain ⟨o', e1, e2, _⟩ := pin5 c m
      rw [e1] at e
      cases e
      exact e2
    have G5 : GSt Y gp H1 fp tn (j + 1) s5 := ⟨H5, _, I5.unpinned, (ex.trans ex3).trans ex5, st5, fun c m => let ⟨_, _, _, z⟩ := pin5 c m; z⟩
    refine seg_at (seg_yield rfl rfl rfl ⟨j, b, d, by omega, hd, hb, rfl, G5, fun s6 h6 => ?_⟩)
    exact seg_again rfl (ih (j + 1) c s6 s6 (by omega) hlt hrest h6)
theorem seg_begins (hcalm : Y.calm = true) (hN : Y.N = [(".0" : Str), x]) (hov : W.over (cLoop elt (.Name x px) iter scope pos it Y.env) [] = Y.A) (T : Turn Y.prog Y.w Y.K (.Name x px) J fp it tn)
    (stat : ∀ H b, b ∈ fp → H b = none → FpOk Y gp H b) (Wk : Walks Y.K (hid S H1) J ds) (hS : Sub S H1) (htab : ∀ P ∈ w.tb, GxR.TabG (hid S H1) P) (hel : DE Y w.no Re elt f) (hco : Y.env.scope.isCoroutine = false)
    (hg : PG Y (.Name x px) (gName 1)) (hxe : ∀ e s, ¬ Y.xe e s) (r : Bool) (s₀ s : Shared) (hr : allGo f ds = .ok r) (hG : GSt Y gp H1 fp tn 0 s) :
    Seg (model Y.prog Y.w) W (AEnd Y gp H1) (AItem Y gp H1 fp tn f ds) ds.length s₀ (cStart elt (.Name x px) iter scope pos it Y.env) ((model Y.prog Y.w).den (cStart elt (.Name x px) iter scope pos it Y.env)) [] s := by
  have turns := seg_turns (w := w) hcalm hN hov T stat Wk hS htab hel hco hg hxe ds.length 0 r s₀ s (Nat.sub_zero _) (Nat.zero_le _) hr hG
  have st : tn 0 s.heap := let ⟨_, _, _, _, z, _⟩ := hG; z
  show Seg _ W _ _ _ s₀ _ ((compStart _ 0 (.ref it) .none Y.env).onRaise (leaving Y.env)) [] s
  unfold compStart
  rw [Sem.onRaise_eq_wrap]
  show Seg _ W _ _ _ s₀ _ ((ask >>= _).wrap _ _ _ _) [] s
  refine seg_bind_wrap (wpAny_askSetting ?_)
  split
  · exact seg_again rfl turns
  · refine seg_bind_wrap (wpAny_rule ?_)
    show Seg _ W _ _ _ s₀ _ ((standAt iter.pos >>= _).wrap _ _ _ _) [] s
    refine seg_bind_wrap (wpAny_standAt (seg_bind_wrap (T.self _ 0 s _ _ st (seg_again rfl turns))))
/-- the consumer's turns -/
theorem all_turns {A0 : Around} {a : Addr} {g : Nat} {Rf : Result → Shared → Prop} (hh : A0.handled = none) (hd : A0.depth < recursionLimit) (hgen : ∀ H σ s, Inv Y gp σ H s → s.heap.IsGen a g) :
    ∀ (k j : Nat) (r : Bool) (s : Shared), ds.length - j = k → j ≤ ds.length → allGo f (ds.drop j) = .ok r → GSt Y gp H1 fp tn j s →
      (∃ gs, s.gens[g]? = some gs ∧ ∀ s2, GSt Y gp H1 fp tn j s2 → gs.Goes (model Y.prog Y.w) A0.in1.in1 (AEnd Y gp H1) (AItem Y gp H1 fp tn f ds) k (.send .none) s2) →
      (∀ s', GEnd Y gp H1 s' → Rf (.ok (.ret (.bool r))) s') → codeAny (model Y.prog Y.w) A0 (.builtin "all.loop" ⟨[.ref a], []⟩) Rf s := by
  intro k
  induction k with
  | zero =>
    intro j r s hk hj hr hG ⟨gs, hgs, hgo⟩ hR
    have hjl : j = ds.length := by omega
    subst hjl
    rw [List.drop_length] at hr
    cases hr
    obtain ⟨H2, σ2, I, _⟩ := id hG
    refine codeAny_builtin F.entry_all_loop ?_
    rw [Around.under_plainId F.plain_all_loop _]
    show wpAny _ A0.in1 (pyNext (.ref a) >>= fun _ => _) _ _ s
    refine wpAny_bind (wpAny_pyNext_genexpQ (P := fun n _ s1 => n = 0 ∧ GEnd Y gp H1 s1) hh I.nolimit hd (hgen _ _ _ I) hgs (hgo _ (hG.set rfl)) (fun v s1 gs' hb hv => ?_) fun s1 hp h' hk => ?_)
    · obtain ⟨_, _, _, _, _, _, _, G1, kap⟩ := hv
      exact False.elim (kap s1 G1)
    · obtain ⟨_, H3, σ3, I3, ex3⟩ := hp
      refine wpAny_bind (wpAny_rule (wpAny_pure ?_))
      exact hR _ ⟨H3, σ3, (inv_gens I3 (bare_set I3.bare (g := g) (q := .finished) rfl)).kept hk, ex3⟩
  | succ k ih =>
    intro j r s hk hj hr hG ⟨gs, hgs, hgo⟩ hR
    have hlt : j < ds.length := by omega
    obtain ⟨d, hd', hdrop⟩ := drop_at hlt
    rw [hdrop] at hr
    obtain ⟨b, c, hb, hrest, rfl⟩ := allGo_cons hr
    have hgl : g < s.gens.size := (Array.getElem?_eq_some_iff.mp hgs).1
    obtain ⟨H2, σ2, I, _⟩ := id hG
    refine codeAny_builtin F.entry_all_loop ?_
    rw [Around.under_plainId F.plain_all_loop _]
    show wpAny _ A0.in1 (pyNext (.ref a) >>= fun _ => _) _ _ s
    refine wpAny_bind (wpAny_gsz (n := g + 1) hgl (wpAny_pyNext_genexpQ (P := fun n _ s1 => n = 0 ∧ GEnd Y gp H1 s1) hh I.nolimit hd (hgen _ _ _ I) hgs (hgo _ (hG.set rfl)) (fun v s1 gs' hbare hv => ?_) fun s1 hp h' hk => ?_))
    · intro hsz
      obtain ⟨j', b', d', e1, e2, e3, rfl, G1, kap⟩ := hv
      have hjj : j' = j := by omega
      subst hjj
      rw [hd'] at e2
      cases e2
      rw [hb] at e3
      cases e3
      rw [setGen_size] at hsz
      have hgs1 : (s1.setGen g gs').gens[g]? = some gs' := by
        show (s1.gens.setIfInBounds g gs')[g]? = some gs'
        simp [show g < s1.gens.size by omega]
      have G2 := G1.set (g := g) hbare
      refine wpAny_bind (wpAny_holding (wpAny_truthy_bool ?_))
      refine wpAny_bind (wpAny_letGo ?_)
      cases b with
      | true =>
        rw [if_pos rfl]
        exact wpAny_pure ⟨plainId_quiet F.plain_all_loop _, ih (j' + 1) c _ (by omega) hlt hrest G2 ⟨gs', hgs1, kap⟩ hR⟩
      | false =>
        rw [if_neg Bool.false_ne_true]
        refine wpAny_bind (wpAny_rule (wpAny_pure ?_))
        obtain ⟨H3, σ3, I3, ex3, _⟩ := G2
        exact hR _ ⟨H3, σ3, I3, ex3⟩
    · exact absurd hp.1 (Nat.succ_ne_zero k)
end
theorem clo_nil {cells : List (Str × Addr)} : ∀ {names : List (Str × NameKind)}, (∀ y ∈ names, y.2 ≠ .free) → cloFrom cells names [] = []
  | [], _ => rfl
  | (n, k) :: r, h => by
    unfold cloFrom
    have hk : ¬ (k == NameKind.free) = true := fun z => h (n, k) List.mem_cons_self (by simpa using z)
    rw [if_neg hk]
    exact clo_nil fun y m => h y (List.mem_cons_of_mem _ m)
theorem allGo_noerr {f : EE} {c : Str} : ∀ {ds : List D}, allGo f ds ≠ .err c
  | [] => fun e => by cases e
  | d :: ds => fun e => by
    unfold allGo at e
    cases q : f [none, some d] with
    | ok y =>
      rw [q] at e
      cases y with
      | bl b =>
        cases p : allGo f ds with
        | ok r => rw [p] at e; cases e
        | err c' => exact allGo_noerr p
        | stuck => rw [p] at e; cases e
      | _ => cases e
    | err c' => rw [q] at e; cases e
    | stuck => rw [q] at e; cases e
theorem walks_mono {K : PySem.W.Frag} {Hs Hs' : Hp} {J : It} {ds : List D} (h : Walks K Hs J ds) (e : Ex Hs Hs') : Walks K Hs' J ds := fun i H2 e2 => by
  obtain ⟨a, b⟩ := h i H2 (e.trans e2)
  exact ⟨a, fun d hd => ⟨(b d hd).1, fun x H' y => ⟨((b d hd).2 x H' y).1, fun S' s' e' => ((b d hd).2 x H' y).2 S' s' (e.trans e')⟩⟩⟩
section
variable {X : Cx} {w : Wi} {Ri Re : List Nat} {iter elt : Expr} {items : EL} {f : EE} {x : Str} {px p pos gpos : Pos} {scope : Scope} {k : Nat}
theorem de_allG (T : HasTab X.base X.mg w.tb X.env.code) (hr : Room (k + 1) X.A) (hm : X.mg "all" = none) (hi : DI X w Ri (.Name x px) iter items) (G : GScp scope x)
    (hel : ∀ (A : Around) (s : Shared) (H : Hp) (C : Addr) (cd : Value) (fp : List Addr), Room k A → DE (gX X scope x C cd A s H fp) w.no Re elt f)
    (hg : Gl X "all" := by rfl) (hs : ∀ v, genFold iter X.env v = pure v := by intro _; rfl)
    (hst : starEach [.GeneratorExp elt [⟨.Name x px, iter, [], 0⟩] scope gpos] X.env = (false, eval (.GeneratorExp elt [⟨.Name x px, iter, [], 0⟩] scope gpos) X.env) :: starEach [] X.env := by rfl) :
    DE X w Ri (.Call (.Name "all" p) [.GeneratorExp elt [⟨.Name x px, iter, [], 0⟩] scope gpos] [] pos) (eAllG items f) := by
  obtain ⟨c, P, hcode, TB, hT⟩ := T
  refine ⟨fun pins s σ H Q I h => ?_⟩
  obtain ⟨S, env, sub, ok, po⟩ := h
  refine wpAny_Call_Name_kw (ld_blt I hg hm (show bootBuiltins "all" = some (.builtin "all") by decide +kernel) ?_)
  refine PyProof.Rows.callWith_builtin1 ?_ hst (by rfl)
  rw [hst]
  show wpAny _ _ (spliced ((false, eval (.GeneratorExp elt [⟨.Name x px, iter, [], 0⟩] scope gpos) X.env) :: backTo pos (starEach [] X.env))) _ _ s
  refine Calls.spliced_cons ?_
  have clos : closureFor scope X.env = pure [] := by
    rw [closure_ok fun y m e => absurd e (G.plain y m).2, clo_nil fun y m => (G.plain y m).2]
  refine wpAny_GeneratorExp_make G.co clos (fun y m => (G.plain y m).1) G.dot G.kind (by have := hr.dp; omega) ?_ hs
  refine thn (hi.run pins s σ H (fun J H1 => ∃ ds, Ex H H1 ∧ Walks X.K (hid S H1) J ds ∧ Post (Den X.K) w S σ H1 Q ((allGo f ds).map D.bl)) I
    ⟨S, env, sub, ok, Post.bind (Rel2 := Den X.K) (k := fun ds => (allGo f ds).map D.bl) po fun ds _ J H1 e wk po1 => ⟨ds, e, wk, po1⟩⟩) fun v s1 h1 => thn h1 fun itv s2 h2 => ?_
  obtain ⟨it, fp, tn, J, H1, rfl, I1, T, st, hfp, ds, ex1, wk, po1⟩ := h2
  obtain ⟨r, hall⟩ : ∃ r, allGo f ds = .ok r := by
    cases q : allGo f ds with
    | ok r => exact ⟨r, rfl⟩
    | err e => exact absurd q allGo_noerr
    | stuck => rw [q] at po1; exact po1.elim
  rw [hall] at po1
  refine ⟨I1.nolimit, ?_⟩
  obtain ⟨ps, hP, ht⟩ := ex1.tab (hid_le.tab (ok.tab P hT))
  have hPs : s2.heap.get? P = some { cls := .none, data := .fields ps } := I1.hok P _ hP
  have cdh : PySem.W.CodeHd s2.heap c P := TB.code.keeps fun b u e => I1.bk b u e
  have nP : ∀ b, H1 b = none → b ≠ P := fun b e z => by rw [z, hP] at e; cases e
  have cont : ∀ (code : Value) (h3 : Heap) (tk : Nat) (ps' : Array Value), Heap.ExtBut P s2.heap h3 → s2.heap.objs.size ≤ h3.objs.size → h3.get? P = some { cls := .none, data := .fields ps' } → (∃ more, ps' = ps ++ more) → TriplesOk ps'.toList →
      wpAny (model X.prog X.w) X.A (builtinsFor X.env.globals X.env.builtins) (fun bi s4 => ∀ h', h'.Ns s4.heap.objs.size (fun y => if y = ".0" then some (.ref it) else none) → Heap.SameBut s4.heap.objs.size (s4.heap.push { cls := .type "frame", data := .dict #[] }) h' →
          wpAny (model X.prog X.w) X.A (spliced (backTo pos (starEach [] X.env))) (fun vs s' => wpAny (model X.prog X.w) X.A (call (.builtin "all") (.ref h'.objs.size :: vs)) (EP X pins σ Q) X.xe s') X.xe { s4 with
            gens := s4.gens.push (.fresh (cStart elt (.Name x px) iter scope gpos it (genEnv scope [] s4.heap.objs.size code bi X.env))),
            toks := s4.toks + 1 + 1 + 1,
            heap := h'.push { cls := .type "generator", data := .fields #[.int s4.gens.size 0, .str "<genexpr>" (s4.toks + 1), .str (X.env.qual ++ "<genexpr>") (s4.toks + 1 + 1)] } }) X.xe { s2 with heap := h3, toks := tk } := by
    intro code h3 tk ps' hx hsz3 hP3 hmore ht3
    obtain ⟨bm, ob, b1, b2, b3, b4, b5, b6, b7, b8⟩ := TB.bm
    refine wpAny_builtinsFor (m := X.mg) (by rw [I1.ok.glob]; exact (I1.mod.glob.keeps I1.bk).extBut hx TB.gP) b1 b2 (hx _ _ b4 (I1.bk _ _ b5)) b6 b7 b8 ?_
    intro h' hn' hs'
    obtain ⟨more, rfl⟩ := hmore
    -- the outer frame behind the code object
    have I4 : Inv X pins σ (upd H1 P (.tbl (ps ++ more))) { s2 with heap := h3, toks := tk } := GxR.inv_tab (more := more) I1 hP (fun b o hb e => hx b o hb e) hP3 I1.bare
    have ex14 : Ex H1 (upd H1 P (.tbl (ps ++ more))) := tabbed_ex ⟨ps, hP, ht⟩ ⟨⟨_, upd_same, ht3⟩, fun b hb => upd_ne hb⟩
    have none4 : ∀ b, H1 b = none → upd H1 P (.tbl (ps ++ more)) b = none := fun b e => by rw [upd_ne (nP b e)]; exact e
    have hfp4 : ∀ b ∈ fp, FpOk X pins (upd H1 P (.tbl (ps ++ more))) b ∧ b < h3.objs.size := fun b m => by
      obtain ⟨f0, f1⟩ := hfp b m
      obtain ⟨o, e, _⟩ := T.obj _ _ st b m
      exact ⟨⟨none4 b f0, f1⟩, Nat.lt_of_lt_of_le (Heap.lt_size e) hsz3⟩
    have st4 : tn 0 h3 := T.keep _ _ _ st fun b m o e => hx b o (nP b (hfp b m).1) e
    have hsz : h'.objs.size = h3.objs.size + 1 := by rw [hs'.1, Heap.size_push]
    have keep1 : ∀ b o, h3.get? b = some o → h'.get? b = some o := fun b o e => hs'.extBut b o (Nat.ne_of_lt (Heap.lt_size e)) (Heap.get?_push_of_some _ e)
    have keep5 : ∀ b o, h3.get? b = some o → (h'.push { cls := .type "generator", data := .fields #[.int s2.gens.size 0, .str "<genexpr>" (tk + 1), .str (X.env.qual ++ "<genexpr>") (tk + 1 + 1)] }).get? b = some o := fun b o e => Heap.get?_push_of_some _ (keep1 b o e)
    -- the generator's frame
    have hfr : (X.A.in1.in1.over (cLoop elt (.Name x px) iter scope gpos it (genEnv scope [] h3.objs.size code builtinsNs X.env)) []).frames = some (genEnv scope [] h3.objs.size code builtinsNs X.env :: X.stack) := by
      show pushEnvs [genEnv scope [] h3.objs.size code builtinsNs X.env] (pushEnvs [] X.A.frames) = _
      rw [I1.ok.frames]
      rfl
    have room : Room k (X.A.in1.in1.over (cLoop elt (.Name x px) iter scope gpos it (genEnv scope [] h3.objs.size code builtinsNs X.env)) []) := ⟨hr.hd, by
      have := hr.dp
      show X.A.depth + 0 + 1 + 3 * k + 5 < _
      omega, by
      have := hr.un
      show X.A.units + 1 + 1 + 0 + 3 + 16 * k + 200 < _
      omega⟩
    have yok := gX_ok (C := h3.objs.size) (cd := code) (fp := fp) I4 G (Nat.le_refl _) room.hd hfr hfp4
    have gen5 : (h'.push { cls := .type "generator", data := .fields #[.int s2.gens.size 0, .str "<genexpr>" (tk + 1), .str (X.env.qual ++ "<genexpr>") (tk + 1 + 1)] }).get? h'.objs.size = some { cls := .type "generator", data := .fields #[.int s2.gens.size 0, .str "<genexpr>" (tk + 1), .str (X.env.qual ++ "<genexpr>") (tk + 1 + 1)] } := Heap.get?_push_size _ rfl
    have aC : h'.objs.size ≠ h3.objs.size := by omega
    have afr : h'.objs.size ∉ frs X.stack := fun hb => by
      rcases List.mem_cons.mp (I4.stkSub _ hb) with z | z
      · have := I4.lt
        rw [← z] at this
        have h9 : (h'.objs.size : Nat) < h3.objs.size := this
        omega
      · exact I4.nofs (show h3.objs.size ≤ h'.objs.size by omega) z
    have I5 : Inv (gX X scope x h3.objs.size code (X.A.in1.in1.over (cLoop elt (.Name x px) iter scope gpos it (genEnv scope [] h3.objs.size code builtinsNs X.env)) []) { s2 with heap := h3, toks := tk } (upd H1 P (.tbl (ps ++ more))) fp)
        [(h'.objs.size, { cls := .type "generator", data := .fields #[.int s2.gens.size 0, .str "<genexpr>" (tk + 1), .str (X.env.qual ++ "<genexpr>") (tk + 1 + 1)] })] [none, none] (upd H1 P (.tbl (ps ++ more)))
        { s2 with
            gens := s2.gens.push (.fresh (cStart elt (.Name x px) iter scope gpos it (genEnv scope [] h3.objs.size code builtinsNs X.env))), toks := tk + 1 + 1 + 1,
            heap := h'.push { cls := .type "generator", data := .fields #[.int s2.gens.size 0, .str "<genexpr>" (tk + 1), .str (X.env.qual ++ "<genexpr>") (tk + 1 + 1)] } } :=
      ⟨yok, rfl, I4.bare.push rfl, Un.kept keep5, ⟨_, hn'.push _, fun i y v _ e => by rcases i with _ | _ | i <;> simp at e⟩, fun _ _ e => (by cases e), I4.hok.fresh (Nat.le_refl _), fun _ _ e => (by cases e),
        fun p hp => by
          have hp : p ∈ [(h'.objs.size, _)] := hp
          rw [List.mem_singleton.mp hp]
          exact ⟨gen5, I4.hok.fresh (show h3.objs.size ≤ h'.objs.size by omega), aC, afr, fun v z => by cases z⟩, I4.hok.kept keep5, rfl⟩
    have st5 : tn 0 (h'.push { cls := .type "generator", data := .fields #[.int s2.gens.size 0, .str "<genexpr>" (tk + 1), .str (X.env.qual ++ "<genexpr>") (tk + 1 + 1)] }) := T.keep _ _ _ st4 fun b _ o e => keep5 b o e
    have G5 := (⟨_, _, I5, Ex.refl _, st5, fun b m => (hfp4 b m).1.1⟩ : GSt _ _ (upd H1 P (.tbl (ps ++ more))) fp tn 0 _)
    refine Calls.spliced_nil ?_
    refine call_function_tree F.kind_all F.plain_all F.entry_all (F.args_all1 _) ?_
    unfold Builtin.«all»
    refine wpAny_bind (m := oneArg "all" _) (wpAny_pure ?_)
    refine wpAny_bind (wpAny_pyIter_gen ⟨_, _, _, gen5, rfl, rfl, rfl⟩ ?_)
    have stat : ∀ H b, b ∈ fp → H b = none → FpOk (gX X scope x h3.objs.size code (X.A.in1.in1.over (cLoop elt (.Name x px) iter scope gpos it (genEnv scope [] h3.objs.size code builtinsNs X.env)) []) { s2 with heap := h3, toks := tk } (upd H1 P (.tbl (ps ++ more))) fp)
        [(h'.objs.size, { cls := .type "generator", data := .fields #[.int s2.gens.size 0, .str "<genexpr>" (tk + 1), .str (X.env.qual ++ "<genexpr>") (tk + 1 + 1)] })] H b := fun H b m e => by
      obtain ⟨⟨_, g1, g2, _⟩, g3⟩ := hfp4 b m
      refine ⟨e, fun z => ?_, fun hb => ?_, .inl m, fun _ _ z => (by cases z), fun p hp => ?_⟩
      · have z : b = h3.objs.size := z
        rw [z] at g3
        exact Nat.lt_irrefl _ g3
      · rcases List.mem_cons.mp (I4.stkSub _ hb) with z | z
        · exact g1 z
        · exact g2 z
      · have hp : p ∈ [(h'.objs.size, _)] := hp
        rw [List.mem_singleton.mp hp]
        exact Nat.ne_of_gt (show b < h'.objs.size by rw [hsz]; exact Nat.lt_succ_of_lt g3)
    have beg := fun (s0 s1 : Shared) hG => seg_begins (Y := gX X scope x h3.objs.size code (X.A.in1.in1.over (cLoop elt (.Name x px) iter scope gpos it (genEnv scope [] h3.objs.size code builtinsNs X.env)) []) { s2 with heap := h3, toks := tk } (upd H1 P (.tbl (ps ++ more))) fp) (w := w) (S := S) (W := X.A.in1.in1) (r := r) (s₀ := s0) (s := s1) rfl rfl rfl T stat (walks_mono wk (hid_ex ex14)) ((sub.mono ex1).mono ex14) (fun P' m => (hid_ex (ex1.trans ex14)).tab (ok.tab P' m)) (hel _ { s2 with heap := h3, toks := tk } (upd H1 P (.tbl (ps ++ more))) h3.objs.size code fp room) G.co
      (pg_name (i := 1) (show [(".0" : Str), x].Nodup by simpa using G.ne) rfl (.inl G.loc) (.inr G.loc)) (fun _ _ z => z) hall hG
    refine wpAny_pure ⟨plainId_quiet F.plain_all_loop _, all_turns (Y := gX X scope x h3.objs.size code (X.A.in1.in1.over (cLoop elt (.Name x px) iter scope gpos it (genEnv scope [] h3.objs.size code builtinsNs X.env)) []) { s2 with heap := h3, toks := tk } (upd H1 P (.tbl (ps ++ more))) fp) (gp := [(h'.objs.size, { cls := .type "generator", data := .fields #[.int s2.gens.size 0, .str "<genexpr>" (tk + 1), .str (X.env.qual ++ "<genexpr>") (tk + 1 + 1)] })]) (A0 := X.A) (g := s2.gens.size) hr.hd (by have := hr.dp; omega) (fun H' σ' s' I' => ?_) ds.length 0 r _ (Nat.sub_zero _) (Nat.zero_le _) hall G5 ⟨_, Array.getElem?_push_size .., fun s' hG => ⟨rfl, beg s' s' hG⟩⟩ fun s' hE => ?_⟩
    · exact ⟨_, _, _, (I'.pin (h'.objs.size, _) (List.mem_append_right _ List.mem_cons_self)).1, rfl, rfl, rfl⟩
    · obtain ⟨H6, σ6, I6, ex6⟩ := hE
      refine ⟨.bl r, H6, I4.call' (ch := fp) I6.os I6.base I6.hok I6.bare fun b m => ?_, rfl, po1 _ _ (ex14.trans ex6) (.bl r)⟩
      obtain ⟨⟨_, g1, _, g4, g5, g6⟩, _⟩ := hfp4 b m
      exact ⟨g4, g1, g5, g6⟩
  cases hf : codeAmong gpos ps.toList with
  | none =>
    refine wpAny_genexprCodeX hcode (cdh.code hPs ht) (cdh.tab hPs) hf fun c' h3 tk hx hge hlt hco' _ htab' _ => ?_
    obtain ⟨_, _, _, _, _, _, _, _, _, _, _, _, _, _, _, _, _, _, _, htr, _⟩ := hco'
    exact cont _ h3 tk _ hx (Nat.le_trans hge (Nat.le_of_lt hlt)) htab'.2 ⟨_, rfl⟩ htr
  | some cv =>
    refine wpAny_genexprCode_hit hcode (cdh.code hPs ht) hf ?_
    exact cont cv s2.heap s2.toks ps (Heap.ExtBut.refl _ _) (Nat.le_refl _) hPs ⟨#[], by simp⟩ ht
end
end Dx
set_option Elab.async false
set_option linter.all false
set_option maxRecDepth 100000
set_option maxHeartbeats 4000000
namespace Dx
open PySem PySem.Spec PyProof.Rows L2
inductive Kd where | L | T
def SqK (k : Kd) (K : PySem.W.Frag) (H : Hp) (a : Addr) (xs : List V) : Prop := match k with
  | .L => SqL K H a xs
  | .T => SqT K H a xs
def ItK (k : Kd) (h : Heap) (it a : Addr) (i : Nat) : Prop := match k with
  | .L => h.IsListIter it a i
  | .T => h.IsTupleIter it a i
def IsK (k : Kd) (h : Heap) (a : Addr) (its : Array Value) : Prop := match k with
  | .L => h.IsList a its
  | .T => h.IsTuple a its
def oK (k : Kd) (a : Addr) : Obj := match k with
  | .L => { cls := .type "list_iterator", data := .fields #[.ref a, .int 0 0] }
  | .T => { cls := .type "tuple_iterator", data := .fields #[.ref a, .int 0 0] }
section
variable {k : Kd} {K : PySem.W.Frag} {H H' : Hp} {h h' : Heap} {a it : Addr} {i : Nat} {xs : List V} {its : Array Value} {prog : Program} {w : World} {A : Around}
theorem drawsK (hh : A.handled = none) (hne : a ≠ it) : Draws prog w A it [it, a] its.size (fun i v => its[i]? = some v) (fun i h => ItK k h it a i ∧ IsK k h a its) := by
  cases k
  · exact Draws.list hh it a hne its
  · exact Draws.tuple hh it a hne its
theorem itK_obj (st : ItK k h it a i) : ∃ o, h.get? it = some o ∧ ∀ v, o.data ≠ .cell v := by
  cases k <;> (obtain ⟨o, e, _, d⟩ := st; exact ⟨o, e, fun v z => by rw [d] at z; cases z⟩)
theorem itK_at (st : ItK k h it a i) (hk : ∀ o, h.get? it = some o → h'.get? it = some o) : ItK k h' it a i := by
  cases k
  · exact Heap.IsListIter.at st hk
  · exact Heap.IsTupleIter.at st hk
theorem beginsK (its : Array Value) : Begins (.ref a) (oK k a) fun h => IsK k h a its := by
  cases k
  · exact begins_list a its
  · exact begins_tuple a its
theorem itK_new (e : h.get? it = some (oK k a)) : ItK k h it a 0 := by
  cases k <;> exact ⟨_, e, rfl, rfl⟩
theorem isK_lt (p : IsK k h a its) : a < h.objs.size := by
  cases k <;> (obtain ⟨o, e, _⟩ := p; exact Heap.lt_size e)
theorem ex_k (e : Ex H H') (q : SqK k K H a xs) : SqK k K H' a xs := by
  cases k
  · exact ex_l e q
  · exact ex_t e q
variable {X : Cx} {pins : List (Addr × Obj)} {σ : L2.St} {s : Shared}
theorem seqK (I : Inv X pins σ H s) (q : SqK k X.K H a xs) : ∃ its, Vals xs its ∧ IsK k s.heap a its.toArray := by
  cases k
  · obtain ⟨its, rv, p, _⟩ := I.list q
    exact ⟨its, rv, p.isList⟩
  · obtain ⟨its, rv, p, _⟩ := I.tuple q
    exact ⟨its, rv, p⟩
theorem injK {ys : List V} (I : Inv X pins σ H s) (q : SqK k X.K H a xs) (q2 : SqK k X.K H a ys) : xs = ys := by
  cases k
  · exact I.list_inj q q2
  · exact I.tuple_inj q q2
end
def Itm2 (K : PySem.W.Frag) (k1 k2 : Kd) (a b : Addr) (n1 n2 : Nat) : It :=
  ⟨fun i H => ∃ (xs ys : List V) (x y : V), SqK k1 K H a xs ∧ SqK k2 K H b ys ∧ xs.length = n1 ∧ ys.length = n2 ∧ xs[i]? = some x ∧ ys[i]? = some y,
    fun i H v H' => ∃ T x y, v = .ref T ∧ H T = none ∧ H' = upd H T (.tup [x, y]) ∧ (∀ xs, SqK k1 K H a xs → xs[i]? = some x) ∧ ∀ ys, SqK k2 K H b ys → ys[i]? = some y,
    fun i H => ∃ xs ys : List V, SqK k1 K H a xs ∧ SqK k2 K H b ys ∧ xs.length = n1 ∧ ys.length = n2 ∧ (xs.length ≤ i ∨ ys.length ≤ i)⟩
theorem size_of {xs : List V} {its : List Value} (r : Vals xs its) : its.toArray.size = xs.length := by rw [← r.length.symm]; simp
theorem turn_zip2K {P : Program} {w : World} {K : PySem.W.Frag} {elts : List Expr} {kk : Nat} {tpos : Pos} {a b z TI TO i1 i2 : Addr} {k1 k2 : Kd} {n1 n2 : Nat} (D : ZipSep2 z TI TO i1 i2 [i1, a] [i2, b]) (ha : a ≠ i1) (hb : b ≠ i2) :
    Turn P w K (.Tuple elts kk tpos) (Itm2 K k1 k2 a b n1 n2) [z, TI, TO, i1, i2] z (fun i h => IsZip h z TI TO .none ∧ IsTupOf2 h TI (.ref i1) (.ref i2) ∧ (∃ x y, IsTupOf2 h TO x y) ∧ ItK k1 h i1 a i ∧ ItK k2 h i2 b i ∧ i ≤ n1 ∧ i ≤ n2) where
  mem := List.mem_cons_self
  obj := fun i h st c hc => by
    obtain ⟨hz, hTI, ⟨x, y, hTO⟩, h1, h2, _⟩ := st
    have hc' : c = z ∨ c = TI ∨ c = TO ∨ c = i1 ∨ c = i2 := by simpa using hc
    rcases hc' with rfl | rfl | rfl | rfl | rfl
    · exact ⟨_, hz, fun v q => nomatch q⟩
    · exact ⟨_, hTI, fun v q => nomatch q⟩
    · exact ⟨_, hTO, fun v q => nomatch q⟩
    · exact itK_obj h1
    · exact itK_obj h2
  keep := fun i h h' st k => by
    obtain ⟨hz, hTI, ⟨x, y, hTO⟩, h1, h2, hle⟩ := st
    exact ⟨k z (by simp) _ hz, k TI (by simp) _ hTI, ⟨x, y, k TO (by simp) _ hTO⟩, itK_at h1 fun o q => k i1 (by simp) o q, itK_at h2 fun o q => k i2 (by simp) o q, hle⟩
  item := by
    intro X hP hw hK hc i pins s σ H E I hf st hg
    subst hP hw hK
    obtain ⟨hz, hTI, hTO, h1, h2, hle⟩ := st
    obtain ⟨xs, ys, x, y, hqx, hqy, hl1, hl2, hx, hy⟩ := hg
    obtain ⟨its, rv, p⟩ := seqK I hqx
    obtain ⟨its2, rv2, p2⟩ := seqK I hqy
    obtain ⟨u, hu, ru⟩ := rv.get hx
    obtain ⟨u2, hu2, ru2⟩ := rv2.get hy
    have W := WalksT.zipD2 (prog := X.prog) (w := X.w) (A := X.A) D (drawsK (k := k1) (its := its.toArray) (I.ok.hd hc) ha) (drawsK (k := k2) (its := its2.toArray) (I.ok.hd hc) hb)
    have m1 : i < its.toArray.size := by rw [size_of rv]; exact (List.getElem?_eq_some_iff.mp hx).1
    have m2 : i < its2.toArray.size := by rw [size_of rv2]; exact (List.getElem?_eq_some_iff.mp hy).1
    have hle2 : i + 1 ≤ n1 ∧ i + 1 ≤ n2 := by rw [size_of rv] at m1; rw [size_of rv2] at m2; omega
    refine W.item i s _ _ (by omega) ⟨hz, hTI, hTO, ⟨h1, p⟩, h2, p2⟩ fun T vals h' tk hP hsz hT mid hk => ?_
    refine ⟨_, rfl, W.go elts kk tpos i T { s with heap := h', toks := tk } _ _ mid fun h2' st2 hk2 => ?_⟩
    obtain ⟨v1, v2, e1, e2, rfl⟩ := hP
    have e1 : its[i]? = some v1 := by simpa using e1
    have e2 : its2[i]? = some v2 := by simpa using e2
    rw [hu] at e1
    rw [hu2] at e2
    cases e1
    cases e2
    obtain ⟨oT, eT, r⟩ := hT
    have new : ObjOk X.prog X.w (upd H T (.tup [x, y])) h2' T (.tup [x, y]) := ⟨by show 2 ≤ sizeLine; decide, [u, u2], .cons ru (.cons ru2 .nil), ⟨oT, hk2 T oT (W.apart i T h' mid) eT, r⟩⟩
    have sub : ∀ c, c ∉ [z, TI, TO, i1, i2] → c ∉ [z, TO, i1, i2] := fun c hc m => hc (by simp at m ⊢; rcases m with q | q | q | q <;> simp [q])
    have I1 : Inv X pins σ (upd H T (.tup [x, y])) { s with heap := h2', toks := tk } := I.turnedNew (t' := tk) (ch := [z, TI, TO, i1, i2]) (fun c o hc q => hk2 c o (sub c hc) (hk c o (sub c hc) q)) hf hsz new
    refine ⟨.ref T, _, I1, rfl, ⟨T, x, y, rfl, I.hok.fresh hsz, rfl, fun l hl => by rw [injK I hl hqx]; exact hx, fun l hl => by rw [injK I hl hqy]; exact hy⟩, ⟨st2.1, st2.2.1, st2.2.2.1, st2.2.2.2.1.1, st2.2.2.2.2.1, hle2⟩, fun c m => ?_⟩
    have hn := (hf c m).1
    rw [upd_ne fun e => ?_]
    · exact hn
    · have lt : c < s.heap.objs.size := by
        have hc' : c = z ∨ c = TI ∨ c = TO ∨ c = i1 ∨ c = i2 := by simpa using m
        rcases hc' with rfl | rfl | rfl | rfl | rfl
        · exact Heap.lt_size hz
        · exact Heap.lt_size hTI
        · obtain ⟨_, _, q⟩ := hTO; exact Heap.lt_size q
        · obtain ⟨_, q, _⟩ := itK_obj h1; exact Heap.lt_size q
        · obtain ⟨_, q, _⟩ := itK_obj h2; exact Heap.lt_size q
      rw [e] at lt
      exact absurd (Nat.lt_of_lt_of_le lt hsz) (Nat.lt_irrefl _)
  done := by
    intro X hP hw hK hc i pins s σ H E I hf st hg
    subst hP hw hK
    obtain ⟨hz, hTI, ⟨x, y, hTO⟩, h1, h2, hle⟩ := st
    obtain ⟨xs, ys, hqx, hqy, hl1, hl2, hend⟩ := hg
    obtain ⟨its, rv, p⟩ := seqK I hqx
    obtain ⟨its2, rv2, p2⟩ := seqK I hqy
    have z1 := size_of rv
    have z2 := size_of rv2
    refine wpAny_pyNext_zipD2_end (A := X.A) D (drawsK (k := k1) (its := its.toArray) (I.ok.hd hc) ha) (drawsK (k := k2) (its := its2.toArray) (I.ok.hd hc) hb) hz hTI hTO ⟨h1, p⟩ ⟨h2, p2⟩ (by omega) (by omega) (by omega) fun h' tk hk => ?_
    exact ⟨rfl, I.turnedL (ch := [z, TI, TO, i1, i2]) (fun c o hb q => hk c o (fun q' => hb (by simp [q'])) (fun q' => hb (by simp [q'])) (fun q' => hb (by simp [q'])) (fun q' => hb (by simp [q'])) q) hf⟩
  self := fun A i s Q E st h => wpAny_pyIter_zip st.1 h
def iZipM (K : PySem.W.Frag) (ta : TA) : TI := fun σ H R => ta σ H fun vs H1 => ∃ a b xs ys k1 k2, vs = [.ref a, .ref b] ∧ SqK k1 K H1 a xs ∧ SqK k2 K H1 b ys ∧ R (Itm2 K k1 k2 a b xs.length ys.length) H1
theorem pi_zipM {X : Cx} {e e2 : Expr} {ta : TA} {p pos tpos : Pos} {elts : List Expr} {kk : Nat} (hg : Gl X "zip") (hm : X.mg "zip" = none) (ha : PA X [e, e2] ta)
    (hs : starEach [e, e2] X.env = (false, eval e X.env) :: starEach [e2] X.env := by rfl) (hpl : (backTo pos (starEach [e2] X.env)).any (·.1) = false := by rfl) :
    PI X (.Tuple elts kk tpos) (.Call (.Name "zip" p) [e, e2] [] pos) (iZipM X.K ta) := by
  refine ⟨fun pins s σ H R I h => ?_⟩
  refine Call_ (ld_blt I hg hm PyProof.Rows.boot_zip (PyProof.Rows.callWith_type1 (thn (ha.run pos pins s σ H _ I h) fun us s1 ⟨vs, H1, I1, r1, q1⟩ => ?_) hs hpl))
  obtain ⟨a, b, xs, ys, k1, k2, ex, hqx, hqy, q⟩ := q1
  subst ex
  cases r1 with
  | cons r rr =>
    cases rr with
    | cons r' rr =>
      cases rr
      cases r
      cases r'
      have fresh5 : ∀ c, c ∈ [s1.heap.objs.size + 4, s1.heap.objs.size + 2, s1.heap.objs.size + 3, s1.heap.objs.size, s1.heap.objs.size + 1] → FpOk X pins H1 c := fun c hcm => by
        have e' : c = s1.heap.objs.size + 4 ∨ c = s1.heap.objs.size + 2 ∨ c = s1.heap.objs.size + 3 ∨ c = s1.heap.objs.size ∨ c = s1.heap.objs.size + 1 := by simpa using hcm
        have hle : s1.heap.objs.size ≤ c := by
          rcases e' with z | z | z | z | z
          · rw [z]; exact Nat.le_add_right _ _
          · rw [z]; exact Nat.le_add_right _ _
          · rw [z]; exact Nat.le_add_right _ _
          · rw [z]; exact Nat.le_refl _
          · rw [z]; exact Nat.le_add_right _ _
        exact I1.fpOk hle (I1.hok.fresh hle)
      obtain ⟨its, rv, p1⟩ := seqK I1 hqx
      obtain ⟨its2, rv2, p2⟩ := seqK I1 hqy
      have la := isK_lt p1
      have lb := isK_lt p2
      refine zip_begins2 (beginsK (k := k1) its.toArray) (beginsK (k := k2) its2.toArray) p1 p2 fun h' hz hTI hTO g1 g2 hsz hk => wpAny_pyIter_zip hz ?_
      have I2 : Inv X pins σ H1 { s1 with heap := h' } := I1.kept (t' := s1.toks) hk
      have sep : ZipSep2 (s1.heap.objs.size + 4) (s1.heap.objs.size + 2) (s1.heap.objs.size + 3) s1.heap.objs.size (s1.heap.objs.size + 1) [s1.heap.objs.size, a] [s1.heap.objs.size + 1, b] := zip_sep2 (fp1 := [a]) (fp2 := [b]) (fun c m => by rw [List.mem_singleton.mp m]; exact la) (fun c m => by rw [List.mem_singleton.mp m]; exact lb)
      exact ⟨s1.heap.objs.size + 4, [s1.heap.objs.size + 4, s1.heap.objs.size + 2, s1.heap.objs.size + 3, s1.heap.objs.size, s1.heap.objs.size + 1], _, _, H1, rfl, I2, turn_zip2K sep (Nat.ne_of_lt la) (Nat.ne_of_lt (Nat.lt_succ_of_lt lb)), ⟨hz, hTI, ⟨_, _, hTO⟩, itK_new g1, itK_new g2, Nat.zero_le _, Nat.zero_le _⟩, fresh5, q⟩
def enumD : Nat → List D → List D
  | _, [] => []
  | k, d :: ds => .tup [.int (k : Nat), d] :: enumD (k + 1) ds
theorem enumD_len : ∀ (k : Nat) (ds : List D), (enumD k ds).length = ds.length
  | _, [] => rfl
  | k, d :: ds => by simp [enumD, enumD_len (k + 1) ds]
theorem enumD_get : ∀ {k : Nat} {ds : List D} {i : Nat} {d : D}, (enumD k ds)[i]? = some d → ∃ c, ds[i]? = some c ∧ d = .tup [.int ((k + i : Nat) : Int), c]
  | _, [], _, _, h => by simp [enumD] at h
  | k, x :: ds, 0, d, h => by simp [enumD] at h; exact ⟨x, rfl, h.symm⟩
  | k, x :: ds, i + 1, d, h => by
    obtain ⟨c, h1, h2⟩ := enumD_get (k := k + 1) (ds := ds) (i := i) (by simpa [enumD] using h)
    exact ⟨c, by simpa using h1, by rw [h2, Nat.add_right_comm, Nat.add_assoc]⟩
section
variable {K : PySem.W.Frag} {Hs : Hp} {a b : Addr} {xs ys : List V} {ds es : List D} {k1 k2 : Kd}
theorem walks_zipM (h : SqK k1 K Hs a xs) (r : DenL K Hs xs ds) (h' : SqK k2 K Hs b ys) (r' : DenL K Hs ys es) : Walks K Hs (Itm2 K k1 k2 a b xs.length ys.length) (zipD ds es) := fun i H2 e => by
  have h2 := ex_k e h
  have h2' := ex_k e h'
  refine ⟨fun hi => ⟨xs, ys, h2, h2', rfl, rfl, ?_⟩, fun d hd => ?_⟩
  · rw [zipD_len] at hi
    rw [r.len, r'.len]
    omega
  · obtain ⟨c, c', hc, hc', rfl⟩ := zipD_get hd
    obtain ⟨v, hv, dv⟩ := r.get hc
    obtain ⟨u, hu, du⟩ := r'.get hc'
    refine ⟨⟨xs, ys, v, u, h2, h2', rfl, rfl, hv, hu⟩, fun x H' ⟨T, x1, y1, ex, hT, eH, e1, e2⟩ => ?_⟩
    subst ex eH
    have q1 := e1 xs h2
    have q2 := e2 ys h2'
    rw [hv] at q1
    rw [hu] at q2
    cases q1
    cases q2
    exact ⟨Ex.new hT, fun S' s e3 => pair_den hT s (dv.mono e3) (du.mono e3)⟩
end
theorem walks_enum {K : PySem.W.Frag} {Hs : Hp} {a : Addr} {xs : List V} {ds : List D} (h : SqL K Hs a xs) (r : DenL K Hs xs ds) : Walks K Hs (Ite K a) (enumD 0 ds) := fun i H2 e => by
  have h2 := ex_l e h
  refine ⟨fun hi => ⟨xs, h2, by rw [enumD_len] at hi; rw [r.len]; exact hi⟩, fun d hd => ?_⟩
  obtain ⟨c, hc, rfl⟩ := enumD_get hd
  obtain ⟨v, hv, dv⟩ := r.get hc
  refine ⟨⟨xs, v, h2, hv⟩, fun x H' ⟨T, x1, ex, hT, eH, e1⟩ => ?_⟩
  subst ex eH
  have q1 := e1 xs h2
  rw [hv] at q1
  cases q1
  refine ⟨Ex.new hT, fun S' s e3 => ?_⟩
  rw [Nat.zero_add]
  exact pair_den hT s (.int _) (dv.mono e3)
namespace D
def sqs : D → Res (List D)
  | .lst xs => .ok xs
  | .tup xs => .ok xs
  | .fz xs => .ok xs
  | _ => .stuck
def zipM : List D → Res (List D)
  | [x, y] => (sqs x).bind fun xs => (sqs y).bind fun ys => .ok (zipD xs ys)
  | _ => .stuck
def enm : List D → Res (List D)
  | [.lst xs] => .ok (enumD 0 xs)
  | [.fz xs] => .ok (enumD 0 xs)
  | _ => .stuck
end D
theorem den_seqs {K : PySem.W.Frag} {S : List Addr} {H : Hp} {v : V} {d : D} {ds : List D} (h : D.sqs d = .ok ds) (dv : Den K (hid S H) v d) : ∃ k a xs, v = .ref a ∧ SqK k K (hid S H) a xs ∧ DenL K (hid S H) xs ds := by
  cases d <;> first | (cases h; done) | skip
  · cases h; obtain ⟨a, xs, rfl, ha, ra⟩ := den_lst dv; exact ⟨.L, a, xs, rfl, .of ha, ra⟩
  · cases h; obtain ⟨a, xs, rfl, ha, ra⟩ := den_tup dv; exact ⟨.T, a, xs, rfl, ha, ra⟩
  · cases h; obtain ⟨a, xs, rfl, ha, ra⟩ := den_fz dv; exact ⟨.L, a, xs, rfl, ha, ra⟩
theorem seqs_noerr {d : D} {c : Str} : D.sqs d ≠ .err c := by
  intro h; cases d <;> cases h
section
variable {X : Cx} {w : Wi} {R : List Nat} {tg e : Expr} {es : List Expr} {f : EE} {g : EL} {p pos : Pos}
theorem sqK_out {k : Kd} {K : PySem.W.Frag} {S : List Addr} {H : Hp} {a : Addr} {xs : List V} (q : SqK k K (hid S H) a xs) : SqK k K H a xs := ex_k hid_le q
theorem di_zipM {e2 : Expr} {elts : List Expr} {kk : Nat} {tpos : Pos} (hm : X.mg "zip" = none) (ha : DA X w R [e, e2] g) (hg : Gl X "zip" := by rfl) (hs : starEach [e, e2] X.env = (false, eval e X.env) :: starEach [e2] X.env := by rfl) (hpl : (backTo pos (starEach [e2] X.env)).any (·.1) = false := by rfl) :
    DI X w R (.Tuple elts kk tpos) (.Call (.Name "zip" p) [e, e2] [] pos) (eCallL g D.zipM) :=
  PI.weak (pi_zipM hg hm ha.pa hs hpl) fun σ H Q ⟨S, env, sub, ok, po⟩ => ⟨S, env, sub, ok, Post.bind (Rel2 := Walks X.K) po fun ds _ vs H1 e1 dv po1 => by
    unfold D.zipM at po1
    split at po1
    · rename_i x y _
      obtain ⟨v, u, rfl, d1, d2⟩ := ds2 dv
      cases hx : D.sqs x with
      | stuck => rw [hx] at po1; exact po1.elim
      | err c => exact absurd hx seqs_noerr
      | ok xs =>
        cases hy : D.sqs y with
        | stuck => rw [hx, hy] at po1; exact po1.elim
        | err c => exact absurd hy seqs_noerr
        | ok ys =>
          rw [hx, hy] at po1
          obtain ⟨k1, a, us, rfl, ha, ra⟩ := den_seqs hx d1
          obtain ⟨k2, b, us2, rfl, hb, rb⟩ := den_seqs hy d2
          exact ⟨a, b, us, us2, k1, k2, rfl, sqK_out ha, sqK_out hb, Post.okay (Rel := Walks X.K) po1 (walks_zipM ha ra hb rb)⟩
    · exact po1.elim⟩
theorem di_enum {elts : List Expr} {kk : Nat} {tpos : Pos} (hm : X.mg "enumerate" = none) (ha : DA X w R [e] g) (hg : Gl X "enumerate" := by rfl) (hs : starEach [e] X.env = [(false, eval e X.env)] := by rfl) :
    DI X w R (.Tuple elts kk tpos) (.Call (.Name "enumerate" p) [e] [] pos) (eCallL g D.enm) :=
  PI.weak (pi_enum hg hm ha.pa hs) fun σ H Q ⟨S, env, sub, ok, po⟩ => ⟨S, env, sub, ok, Post.bind (Rel2 := Walks X.K) po fun ds _ vs H1 e1 dv po1 => by
    unfold D.enm at po1
    split at po1
    · obtain ⟨v, rfl, d1⟩ := ds1 dv
      obtain ⟨a, xs, rfl, ha, ra⟩ := den_lst d1
      exact ⟨a, xs, rfl, .of (hid_out ha).2, Post.okay (Rel := Walks X.K) po1 (walks_enum (.of ha) ra)⟩
    · obtain ⟨v, rfl, d1⟩ := ds1 dv
      obtain ⟨a, xs, rfl, ha, ra⟩ := den_fz d1
      exact ⟨a, xs, rfl, ex_l hid_le ha, Post.okay (Rel := Walks X.K) po1 (walks_enum ha ra)⟩
    · exact po1.elim⟩
end
end Dx
set_option Elab.async false
set_option linter.all false
set_option maxRecDepth 100000
set_option maxHeartbeats 4000000
namespace Dx
open PySem PySem.Spec PyProof.Rows L2
open RZ RT
def kf (fs : List (Str × V)) : List (Key × V) := fs.map fun p => (Sum.inr p.1, p.2)
theorem val_kf (z : Str) : ∀ fs : List (Str × V), valV (kf fs) (Sum.inr z) = fs.lookup z
  | [] => rfl
  | (x, v) :: fs => by
    have ih := val_kf z fs
    rw [List.lookup_cons]
    by_cases e : x = z
    · subst e
      rw [beq_self_eq_true]
      exact valV_pos (p := ((Sum.inr x : Key), v)) rfl
    · rw [beq_eq_false_iff_ne.mpr fun q => e q.symm]
      show valV (((Sum.inr x : Key), v) :: kf fs) (Sum.inr z) = fs.lookup z
      rw [valV_neg fun q => e (Sum.inr.inj q)]
      exact ih
theorem DenF.append {K : PySem.W.Frag} {H : Hp} : ∀ {vs ws : List (Str × V)} {ds es : List (Str × D)}, DenF K H vs ds → DenF K H ws es → DenF K H (vs ++ ws) (ds ++ es)
  | _, _, _, _, .nil, s => s
  | _, _, _, _, .cons h r, s => .cons h (DenF.append r s)
theorem DenF.len {K : PySem.W.Frag} {H : Hp} : ∀ {vs : List (Str × V)} {ds : List (Str × D)}, DenF K H vs ds → vs.length = ds.length
  | _, _, .nil => rfl
  | _, _, .cons _ r => congrArg Nat.succ (DenF.len r)
namespace D
def dgs : D → Res (List (Str × D))
  | .dct gs => .ok gs
  | _ => .stuck
def dget (gs : List (Str × D)) : D → D → Res D
  | .str z, x => .ok ((gs.lookup z).getD x)
  | _, _ => .stuck
def putN (gs : List (Str × D)) (z : Str) (d : D) : Res (List (Str × D)) := match gs.lookup z with
  | none => .ok (gs ++ [(z, d)])
  | some _ => .stuck
def dict1 (d : D) : D → Res D
  | .str z => .ok (.dct [(z, d)])
  | _ => .stuck
end D
theorem dgs_ok {d : D} {γ δ : Type} {Rel : Hp → δ → γ → Prop} {w : Wi} {S : List Addr} {σ : L2.St} {H : Hp} {Q : δ → Hp → Prop} {k : List (Str × D) → Res γ} (po : Post Rel w S σ H Q ((D.dgs d).bind k)) : ∃ gs, d = .dct gs ∧ Post Rel w S σ H Q (k gs) := by
  cases d <;> first | exact po.elim | exact ⟨_, rfl, po⟩
def eGet2 (fo fk fx : EE) : EE := fun env => (fo env).bind fun o => (D.dgs o).bind fun gs => (fk env).bind fun k => (fx env).bind fun x => D.dget gs k x
def eDict1 (fk fv : EE) : EE := fun env => (fk env).bind fun k => (fv env).bind fun d => D.dict1 d k
section
variable {X : Cx} {w : Wi} {R Ra Rb Rc : List Nat} {o e f k v : Expr} {apos cpos pos : Pos} {fo fe ff fk fv : EE} {kk : Nat}
theorem de_get2 (hr : Room kk X.A) (ho : DE X w Ra o fo) (he : DE X w Rb e fe) (hf : DE X w Rc f ff) (m : M2 X o "get" apos e f cpos := by exact ⟨rfl, rfl, rfl, rfl⟩) : DE X w (Ra ++ (Rb ++ Rc)) (.Call (.Attribute o "get" apos) [e, f] [] cpos) (eGet2 fo fe ff) :=
  PE.weak (pe_dget2 (by have := hr.units; omega) ho he hf m) fun σ H Q ⟨S, env, sub, ok, po⟩ => by
    unfold eGet2 at po
    refine ⟨S, env, sub, ok.left, Post.bind (Rel2 := Den X.K) po fun d1 _ v1 H1 e1 h1 po1 => ?_⟩
    obtain ⟨gs, rfl, po1⟩ := dgs_ok po1
    obtain ⟨a, fs, rfl, ha, rf⟩ := den_dct h1
    refine ⟨a, rfl, .inl ⟨_, .inl (hid_out ha).2⟩, ?_⟩
    refine ⟨S, env, sub.mono e1, ok.right.left.mono (hid_ex e1), Post.bind (Rel2 := Den X.K) po1 fun d2 _ v2 H2 e2 h2 po2 => ?_⟩
    refine ⟨S, env, sub.mono (e1.trans e2), ok.right.right.mono (hid_ex (e1.trans e2)), Post.bind (Rel2 := Den X.K) po2 fun d3 _ v3 H3 e3 h3 po3 => ?_⟩
    cases d2 <;> first | exact po3.elim | skip
    rename_i z _
    have rf3 := rf.mono (hid_ex (S := S) (e2.trans e3))
    have ha3 : H3 a = some (.dK (kf fs)) := (e2.trans e3) _ _ (hid_out ha).2
    rw [den_str h2]
    refine ⟨fs.lookup z, .inl ⟨kf fs, Sum.inr z, .inl ha3, rfl, (val_kf z fs).symm⟩, ?_⟩
    cases hl : gs.lookup z with
    | none =>
      rw [rf3.lookN hl]
      refine Post.okay (w := w) (σ := σ) (Rel := Den X.K) (a := d3) ?_ h3
      change Post (Den X.K) w S σ H3 Q (.ok ((gs.lookup z).getD d3)) at po3
      rw [hl] at po3
      exact po3
    | some d =>
      obtain ⟨u, hu, du⟩ := rf3.look hl
      rw [hu]
      refine Post.okay (w := w) (σ := σ) (Rel := Den X.K) (a := d) ?_ du
      change Post (Den X.K) w S σ H3 Q (.ok ((gs.lookup z).getD d3)) at po3
      rw [hl] at po3
      exact po3
theorem de_dict1 (hk : DE X w Ra k fk) (hv : DE X w Rb v fv) : DE X w (Ra ++ Rb) (.Dict [some k] [v] pos) (eDict1 fk fv) :=
  PE.weak (pe_disp (pps_cons hk hv pps_nil) rfl rfl (by simp) (by simp)) fun σ H Q ⟨S, env, sub, ok, po⟩ p hp => by
    unfold eDict1 at po
    have e0 : Ex H (upd H p (.dK [])) := Ex.new hp
    have sub0 : Sub (p :: S) (upd H p (.dK [])) := fun a m z => by
      rcases List.mem_cons.mp m with q | q
      · rw [q, upd_same] at z; cases z
      · exact (sub.mono e0) a q z
    refine ⟨p :: S, env, sub0, ok.left.mono (hid_fresh hp e0), ?_⟩
    cases hq : fk env with
    | stuck => rw [hq] at po; exact po.elim
    | err c => rw [hq] at po; exact fun H1 e1 => po H1 (e0.trans e1)
    | ok d1 =>
      rw [hq, bind_ok] at po
      intro v1 H1 e1 h1
      refine ⟨p :: S, env, sub0.mono e1, ok.right.mono (hid_fresh hp (e0.trans e1)), ?_⟩
      cases hq2 : fv env with
      | stuck => rw [hq2] at po; exact po.elim
      | err c => rw [hq2] at po; exact fun H2 e2 => po H2 ((e0.trans e1).trans e2)
      | ok d2 =>
        rw [hq2, bind_ok] at po
        intro v2 H2 e2 h2
        cases d1 <;> first | exact po.elim | skip
        rename_i z
        have e3 := (e0.trans e1).trans e2
        have hp2 : H2 p = some (.dK []) := (e1.trans e2) _ _ upd_same
        rw [den_str h1]
        refine ⟨hp2, [(Sum.inr z, v2)], rfl, by simp, po _ _ (Ex.mutd e3 hp) (.dct (fs := [(z, v2)]) (hid_at (sub.new hp) upd_same) (.cons (h2.mono ?_) .nil))⟩
        refine Ex.trans ?_ (hid_sub (S := p :: S) fun a m => List.mem_cons_of_mem _ m)
        rw [hid_upd List.mem_cons_self]
        exact Ex.refl _
end
def dcGo (tg : Tgt) (fk fv : EE) (base : Sl) : List (Str × D) → List D → Res (List (Str × D))
  | acc, [] => .ok acc
  | acc, d :: ds => (parts tg d).bind fun ps => (noErr (fk (setAll tg.slots ps base))).bind fun k => (noErr (fv (setAll tg.slots ps base))).bind fun v => match k with
    | .str z => (D.putN acc z v).bind fun acc2 => dcGo tg fk fv base acc2 ds
    | _ => .stuck
def eDc (items : EL) (tg : Tgt) (own : List Nat) (fk fv : EE) : EE := fun env => (items env).bind fun ds => lim ds.length ((dcGo tg fk fv (wipeE env own) [] ds).map .dct)
theorem dcGo_cons (tg : Tgt) (fk fv : EE) (base : Sl) (acc : List (Str × D)) (d : D) (ds : List D) : dcGo tg fk fv base acc (d :: ds) = (parts tg d).bind fun ps => (noErr (fk (setAll tg.slots ps base))).bind fun k => (noErr (fv (setAll tg.slots ps base))).bind fun v => match k with
    | .str z => (D.putN acc z v).bind fun acc2 => dcGo tg fk fv base acc2 ds
    | _ => .stuck := rfl
section
variable {X : Cx} {w : Wi} {Ri Rk Rv : List Nat} {kx vx tg iter : Expr} {scope : Scope} {own : List (Str × Nat)} {pos : Pos} {items : EL} {fk fv : EE}
theorem dc_core_of {tgt : Tgt} {vs : List Nat} (hs : ∀ i ∈ tgt.slots, i ∈ vs) {σ : L2.St} {H : Hp} {Q : VK} (h : tS (Den X.K) X.K w (Ri ++ (Rk ++ Rv)) (eDc items tgt vs fk fv) σ H Q) :
    tDc (tS (Walks X.K) X.K w Ri items) (gT X.K tgt) tYes (tS (Den X.K) X.K w.no Rk fk) (tS (Den X.K) X.K w.no Rv fv) vs σ H Q := by
  obtain ⟨S, env, sub, ok, po⟩ := h
  refine ⟨S, env, sub, ok.left, Post.bind (Rel2 := Den X.K) po fun ds _ J H1 e1 wk po1 => fun p hD => ?_⟩
  obtain ⟨hz, po1⟩ : ds.length ≤ 100000 ∧ Post (Den X.K) w S σ H1 Q ((dcGo tgt fk fv (wipeE env vs) [] ds).map .dct) := by
    unfold lim at po1
    split at po1
    · exact ⟨by assumption, po1⟩
    · exact po1.elim
  have sub1 := sub.mono e1
  have ok1 := (wipe_ok (ok.right.mono (hid_ex e1)) vs)
  obtain ⟨base, hbase⟩ : ∃ b, b = wipeE env vs := ⟨_, rfl⟩
  rw [← hbase] at po1 ok1
  let Iv : Nat → Hp → Prop := fun i H' => Ex H1 H' ∧ i ≤ ds.length ∧ ∃ fs gs, H' p = some (.dK (kf fs)) ∧ DenF X.K (hid (p :: S) H') fs gs ∧ gs.length ≤ i ∧ dcGo tgt fk fv base [] ds = dcGo tgt fk fv base gs (ds.drop i)
  refine ⟨fun i m H' => m = ds.length - i ∧ Iv i H', ⟨ds.length, by simp, Ex.new hD, Nat.zero_le _, [], [], upd_same, .nil, Nat.le_refl _, by rw [List.drop_zero]⟩, ?_⟩
  rintro i m H' ⟨rfl, e2, hi, fs, gs, hacc, dacc, hys, heq⟩
  have exH : Ex (hid S H1) (hid (p :: S) H') := hid_fresh hD e2
  have subD : Sub (p :: S) H' := fun a m z => by
    rcases List.mem_cons.mp m with q | q
    · rw [q, hacc] at z; cases z
    · exact (sub1.mono e2) a q z
  by_cases hlt : i < ds.length
  · refine .inr ?_
    obtain ⟨d, hd⟩ : ∃ d, ds[i]? = some d := ⟨ds[i], by simp [hlt]⟩
    obtain ⟨hgo, hyld⟩ := (wk i H' (exH.trans hid_le)).2 d hd
    refine ⟨hgo, Iv (i + 1), fun H'' q => ⟨ds.length - (i + 1), by omega, rfl, q⟩, fun x H'' hy => ?_⟩
    obtain ⟨e3, hden⟩ := hyld x H'' hy
    have dx := hden (p :: S) subD exH
    have hdrop : ds.drop i = d :: ds.drop (i + 1) := by
      obtain ⟨hl, he⟩ := List.getElem?_eq_some_iff.mp hd
      rw [← he]
      exact List.drop_eq_getElem_cons hl
    rw [hdrop] at heq
    rw [heq] at po1
    rw [dcGo_cons] at heq po1
    cases hp : parts tgt d with
    | stuck => rw [hp] at po1; exact po1.elim
    | err c => exact absurd hp parts_noerr
    | ok ps =>
      rw [hp] at po1 heq
      obtain ⟨us, dus, hset⟩ := gT_ok (K := X.K) hp dx
      refine hset _ _ ⟨?_, ?_⟩
      · rw [wipe_setAll hs, wipe_wipe σ vs vs fun _ m => m]
      · have ok2 : EnvOk X.K w.tb (Rk ++ Rv) (setAll tgt.slots ps base) (setAll tgt.slots us (wipe σ vs)) (hid (p :: S) H'') := setAll_ok (ok1.mono (exH.trans (hid_ex e3))) dus
        show tS (Den X.K) X.K w.no Rk fk _ _ _
        refine ⟨p :: S, setAll tgt.slots ps base, subD.mono e3, ok2.left, ?_⟩
        rw [bind_ok] at po1 heq
        cases ht : fk (setAll tgt.slots ps base) with
        | stuck => rw [ht] at po1; exact po1.elim
        | err c => rw [ht] at po1; exact po1.elim
        | ok k =>
          rw [ht, noErr_ok, bind_ok] at po1 heq
          intro k' H3 e4 hk
          refine ⟨p :: S, setAll tgt.slots ps base, (subD.mono e3).mono e4, ok2.right.mono (hid_ex e4), ?_⟩
          cases hf : fv (setAll tgt.slots ps base) with
          | stuck => rw [hf] at po1; exact po1.elim
          | err c => rw [hf] at po1; exact po1.elim
          | ok y =>
            rw [hf, noErr_ok, bind_ok] at heq po1
            cases k <;> first | exact po1.elim | skip
            rename_i z
            dsimp only at po1 heq
            cases hpn : D.putN gs z y with
            | stuck => rw [hpn] at po1; exact po1.elim
            | err c =>
              exfalso
              unfold D.putN at hpn
              split at hpn <;> cases hpn
            | ok gs2 =>
              rw [hpn, bind_ok] at heq po1
              intro v H4 e5 dv
              obtain ⟨hlook, rfl⟩ : gs.lookup z = none ∧ gs2 = gs ++ [(z, y)] := by
                unfold D.putN at hpn
                split at hpn
                · cases hpn; exact ⟨by assumption, rfl⟩
                · cases hpn
              have h4 : H4 p = some (.dK (kf fs)) := e5 _ _ (e4 _ _ (e3 _ _ hacc))
              have e6 := ((e2.trans e3).trans e4).trans e5
              have eput : putK (kf fs) (Sum.inr z) v = kf (fs ++ [(z, v)]) := by
                rw [putK_new v (by rw [val_kf]; exact dacc.lookN hlook)]
                unfold kf
                rw [List.map_append]
                rfl
              refine ⟨kf fs, Sum.inr z, den_str hk, h4, ?_, ?_⟩
              · unfold kf
                rw [List.length_map, dacc.len]
                exact Evl.sz_lt (by omega)
              · rw [eput]
                refine ⟨Ex.mutd e6 hD, hlt, fs ++ [(z, v)], gs ++ [(z, y)], upd_same, ?_, by rw [List.length_append]; show gs.length + 1 ≤ i + 1; omega, heq⟩
                rw [hid_upd List.mem_cons_self]
                exact (dacc.mono (hid_ex ((e3.trans e4).trans e5))).append (.cons dv .nil)
  · have e : i = ds.length := by omega
    refine .inl ⟨(wk i H' (exH.trans hid_le)).1 (by omega), ?_⟩
    rw [e, List.drop_length] at heq
    rw [heq] at po1
    refine po1 _ _ e2 (.dct (fs := fs) (hid_at (sub1.new hD) hacc) (dacc.mono (hid_sub fun a m => List.mem_cons_of_mem _ m)))
theorem de_dc (tgt : Tgt) {vs : List Nat} (hv : own.map (·.2) = vs := by rfl) (hc : X.calm = true) (hN : X.N.Nodup) (hi : DI X w Ri tg iter items) (ok : BlkOk X.N X.env.scope scope own) (hs : ∀ i ∈ tgt.slots, i ∈ vs)
    (hg : ∀ (s : Shared) (H : Hp) (C : Addr) (cl : List (Str × Addr)) (fp : List Addr), PG (X.blk s H scope (compEnvC scope cl C X.env) fp) tg (gT X.K tgt))
    (hk : ∀ (s : Shared) (H : Hp) (C : Addr) (cl : List (Str × Addr)) (fp : List Addr), DE (X.blk s H scope (compEnvC scope cl C X.env) fp) w.no Rk kx fk)
    (he : ∀ (s : Shared) (H : Hp) (C : Addr) (cl : List (Str × Addr)) (fp : List Addr), DE (X.blk s H scope (compEnvC scope cl C X.env) fp) w.no Rv vx fv) (hf : ∀ x, foldedSetIterable iter X.env x = pure x := by intro _; rfl) :
    DE X w (Ri ++ (Rk ++ Rv)) (.DictComp kx vx [⟨tg, iter, [], 0⟩] scope pos) (eDc items tgt vs fk fv) := by
  subst hv
  exact PE.weak (pe_dc hc hN hi ok hg (fun _ _ _ _ _ => pts_nil) hk he hf) fun _ _ _ h => dc_core_of hs h
end
end Dx
set_option Elab.async false
set_option linter.all false
set_option maxRecDepth 100000
set_option maxHeartbeats 4000000
namespace Dx
open PySem PySem.Spec PyProof.Rows L2
open RZ RT
section
variable {X : Cx}
theorem call_tupleN : CallR X (.type "tuple") (fun xs H Q => ∃ p ys, xs = [.ref p] ∧ SqL X.K H p ys ∧ ∀ (l : Addr) (o : Obj), H l = none → o.dict = none → Q (.ref l) (upd H l (.frz o (.tup ys)))) := by
  intro pins s σ H xs us Q I r h
  obtain ⟨p, ys, rfl, hq, q⟩ := h
  obtain ⟨u, rfl, rx⟩ := vals1 r
  cases rx
  obtain ⟨its, r', pl, hz⟩ := I.list hq
  have hlen := r'.length
  refine call_tuple_list pl.isList (fun h' kp => ?_) (by simp only [List.size_toArray] <;> omega)
  have I1 : Inv X pins σ H { s with heap := h' } := I.kept (t' := s.toks) kp
  have hn : H h'.objs.size = none := I1.hok.fresh (Nat.le_refl _)
  refine ⟨.ref h'.objs.size, _, ?_, rfl, q h'.objs.size { cls := .type "tuple", data := .seq its.toArray } hn rfl⟩
  exact I1.laid (t' := s.toks) (fun b o e => Heap.get?_push_of_some _ e) (Nat.le_refl _) (show ObjOk X.prog X.w _ _ _ (.frz _ (.tup ys)) from ⟨Heap.get?_push_size _ rfl, hz, its, r', IsTup.new _ _⟩)
theorem pairs_two {pins : List (Addr × Obj)} {σ : L2.St} {H : Hp} {s : Shared} (I : Inv X pins σ H s) : ∀ {ps : List Addr} {kvs : List (Key × V)}, Paired (fun p kv => SqT X.K H p [kV kv.1, kv.2]) ps kvs →
    ∃ (prs : List (Key × Value)) (qs : List (Value × Value)), KV kvs prs ∧ prs.length = ps.length ∧ qs.length = ps.length ∧
      ∀ (j : Nat) (k v : Value), qs[j]? = some (k, v) → ∃ (b : Addr) (c : Key), ps[j]? = some b ∧ IsTup s.heap b #[k, v] ∧ prs[j]? = some (c, v) ∧ keyIs c k = true
  | _, _, .nil => ⟨[], [], .nil, rfl, rfl, fun j k v e => by simp at e⟩
  | _, _, .cons (a := p) (b := kv) h t => by
    obtain ⟨prs, qs, r, hl, hl2, hp⟩ := pairs_two I t
    obtain ⟨its, rv, ht, _⟩ := I.tuple h
    obtain ⟨u, y, ei, ru, ry⟩ := vals2 rv
    subst ei
    refine ⟨(kv.1, y) :: prs, (u, y) :: qs, .cons ⟨rfl, ry⟩ r, by rw [List.length_cons, List.length_cons, hl], by rw [List.length_cons, List.length_cons, hl2], fun j k v e => ?_⟩
    cases j with
    | zero =>
      have e' : (u, y) = (k, v) := Option.some.inj e
      cases e'
      exact ⟨p, kv.1, rfl, ht, rfl, kV_is (P := X.prog) (w := X.w) ru⟩
    | succ j =>
      obtain ⟨b, c, e1, e2, e3, e4⟩ := hp j k v (by simpa using e)
      exact ⟨b, c, by simpa using e1, e2, by simpa using e3, e4⟩
theorem call_dictN (hc : X.calm = true) : CallR X (.type "dict") (fun xs H Q => ∃ (a : Addr) (o : Obj) (ps : List Addr) (kvs : List (Key × V)), xs = [.ref a] ∧ H a = some (.frz o (.tup (ps.map V.ref))) ∧ o.dict = none ∧ Paired (fun p kv => SqT X.K H p [kV kv.1, kv.2]) ps kvs ∧
    ∀ p, H p = none → Q (.ref p) (upd H p (.dK (mergeK [] kvs)))) := by
  intro pins s σ H xs us Q I r q
  obtain ⟨a, o, ps, kvs, rfl, ha, hd, hp, q⟩ := q
  obtain ⟨u, rfl, rx⟩ := vals1 r
  cases rx
  obtain ⟨ho, hz, its, rv, ⟨o', ho', hcl, n, hdat⟩⟩ := I.hok a _ ha
  rw [ho] at ho'
  cases ho'
  have ei := refs_at rv
  subst ei
  obtain ⟨prs, qs, rel, hl, hl2, hpr⟩ := pairs_two I hp
  rw [List.length_map] at hz
  have ok : PlainSeq "tuple" s.heap a (ps.map Value.ref).toArray ∧ PairItems s.heap (ps.map Value.ref).toArray (fun j => (ps[j]?).getD 0) qs := by
    refine ⟨⟨o, n, ho, hcl, hd, hdat⟩, by simp [hl2], fun j k v e => ?_⟩
    obtain ⟨b, c, e1, e2, _⟩ := hpr j k v e
    refine ⟨by simp [e1], .inl ?_⟩
    show s.heap.IsTuple ((ps[j]?).getD 0) #[k, v]
    rw [e1]
    exact e2
  refine PySem.call_dict_pairs (knd := mixKind X.prog X.w) (kvs := prs) (PairArg.tuple a (ps.map Value.ref).toArray (fun j => (ps[j]?).getD 0) qs) (I.ok.hd hc) ok ⟨by rw [hl, hl2], fun j k v e => ?_⟩ (by omega) fun h' tk hd' k => ?_
  · obtain ⟨b, c, _, _, e3, e4⟩ := hpr j k v e
    exact ⟨c, e3, e4⟩
  · have hm : (s.heap.objs.size == sysModules) = false := beq_eq_false_iff_ne.mpr (Nat.ne_of_gt I.big)
    have hlen : (mergeK [] kvs).length ≤ sizeLine := by
      refine Nat.le_trans (length_mergeK kvs []) ?_
      rw [List.length_nil, Nat.zero_add, rel.length, hl]
      exact hz
    exact ⟨.ref s.heap.objs.size, upd H s.heap.objs.size (.dK (mergeK [] kvs)), I.laid (t' := tk) (fun b o e => k b o (List.not_mem_nil) e) (Nat.le_refl _) (dk_new hlen hm (KV.merge rel .nil) hd'), rfl, q _ (I.hok.fresh (Nat.le_refl _))⟩
end
namespace D
def tupN : List D → Res D
  | [.lst (x :: xs)] => .ok (.tn (x :: xs))
  | [.fz (x :: xs)] => .ok (.tn (x :: xs))
  | _ => .stuck
def pairOf : D → Res (Str × D)
  | .tup [.str z, d] => .ok (z, d)
  | _ => .stuck
def pairsG : List (Str × D) → List D → Res (List (Str × D))
  | acc, [] => .ok acc
  | acc, d :: r => (pairOf d).bind fun p => (putN acc p.1 p.2).bind fun acc2 => pairsG acc2 r
def dictOf : List D → Res D
  | [.tn ds] => (pairsG [] ds).map .dct
  | _ => .stuck
end D
theorem putN_ok {gs gs2 : List (Str × D)} {z : Str} {d : D} (h : D.putN gs z d = .ok gs2) : gs.lookup z = none ∧ gs2 = gs ++ [(z, d)] := by
  unfold D.putN at h
  split at h
  · cases h; exact ⟨by assumption, rfl⟩
  · cases h
theorem putN_noerr {gs : List (Str × D)} {z c : Str} {d : D} : D.putN gs z d ≠ .err c := by
  intro h
  unfold D.putN at h
  split at h <;> cases h
theorem pairOf_ok {d : D} {p : Str × D} (h : D.pairOf d = .ok p) : d = .tup [.str p.1, p.2] := by
  unfold D.pairOf at h
  split at h
  · cases h; rfl
  · cases h
theorem pairOf_noerr {d : D} {c : Str} : D.pairOf d ≠ .err c := by
  intro h
  unfold D.pairOf at h
  split at h <;> cases h
theorem pairsG_cons {acc gs : List (Str × D)} {d : D} {ds : List D} (h : D.pairsG acc (d :: ds) = .ok gs) : ∃ z x, d = .tup [.str z, x] ∧ acc.lookup z = none ∧ D.pairsG (acc ++ [(z, x)]) ds = .ok gs := by
  unfold D.pairsG at h
  cases hp : D.pairOf d with
  | stuck => rw [hp] at h; cases h
  | err c => exact absurd hp pairOf_noerr
  | ok p =>
    rw [hp, bind_ok] at h
    cases hq : D.putN acc p.1 p.2 with
    | stuck => rw [hq] at h; cases h
    | err c => exact absurd hq putN_noerr
    | ok g =>
      rw [hq, bind_ok] at h
      obtain ⟨h1, rfl⟩ := putN_ok hq
      exact ⟨p.1, p.2, pairOf_ok hp, h1, h⟩
theorem pairsG_noerr {c : Str} : ∀ (ds : List D) {acc : List (Str × D)}, D.pairsG acc ds ≠ .err c
  | [], acc, h => by cases h
  | d :: ds, acc, h => by
    unfold D.pairsG at h
    cases hp : D.pairOf d with
    | stuck => rw [hp] at h; cases h
    | err c => exact absurd hp pairOf_noerr
    | ok p =>
      rw [hp, bind_ok] at h
      cases hq : D.putN acc p.1 p.2 with
      | stuck => rw [hq] at h; cases h
      | err c => exact absurd hq putN_noerr
      | ok g =>
        rw [hq, bind_ok] at h
        exact pairsG_noerr ds h
section
variable {K : PySem.W.Frag} {H : Hp} {S : List Addr} {w : Wi}
theorem cd_tupN : CallD K w (fun xs H Q => ∃ p ys, xs = [.ref p] ∧ SqL K H p ys ∧ ∀ (l : Addr) (o : Obj), H l = none → o.dict = none → Q (.ref l) (upd H l (.frz o (.tup ys)))) D.tupN := fun S σ H vs ds Q sub dv po => by
  unfold D.tupN at po
  split at po
  · obtain ⟨v, rfl, d1⟩ := ds1 dv
    obtain ⟨a, xs, rfl, ha, ra⟩ := den_lst d1
    refine ⟨a, xs, rfl, .of (hid_out ha).2, fun l o hl ho => ?_⟩
    have e : Ex H (upd H l (.frz o (.tup xs))) := Ex.new hl
    exact po _ _ e (.tn (hid_at (sub.new hl) upd_same) ho (ra.mono (hid_ex e)))
  · obtain ⟨v, rfl, d1⟩ := ds1 dv
    obtain ⟨a, xs, rfl, ha, ra⟩ := den_fz d1
    refine ⟨a, xs, rfl, ex_l hid_le ha, fun l o hl ho => ?_⟩
    have e : Ex H (upd H l (.frz o (.tup xs))) := Ex.new hl
    exact po _ _ e (.tn (hid_at (sub.new hl) upd_same) ho (ra.mono (hid_ex e)))
  · exact po.elim
theorem pairsG_den : ∀ {ds : List D} {vs : List V} {fs0 : List (Str × V)} {acc gs : List (Str × D)}, DenL K (hid S H) vs ds → DenF K (hid S H) fs0 acc → D.pairsG acc ds = .ok gs →
    ∃ ps fs, vs = ps.map V.ref ∧ Paired (fun p kv => SqT K H p [kV kv.1, kv.2]) ps (kf fs) ∧ DenF K (hid S H) (fs0 ++ fs) gs ∧ mergeK (kf fs0) (kf fs) = kf (fs0 ++ fs)
  | [], _, fs0, acc, gs, .nil, rf, h => by
    cases h
    exact ⟨[], [], rfl, .nil, by rw [List.append_nil]; exact rf, by rw [List.append_nil]; rfl⟩
  | d :: ds, _, fs0, acc, gs, .cons dv r, rf, h => by
    obtain ⟨z, x, rfl, hl, h⟩ := pairsG_cons h
    obtain ⟨a, xs, rfl, ha, ra⟩ := den_tup dv
    obtain ⟨u, u', rfl, d1, d2⟩ := ds2 ra
    rw [den_str d1] at ha
    obtain ⟨ps, fs, rfl, pp, rf2, em⟩ := pairsG_den r (rf.append (.cons d2 .nil : DenF K (hid S H) [(z, u')] [(z, x)])) h
    refine ⟨a :: ps, (z, u') :: fs, rfl, .cons (ex_t hid_le ha) pp, ?_, ?_⟩
    · rw [List.append_assoc] at rf2
      exact rf2
    · rw [List.append_assoc] at em
      rw [show fs0 ++ (z, u') :: fs = fs0 ++ ([(z, u')] ++ fs) from rfl, ← em]
      show mergeK (putK (kf fs0) (Sum.inr z) u') (kf fs) = _
      rw [putK_new u' (by rw [val_kf]; exact rf.lookN hl)]
      unfold kf
      rw [List.map_append]
      rfl
theorem cd_dictN : CallD K w (fun xs H Q => ∃ (a : Addr) (o : Obj) (ps : List Addr) (kvs : List (Key × V)), xs = [.ref a] ∧ H a = some (.frz o (.tup (ps.map V.ref))) ∧ o.dict = none ∧ Paired (fun p kv => SqT K H p [kV kv.1, kv.2]) ps kvs ∧
    ∀ p, H p = none → Q (.ref p) (upd H p (.dK (mergeK [] kvs)))) D.dictOf := fun S σ H vs ds Q sub dv po => by
  unfold D.dictOf at po
  split at po
  · rename_i es
    obtain ⟨v, rfl, d1⟩ := ds1 dv
    obtain ⟨a, o, xs, rfl, ha, ho, ra⟩ := den_tnN d1
    cases hp : D.pairsG [] es with
    | stuck => rw [hp] at po; exact po.elim
    | err c => exact absurd hp (pairsG_noerr _)
    | ok gs =>
      rw [hp, map_ok] at po
      obtain ⟨ps, fs, rfl, pp, rf, em⟩ := pairsG_den ra (.nil : DenF K (hid S H) [] []) hp
      refine ⟨a, o, ps, kf fs, rfl, (hid_out ha).2, ho, pp, fun p hn => ?_⟩
      rw [show mergeK [] (kf fs) = kf fs from em]
      have e : Ex H (upd H p (.dK (kf fs))) := Ex.new hn
      exact po _ _ e (.dct (fs := fs) (hid_at (sub.new hn) upd_same) (rf.mono (hid_ex e)))
  · exact po.elim
end
section
variable {X : Cx} {w : Wi} {R : List Nat} {e : Expr} {es : List Expr} {g : EL} {p pos : Pos}
theorem de_tupN (hm : X.mg "tuple" = none) (ha : DA X w R (e :: es) g) (hg : Gl X "tuple" := by rfl) (he : starEach (e :: es) X.env = (false, eval e X.env) :: starEach es X.env := by rfl) (hpl : (backTo pos (starEach es X.env)).any (·.1) = false := by rfl) : DE X w R (.Call (.Name "tuple" p) (e :: es) [] pos) (eCall g D.tupN) :=
  de_callTy call_tupleN cd_tupN hm ha hg (by decide +kernel) (by decide) (by decide) he hpl
theorem de_dictN (hc : X.calm = true) (hm : X.mg "dict" = none) (ha : DA X w R (e :: es) g) (hg : Gl X "dict" := by rfl) (he : starEach (e :: es) X.env = (false, eval e X.env) :: starEach es X.env := by rfl) (hpl : (backTo pos (starEach es X.env)).any (·.1) = false := by rfl) : DE X w R (.Call (.Name "dict" p) (e :: es) [] pos) (eCall g D.dictOf) :=
  de_callTy (call_dictN hc) cd_dictN hm ha hg (by decide +kernel) (by decide) (by decide) he hpl
end
end Dx
set_option Elab.async false
set_option linter.all false
set_option maxRecDepth 100000
set_option maxHeartbeats 4000000
namespace Dx
open PySem PySem.Spec PyProof.Rows L2
open RZ RT
def addS (acc : List Str) (x : Str) : List Str := if x ∈ acc then acc else acc ++ [x]
def setS (xs : List Str) : List Str := xs.foldl addS []
theorem addS_mem {acc : List Str} {x k : Str} : k ∈ addS acc x ↔ k ∈ acc ∨ k = x := by
  unfold addS
  split
  · rename_i h
    exact ⟨.inl, fun z => z.elim id fun e => e ▸ h⟩
  · simp
theorem addS_len (acc : List Str) (x : Str) : (addS acc x).length = if x ∈ acc then acc.length else acc.length + 1 := by
  unfold addS
  split <;> simp
theorem setS_le (xs : List Str) : ∀ acc : List Str, (xs.foldl addS acc).length ≤ acc.length + xs.length := by
  induction xs with
  | nil => intro acc; simp
  | cons x xs ih =>
    intro acc
    have h1 := ih (addS acc x)
    have h2 := addS_len acc x
    rw [List.foldl_cons, List.length_cons]
    split at h2 <;> omega
def SetAt (P : Program) (w : World) (h : Heap) (a : Addr) (acc : List Str) : Prop := h.SetOf (strKind P w) a (fun k => decide (k ∈ acc)) acc.length
theorem SetAt.at {P : Program} {w : World} {h h' : Heap} {a : Addr} {acc : List Str} (x : SetAt P w h a acc) (e : ∀ o, h.get? a = some o → h'.get? a = some o) : SetAt P w h' a acc := by
  obtain ⟨o, es, ep, t, ho, r⟩ := x
  exact ⟨o, es, ep, t, e o ho, r⟩
section
variable {P : Program} {w : World} {A : Around} {R : Result → Shared → Prop} {I : Addr} {fp wr : List Addr} {G : Array GenState → Array GenState → Prop} {n : Nat} {Pv : Nat → Value → Prop} {St : Nat → Shared → Prop}
theorem set_turns (W : WalksS P w A.in1 I fp wr G n Pv St) (S : Addr) (hS : S ∉ fp) (ys : Nat → Str) (hy : ∀ i v, Pv i v → ∃ t, v = .str (ys i) t) (hb : n + 1 < scanBound) :
    ∀ (k i : Nat) (acc : List Str) (s : Shared), i + k = n → acc.length ≤ i → St i s → SetAt P w s.heap S acc →
      (∀ s', Moved (S :: wr) G s s' → SetAt P w s'.heap S (((List.range k).map fun j => ys (i + j)).foldl addS acc) → R (.ok (.ret .none)) s') →
      codeAny (model P w) A (.builtin "set.update.loop" ⟨[.ref S, .ref I], []⟩) R s := by
  have off : S ∉ wr := fun h => hS (W.sub _ h)
  intro k
  induction k with
  | zero =>
    intro i acc s hk hl st at_ hR
    refine codeAny_builtin F.entry_set_update_loop ?_
    rw [Around.under_plainId F.plain_set_update_loop _]
    have e : i = n := hk
    subst e
    refine wpAny_bind (m := pyNext (.ref I)) (W.done s _ _ st fun s' m => wpAny_pure ?_)
    exact hR s' (m.mono fun b hb => List.mem_cons_of_mem _ hb) (at_.at fun o q => m.heap S o off q)
  | succ k ih =>
    intro i acc s hk hl st at_ hR
    refine codeAny_builtin F.entry_set_update_loop ?_
    rw [Around.under_plainId F.plain_set_update_loop _]
    refine wpAny_bind (m := pyNext (.ref I)) (W.item i s _ _ (by omega) st fun v s' pv st' m => ?_)
    obtain ⟨t, rfl⟩ := hy i v pv
    have at' : SetAt P w s'.heap S acc := at_.at fun o q => m.heap S o off q
    refine wpAny_bind (m := holding [Value.str (ys i) t] (setAdd S (.str (ys i) t))) (wpAny_holding (wpAny_holding (wpAny_bind ((strKind P w).pyHash (k := ys i) (strKind_is _ _ _ _) ?_))))
    refine wpAny_setAddHashed_of (knd := strKind P w) (s := { s' with toks := s'.toks + 1 }) (strKind_is _ _ _ _) rfl at' (by omega) fun h' sb new => ?_
    have new' : SetAt P w h' S (addS acc (ys i)) := by
      refine SetOf_congr new (fun z => ?_) ?_
      · by_cases h1 : z ∈ acc <;> by_cases h2 : z = ys i <;> simp [addS_mem, h1, h2]
      · rw [addS_len]
        by_cases h1 : ys i ∈ acc <;> simp [h1]
    refine wpAny_pure ⟨plainId_quiet F.plain_set_update_loop _, ih (i + 1) (addS acc (ys i)) _ (by omega) ?_ (W.frame _ s' _ _ st' (Nat.le_succ _) fun b hb o e => ?_) new' fun s2 m2 at2 => hR s2 ?_ ?_⟩
    · have := addS_len acc (ys i)
      split at this <;> omega
    · rw [sb.2 b fun h => hS (h ▸ hb)]
      exact e
    · refine Moved.trans W.gtrans ((m.mono fun b hb => List.mem_cons_of_mem _ hb).then_heap (Nat.le_succ _) fun b o hb e => ?_) m2
      rw [sb.2 b fun h => hb (by rw [h]; exact List.mem_cons_self)]
      exact e
    · rw [List.range_succ_eq_map, List.map_cons, List.foldl_cons, List.map_map]
      rw [show ((fun j => ys (i + j)) ∘ Nat.succ) = fun j => ys (i + 1 + j) from funext fun j => by show ys (i + (j + 1)) = _; congr 1; omega]
      exact at2
end
theorem setS_empty {P : Program} {w : World} {h : Heap} {a : Addr} {led : Bool} (e : h.get? a = some { cls := .type "set", dict := none, data := .set #[] 0 (.fresh 0 0 led) }) : SetAt P w h a [] :=
  SetOf_congr ((setObjOf_fresh (knd := strKind P w) led).setOf e (by unfold scanBound; omega)) (fun _ => by simp) rfl
section
variable {P : Program} {w : World} {A : Around} {E : Value → Shared → Prop} {s : Shared}
abbrev pushSet (h : Heap) (led : Bool) : Heap := h.push { cls := .type "set", dict := none, data := .set #[] 0 (.fresh 0 0 led) }
/-- what set.__init__ does with a list of texts -/
theorem set_fill {l : Addr} {items : Array Value} {xs : List Str} {led : Bool} {Q : Fin → Shared → Prop} (hh : A.handled = none) (hl : s.heap.IsList l items) (hi : StrsAre items.toList xs) (hb : xs.length + 1 < scanBound)
    (h : ∀ (h' : Heap) (tk : Nat), SetAt P w h' s.heap.objs.size (setS xs) → (∀ b o, b < s.heap.objs.size → s.heap.get? b = some o → h'.get? b = some o) → Q (.done (.ret .none)) { s with heap := h', toks := tk }) :
    wpAny (model P w) A (Builtin.«set.__init__» ⟨[.ref s.heap.objs.size, .ref l], []⟩) Q E { s with heap := pushSet s.heap led } := by
  obtain ⟨⟨ocls, odict, odata, oslots⟩, hol, hcl, nl, hdl⟩ := hl
  simp only at hcl hdl
  subst hcl hdl
  have hS : (pushSet s.heap led).get? s.heap.objs.size = some { cls := .type "set", dict := none, data := .set #[] 0 (.fresh 0 0 led) } := Heap.get?_push_size _ rfl
  have hol' : (pushSet s.heap led).get? l = some { cls := .type "list", dict := odict, data := .seq items nl, slots := oslots } := Heap.get?_push_of_some _ hol
  have hl1 : (pushSet s.heap led).IsList l items := ⟨_, hol', rfl, nl, rfl⟩
  have hlS : l < s.heap.objs.size := Heap.lt_size hol
  have hsz : xs.length = items.size := by rw [← StrsAre.len_eq hi, Array.length_toList]
  have q1 := F.sub_list_set
  have q2 := F.sub_list_frozenset
  have q3 : (Value.type "list" == Value.type "dict") = false := by decide
  unfold Builtin.«set.__init__» noKeywords Builtin.Frozenset.updateFrom
  generalize hPI : pyIter = PI
  wp_walk
  subst hPI
  refine wpAny_pyIter_list hl1 ?_
  refine wpAny_bind (wpAny_runValue ?_)
  have z : (pushSet s.heap led).objs.size = s.heap.objs.size + 1 := Heap.size_push ..
  refine set_turns (n := items.size) ((Walks.list (by simpa using hh) _ l (by rw [z]; exact Nat.ne_of_lt (Nat.lt_succ_of_lt hlS)) items).toS) s.heap.objs.size ?_ (fun i => xs.getD i Str.empty) (fun i v hv => SS.strs_at hi i v (by rw [Array.getElem?_toList]; exact hv)) (by omega) items.size 0 [] _ (by omega) (Nat.zero_le _)
    ⟨⟨_, Heap.get?_push_size _ rfl, rfl, rfl⟩, hl1.push _⟩ (setS_empty (Heap.get?_push_of_some _ hS)) fun s' m at_ => ?_
  · rw [z]
    simp only [List.mem_cons, List.not_mem_nil, or_false, not_or]
    exact ⟨Nat.ne_of_lt (Nat.lt_succ_self _), Nat.ne_of_gt hlS⟩
  · have ex : (List.range items.size).map (fun j => xs.getD (0 + j) Str.empty) = xs := by
      apply List.ext_getElem?
      intro j
      rw [List.getElem?_map, ← hsz]
      by_cases hj : j < xs.length
      · rw [List.getElem?_range hj, List.getElem?_eq_getElem hj]
        simp [List.getD_eq_getElem?_getD, List.getElem?_eq_getElem hj]
      · rw [List.getElem?_eq_none (by simpa using hj), List.getElem?_eq_none (by omega)]
        rfl
    rw [ex] at at_
    obtain ⟨h', g', d', tk', os'⟩ := s'
    have eg : g' = s.gens := m.gens
    have ed : d' = s.drawn := m.drawn
    have eo : os' = s.os := m.os
    subst eg ed eo
    refine wpAny_pure (wpAny_pure (h h' tk' at_ fun b o hb e => m.heap b o ?_ (Heap.get?_push_of_some _ (Heap.get?_push_of_some _ e))))
    rw [z]
    simp only [List.mem_cons, List.not_mem_nil, or_false, not_or]
    exact ⟨Nat.ne_of_lt hb, Nat.ne_of_lt (Nat.lt_succ_of_lt hb)⟩
theorem set_made {l : Addr} {items : Array Value} {xs : List Str} {Q : Value → Shared → Prop} (hh : A.handled = none) (hl : s.heap.IsList l items) (hi : StrsAre items.toList xs) (hb : xs.length + 1 < scanBound)
    (h : ∀ (h' : Heap) (tk : Nat), SetAt P w h' s.heap.objs.size (setS xs) → (∀ b o, b < s.heap.objs.size → s.heap.get? b = some o → h'.get? b = some o) → Q (.ref s.heap.objs.size) { s with heap := h', toks := tk }) :
    wpAny (model P w) A (call (.type "set") [.ref l]) Q E s := by
  obtain ⟨c, tl, hmro⟩ := F.called_set.mro
  have hmade := F.called_set.made
  have hsub := F.called_set.sub
  refine wpAny_call (codeAny_of_tree ?_)
  show wpAny _ _ (callAny (.type "set") _) _ _ _
  refine wpAny_pure ⟨Code.quiet_builtin _ (by decide +kernel), codeAny_builtin F.entry_type_call ?_⟩
  rw [Around.under_plain (weight_type_call_type "set" [.ref l] []) rfl]
  have h1 := F.called_set.notType
  have h2 := F.called_set.canCreate
  have hct := F.typeCall_set_1 (.ref l)
  repeat (any_goals (first | assumption | wp_step))
  refine codeAny_mono (code_set_new_1 (.ref l) (E := E) (Q₁ := fun obj s₁ => ∃ led : Bool, obj = .ref s.heap.objs.size ∧ s₁ = { s with heap := pushSet s.heap led }) fun led => ⟨led, rfl, rfl⟩) fun r s₁ hr => ?_
  cases r with
  | error e => exact hr
  | ok fl =>
    cases fl with
    | ret obj =>
      obtain ⟨led, rfl, rfl⟩ := hr
      have hT : Shared.TypeIs { s with heap := pushSet s.heap led } (.ref s.heap.objs.size) "set" := ⟨_, Heap.get?_push_size _ rfl, rfl⟩
      have hli := F.called_set.init.lookup
      have hbi := F.called_set.init.bind (.ref s.heap.objs.size)
      repeat (any_goals (first | assumption | wp_step))
      refine codeAny_mono (codeAny_call_builtin (R := wants (fun r s₂ => r = .none ∧ Q (.ref s.heap.objs.size) s₂) E) F.called_set.init.plain F.entry_set_init (check_set_init_1 hT ?_)) fun r₂ s₂ hr₂ => ?_
      · exact set_fill (by simpa using hh) hl hi hb fun h' tk x k => ⟨rfl, h h' tk x k⟩
      · cases r₂ with
        | error e => exact hr₂
        | ok fl₂ =>
          cases fl₂ with
          | ret r =>
            obtain ⟨rfl, q⟩ := hr₂
            repeat (any_goals (first | assumption | wp_step))
          | _ => exact hr₂.elim
    | _ => exact hr.elim
end
end Dx
set_option Elab.async false
set_option linter.all false
set_option maxRecDepth 100000
set_option maxHeartbeats 4000000
namespace Dx
open PySem PySem.Spec PyProof.Rows L2
open RZ RT
section
variable {X : Cx}
def tLenS (K : PySem.W.Frag) (ta : TE) : TE := fun σ H Q => ta σ H fun x H1 => ∃ (l : Addr) (xs : List Str), x = .ref l ∧ SqL K H1 l (xs.map V.str) ∧ xs.length ≤ 50 ∧ Q (.int (setS xs).length) H1
theorem strsAre_map : ∀ {ys : List Str} {us : List Value}, Vals (ys.map V.str) us → StrsAre us ys
  | [], _, .nil => .nil
  | y :: ys, _, .cons r t => by
    obtain ⟨k, rfl⟩ := r
    exact .cons y k (strsAre_map t)
theorem pe_lenS {a : Expr} {ta : TE} {p p2 q pos : Pos} (hc : X.calm = true) (hm : X.mg "len" = none) (hm2 : X.mg "set" = none) (ha : PE X a ta) (hg : Gl X "len") (hg2 : Gl X "set")
    (na : starEach [a] X.env = (false, eval a X.env) :: starEach [] X.env) : PE X (.Call (.Name "len" p) [.Call (.Name "set" p2) [a] [] q] [] pos) (tLenS X.K ta) := by
  refine ⟨fun pins s σ H Q I h => ?_⟩
  refine Call_ (ld_blt I hg hm boot_len (PyProof.Rows.callWith_builtin1 (PyProof.Rows.args_cons ?_ rfl) rfl rfl))
  refine Call_ (ld_blt I hg2 hm2 boot_set (PyProof.Rows.callWith_type1 (PyProof.Rows.args_cons (thn (ha.run pins s σ H _ I h) fun v s1 ⟨x, H1, I1, r1, q1⟩ => PyProof.Rows.args_nil ?_) na) na rfl))
  obtain ⟨l, xs, rfl, hq, h1, q1⟩ := q1
  cases r1
  obtain ⟨its, r, pl, hz⟩ := I1.list hq
  have hk : (setS xs).length ≤ 50 := Nat.le_trans (setS_le xs []) (by simpa using h1)
  refine set_made (I1.ok.hd hc) pl.isList (by simpa using strsAre_map r) (by unfold scanBound; omega) fun h' tk hS k => PyProof.Rows.args_nil ?_
  obtain ⟨o, es, ep, t, ho, hex, hd, _, _, _, hf, hn⟩ := hS
  have I2 : Inv X pins σ H1 { s1 with heap := h', toks := tk } := I1.kept fun b o e => k b o (Heap.lt_size e) e
  exact call_len_set ho hex hd hf (by rw [hn]; omega) ⟨.int (setS xs).length, H1, I2.tok _, ⟨_, by rw [hn]⟩, q1⟩
end
namespace D
def allStr : List D → Option (List Str)
  | [] => some []
  | .str x :: ds => (allStr ds).map (x :: ·)
  | _ => none
def lenSet : D → Res D
  | .lst ds => match allStr ds with
    | some xs => if xs.length ≤ 50 then .ok (.int (setS xs).length) else .stuck
    | none => .stuck
  | _ => .stuck
end D
theorem strs_map : ∀ {ds : List D} {xs : List Str}, D.allStr ds = some xs → ds = xs.map D.str
  | [], _, h => by cases h; rfl
  | d :: ds, xs, h => by
    cases d <;> first | (cases h; done) | skip
    rename_i x
    change (D.allStr ds).map (x :: ·) = some xs at h
    cases hq : D.allStr ds with
    | none => rw [hq] at h; cases h
    | some ys =>
      rw [hq] at h
      cases h
      rw [strs_map hq]
      rfl
theorem denL_strs {K : PySem.W.Frag} {H : Hp} : ∀ {xs : List Str} {vs : List V}, DenL K H vs (xs.map D.str) → vs = xs.map V.str
  | [], _, .nil => rfl
  | x :: xs, _, .cons h r => by rw [den_str h, denL_strs r]; rfl
section
variable {X : Cx} {w : Wi} {R : List Nat} {e : Expr} {f : EE} {p p2 q pos : Pos}
theorem de_lenS (hc : X.calm = true) (hm : X.mg "len" = none) (hm2 : X.mg "set" = none) (he : DE X w R e f) (hg : Gl X "len" := by rfl) (hg2 : Gl X "set" := by rfl)
    (na : starEach [e] X.env = (false, eval e X.env) :: starEach [] X.env := by rfl) : DE X w R (.Call (.Name "len" p) [.Call (.Name "set" p2) [e] [] q] [] pos) (eUn D.lenSet f) :=
  PE.weak (pe_lenS hc hm hm2 he hg hg2 na) fun σ H Q ⟨S, env, sub, ok, po⟩ => ⟨S, env, sub, ok, Post.bind (Rel2 := Den X.K) po fun d _ v H1 e1 dv po1 => by
    cases d <;> first | exact po1.elim | skip
    rename_i ds _
    change Post (Den X.K) w S σ H1 Q (match D.allStr ds with
      | some xs => if xs.length ≤ 50 then .ok (.int (setS xs).length) else .stuck
      | none => .stuck) at po1
    obtain ⟨a, xs, rfl, ha, ra⟩ := den_lst dv
    split at po1
    · rename_i ys hy
      split at po1
      · rename_i hl
        rw [strs_map hy] at ra
        rw [denL_strs ra] at ha
        exact ⟨a, ys, rfl, .of (hid_out ha).2, hl, Post.okay (Rel := Den X.K) po1 (.int _)⟩
      · exact po1.elim
    · exact po1.elim⟩
end
end Dx
set_option Elab.async false
set_option linter.all false
set_option maxRecDepth 100000
set_option maxHeartbeats 4000000
namespace Dx
open PySem PySem.Spec PyProof.Rows L2
open PySem.W (minD AlikeAll dataLt dataLt_ii alike alikeAll min_list_data readsAll_at reads_keeps)
open RZ RT
abbrev pyP (p : Int × Int) : PyData := .tuple [.int p.1, .int p.2]
def ltP (y a : Int × Int) : Bool := decide (y.1 < a.1 ∨ (y.1 = a.1 ∧ y.2 < a.2))
def minP (p : Int × Int) (ps : List (Int × Int)) : Int × Int := ps.foldl (fun a y => if ltP y a then y else a) p
theorem minD_pairs : ∀ (ps : List (Int × Int)) (p : Int × Int), minD (pyP p) (ps.map pyP) = pyP (minP p ps)
  | [], p => rfl
  | q :: ps, p => by
    have ih := minD_pairs ps (if ltP q p then q else p)
    show (ps.map pyP).foldl (fun a y => if dataLt y a then y else a) (if dataLt (pyP q) (pyP p) then pyP q else pyP p) = _
    rw [dataLt_ii, show decide (q.1 < p.1 ∨ (q.1 = p.1 ∧ q.2 < p.2)) = ltP q p from rfl, show (if ltP q p = true then pyP q else pyP p) = pyP (if ltP q p then q else p) by split <;> rfl]
    exact ih
theorem alike_pairs (ps : List (Int × Int)) : AlikeAll (ps.map pyP) := by
  refine ⟨fun x hx y hy => ?_, fun x hx e => ?_⟩
  · obtain ⟨p, _, rfl⟩ := List.mem_map.mp hx
    obtain ⟨q, _, rfl⟩ := List.mem_map.mp hy
    simp [alike, alikeAll]
  · obtain ⟨p, _, rfl⟩ := List.mem_map.mp hx
    cases e
theorem depth_pairs : ∀ ps : List (Int × Int), PyData.depthAll (ps.map pyP) ≤ 1
  | [] => by simp [PyData.depthAll]
  | p :: ps => by
    have ih := depth_pairs ps
    simp [PyData.depthAll, PyData.depth]
    omega
section
variable {X : Cx}
def rMinP (K : PySem.W.Frag) : List V → Hp → VK → Prop := fun vs H Q => ∃ (a : Addr) (xs : List V) (p : Int × Int) (ps : List (Int × Int)), vs = [V.ref a] ∧ SqL K H a xs ∧ DpAll K H xs ((p :: ps).map pyP) ∧
  ∀ (i : Nat) (v : V), xs[i]? = some v → (p :: ps)[i]? = some (minP p ps) → Q v H
theorem cr_minP (hc : X.calm = true) (hu : X.A.units + 64 < cLine) : CallR X (.builtin "min") (rMinP X.K) := by
  intro pins s σ H vs us Q I r h
  obtain ⟨a, xs, p, ps, rfl, hs, hd, q⟩ := h
  obtain ⟨its, rv, hl, _⟩ := I.list hs
  rw [Vals.ref1 r]
  obtain ⟨as, hr⟩ := Dp.readsAll I _ _ _ hd rv
  have hr' : ReadsAll s.heap its.toArray.toList (pyP p :: ps.map pyP) as := by simpa using hr
  refine min_list_data (I.ok.hd hc) hl.isList hr' (alike_pairs (p :: ps)) (by have := depth_pairs (p :: ps); rw [List.map_cons] at this; omega) fun i v h' tk bs hv hrd hk => ?_
  rw [minD_pairs] at hrd
  have hv' : its[i]? = some v := by simpa using hv
  obtain ⟨bs', r2, hlt, _⟩ := readsAll_at hr' i v (by simpa using hv)
  have r3 := reads_keeps hk r2
  have e := (PySem.Reads.unique hrd _ _ r3).1
  have hi : i < (p :: ps).length := by simpa using hlt
  have e2 : (p :: ps)[i]? = some (minP p ps) := by
    rw [List.getElem?_eq_getElem hi]
    have e3 : (pyP p :: ps.map pyP).getD i .none = pyP (p :: ps)[i] := by
      rw [← List.map_cons, List.getD_eq_getElem?_getD, List.getElem?_map, List.getElem?_eq_getElem hi]
      rfl
    rw [e3] at e
    have e4 : (minP p ps).1 = ((p :: ps)[i]).1 ∧ (minP p ps).2 = ((p :: ps)[i]).2 := by simpa using e
    exact congrArg some (Prod.ext e4.1.symm e4.2.symm)
  have hx : i < xs.length := by
    have h1 := (List.getElem?_eq_some_iff.mp hv').1
    have h2 := rv.length
    omega
  obtain ⟨u, hu', ru⟩ := rv.get (List.getElem?_eq_getElem hx)
  rw [hv'] at hu'
  cases hu'
  exact ⟨xs[i], H, I.kept hk, ru, q i _ (List.getElem?_eq_getElem hx) e2⟩
end
namespace D
def prs : List D → Option (List (Int × Int))
  | [] => some []
  | .tup [.int a, .int b] :: ds => (prs ds).map ((a, b) :: ·)
  | _ => none
def nums : List D → Option (List Int)
  | [] => some []
  | .int a :: ds => (nums ds).map (a :: ·)
  | _ => none
def allBl : List D → Option (List Bool)
  | [] => some []
  | .bl a :: ds => (allBl ds).map (a :: ·)
  | _ => none
def minI (n : Int) (ns : List Int) : Int := ns.foldl (fun a y => if y < a then y else a) n
def minPs : List D → Res D
  | [.lst ds] => match prs ds with
    | some (p :: ps) => .ok (.tup [.int (minP p ps).1, .int (minP p ps).2])
    | _ => .stuck
  | _ => .stuck
def minNs : List D → Res D
  | [.lst ds] => match nums ds with
    | some (p :: ps) => .ok (.int (minI p ps))
    | _ => .stuck
  | _ => .stuck
def allBs : List D → Res D
  | [.lst ds] => match allBl ds with
    | some bs => .ok (.bl (bs.all id))
    | _ => .stuck
  | _ => .stuck
end D
def dP (p : Int × Int) : D := .tup [.int p.1, .int p.2]
theorem prs_map : ∀ {ds : List D} {ps : List (Int × Int)}, D.prs ds = some ps → ds = ps.map dP
  | [], _, h => by cases h; rfl
  | d :: ds, ps, h => by
    unfold D.prs at h
    split at h
    · rename_i e; cases e
    · rename_i a b r e
      cases e
      cases hq : D.prs ds with
      | none => rw [hq] at h; cases h
      | some ys =>
        rw [hq] at h
        cases h
        rw [prs_map hq]
        rfl
    · cases h
theorem nums_map : ∀ {ds : List D} {ps : List Int}, D.nums ds = some ps → ds = ps.map D.int
  | [], _, h => by cases h; rfl
  | d :: ds, ps, h => by
    cases d <;> first | (cases h; done) | skip
    rename_i x
    change (D.nums ds).map (x :: ·) = some ps at h
    cases hq : D.nums ds with
    | none => rw [hq] at h; cases h
    | some ys =>
      rw [hq] at h
      cases h
      rw [nums_map hq]
      rfl
theorem bools_map : ∀ {ds : List D} {ps : List Bool}, D.allBl ds = some ps → ds = ps.map D.bl
  | [], _, h => by cases h; rfl
  | d :: ds, ps, h => by
    cases d <;> first | (cases h; done) | skip
    rename_i x
    change (D.allBl ds).map (x :: ·) = some ps at h
    cases hq : D.allBl ds with
    | none => rw [hq] at h; cases h
    | some ys =>
      rw [hq] at h
      cases h
      rw [bools_map hq]
      rfl
theorem denL_nums {K : PySem.W.Frag} {H : Hp} : ∀ {xs : List Int} {vs : List V}, DenL K H vs (xs.map D.int) → vs = xs.map V.int
  | [], _, .nil => rfl
  | x :: xs, _, .cons h r => by rw [den_int h, denL_nums r]; rfl
theorem denL_bools {K : PySem.W.Frag} {H : Hp} : ∀ {xs : List Bool} {vs : List V}, DenL K H vs (xs.map D.bl) → vs = xs.map V.bl
  | [], _, .nil => rfl
  | x :: xs, _, .cons h r => by rw [den_bl h, denL_bools r]; rfl
theorem denL_prs {K : PySem.W.Frag} {S : List Addr} {H : Hp} : ∀ {ps : List (Int × Int)} {vs : List V}, DenL K (hid S H) vs (ps.map dP) → DpAll K H vs (ps.map pyP)
  | [], _, .nil => .nil
  | p :: ps, _, .cons h r => by
    obtain ⟨a, xs, rfl, ha, ra⟩ := den_tup h
    obtain ⟨u, u', rfl, d1, d2⟩ := ds2 ra
    rw [den_int d1, den_int d2] at ha
    exact .cons (.tup (ex_t hid_le ha) (.cons (.int _) (.cons (.int _) .nil))) (denL_prs r)
theorem minI_mem : ∀ (ns : List Int) (n : Int), D.minI n ns ∈ n :: ns ∧ ∀ y ∈ n :: ns, D.minI n ns ≤ y
  | [], n => by simp [D.minI]
  | m :: ns, n => by
    have ih := minI_mem ns (if m < n then m else n)
    have e : D.minI n (m :: ns) = D.minI (if m < n then m else n) ns := rfl
    rw [e]
    generalize D.minI (if m < n then m else n) ns = x at ih
    obtain ⟨h1, h2⟩ := ih
    refine ⟨?_, fun y hy => ?_⟩
    · rcases List.mem_cons.mp h1 with h | h
      · split at h
        · exact List.mem_cons_of_mem _ (by rw [h]; exact List.mem_cons_self)
        · rw [h]; exact List.mem_cons_self
      · exact List.mem_cons_of_mem _ (List.mem_cons_of_mem _ h)
    · have h0 := h2 _ List.mem_cons_self
      rcases List.mem_cons.mp hy with rfl | hy
      · split at h0 <;> omega
      · rcases List.mem_cons.mp hy with rfl | hy
        · split at h0 <;> omega
        · exact h2 y (List.mem_cons_of_mem _ hy)
section
variable {K : PySem.W.Frag} {w : Wi}
theorem cd_minPs : CallD K w (rMinP K) D.minPs := fun S σ H vs ds Q sub dv po => by
  unfold D.minPs at po
  split at po
  · split at po
    · rename_i es p ps hp
      obtain ⟨v, rfl, d1⟩ := ds1 dv
      obtain ⟨a, xs, rfl, ha, ra⟩ := den_lst d1
      rw [prs_map hp] at ra
      refine ⟨a, xs, p, ps, rfl, .of (hid_out ha).2, denL_prs ra, fun i v hv he => ?_⟩
      obtain ⟨d, hd, dd⟩ := ra.getV hv
      rw [List.getElem?_map, he] at hd
      cases hd
      exact Post.okay (Rel := Den K) po dd
    · exact po.elim
  · exact po.elim
theorem cd_minNs : CallD K w (rMin K) D.minNs := fun S σ H vs ds Q sub dv po => by
  unfold D.minNs at po
  split at po
  · split at po
    · rename_i es p ps hp
      obtain ⟨v, rfl, d1⟩ := ds1 dv
      obtain ⟨a, xs, rfl, ha, ra⟩ := den_lst d1
      rw [nums_map hp] at ra
      rw [denL_nums ra] at ha
      refine ⟨a, p :: ps, rfl, .of (hid_out ha).2, by simp, fun m hm hle => ?_⟩
      have e : m = D.minI p ps := Int.le_antisymm (hle _ (minI_mem ps p).1) ((minI_mem ps p).2 m hm)
      rw [e]
      exact Post.okay (Rel := Den K) po (.int _)
    · exact po.elim
  · exact po.elim
theorem cd_allBs : CallD K w (rAll K) D.allBs := fun S σ H vs ds Q sub dv po => by
  unfold D.allBs at po
  split at po
  · split at po
    · rename_i es ns hp
      obtain ⟨v, rfl, d1⟩ := ds1 dv
      obtain ⟨a, xs, rfl, ha, ra⟩ := den_lst d1
      rw [bools_map hp] at ra
      rw [denL_bools ra] at ha
      exact ⟨a, ns, rfl, .of (hid_out ha).2, Post.okay (Rel := Den K) po (.bl _)⟩
    · exact po.elim
  · exact po.elim
end
section
variable {X : Cx} {w : Wi} {R : List Nat} {e : Expr} {es : List Expr} {g : EL} {p pos : Pos} {k : Nat}
theorem de_minPs (hc : X.calm = true) (hr : Room k X.A) (hm : X.mg "min" = none) (ha : DA X w R (e :: es) g) (hg : Gl X "min" := by rfl) (he : starEach (e :: es) X.env = (false, eval e X.env) :: starEach es X.env := by rfl) (hpl : (backTo pos (starEach es X.env)).any (·.1) = false := by rfl) : DE X w R (.Call (.Name "min" p) (e :: es) [] pos) (eCall g D.minPs) :=
  de_callB (cr_minP hc hr.units) cd_minPs hm ha hg (by decide +kernel) (by decide) (by decide) he hpl
theorem de_minNs (hc : X.calm = true) (hm : X.mg "min" = none) (ha : DA X w R (e :: es) g) (hg : Gl X "min" := by rfl) (he : starEach (e :: es) X.env = (false, eval e X.env) :: starEach es X.env := by rfl) (hpl : (backTo pos (starEach es X.env)).any (·.1) = false := by rfl) : DE X w R (.Call (.Name "min" p) (e :: es) [] pos) (eCall g D.minNs) :=
  de_callB (cr_min hc) cd_minNs hm ha hg (by decide +kernel) (by decide) (by decide) he hpl
theorem de_allBs (hc : X.calm = true) (hm : X.mg "all" = none) (ha : DA X w R (e :: es) g) (hg : Gl X "all" := by rfl) (he : starEach (e :: es) X.env = (false, eval e X.env) :: starEach es X.env := by rfl) (hpl : (backTo pos (starEach es X.env)).any (·.1) = false := by rfl) : DE X w R (.Call (.Name "all" p) (e :: es) [] pos) (eCall g D.allBs) :=
  de_callB (cr_all hc) cd_allBs hm ha hg (by decide +kernel) (by decide) (by decide) he hpl
end
end Dx
set_option Elab.async false
set_option linter.all false
set_option maxRecDepth 100000
set_option maxHeartbeats 4000000
namespace Dx
open PySem PySem.Spec PyProof.Rows L2
open RZ RT
structure GDict (K : PySem.W.Frag) (w : World) (mg : Str → Option Value) (name : Str) (kvs : List (Str × D)) : Prop where
  ex : ∃ d es n, mg name = some (.ref d) ∧ KDict K w d es n ∧ ∀ z, match kvs.lookup z with
    | some x => ∃ u v, PySem.W.nsIn K d z = some (some u) ∧ RelV v u ∧ ∀ H, Den K H v x
    | none => PySem.W.nsIn K d z = some none
def inG (kvs : List (Str × D)) : D → Res D
  | .str z => .ok (.bl (kvs.lookup z).isSome)
  | _ => .stuck
def ixG (kvs : List (Str × D)) : D → Res D
  | .str z => match kvs.lookup z with
    | some x => .ok x
    | none => .stuck
  | _ => .stuck
def eCallV (i : Nat) (g : EL) (tb : List (Str × (List D → Res D))) : EE := fun env => match env[i]? with
  | some (some (.fn z)) => match tb.lookup z with
    | some F => (noErr (g env)).bind fun ds => noErr (F ds)
    | none => .stuck
  | _ => .stuck
section
variable {X : Cx} {w : Wi} {R : List Nat} {e : Expr} {es : List Expr} {f : EE} {g : EL} {name x : Str} {p pos : Pos} {kvs : List (Str × D)} {i k n j : Nat}
theorem de_inG (G : GDict X.K X.w X.mg name kvs) (he : DE X w R e f) (hg : Gl X name := by rfl) (hd : (name == ("__debug__" : Str)) = false := by decide) : DE X w R (.Compare e [.In] [.Name name p] pos) (eUn (inG kvs) f) := by
  obtain ⟨d, es, n, hm, kd, hv⟩ := G.ex
  refine PE.weak (pe_cmpR (op_in_kd kd) he (pe_glob (v := .ref d) hg hm (show RelV (.ref _) (.ref _) from rfl) hd) rfl) fun σ H Q ⟨S, env, sub, ok, po⟩ => ?_
  refine ⟨S, env, sub, ok, Post.bind (Rel2 := Den X.K) po fun a _ v H1 e1 dv po1 => ?_⟩
  cases a <;> first | exact po1.elim | skip
  rename_i z _
  rw [den_str dv]
  have h := hv z
  have po2 : Post (Den X.K) w S σ H1 Q (.ok (.bl (kvs.lookup z).isSome)) := po1
  cases q : kvs.lookup z with
  | none =>
    rw [q] at h po2
    exact ⟨z, none, rfl, rfl, h, Post.okay (Rel := Den X.K) po2 (.bl _)⟩
  | some y =>
    rw [q] at h po2
    obtain ⟨u, _, h, _⟩ := h
    exact ⟨z, some u, rfl, rfl, h, Post.okay (Rel := Den X.K) po2 (.bl _)⟩
theorem de_ixG (G : GDict X.K X.w X.mg name kvs) (he : DE X w R e f) (hs : PlainIx e := by exact fun _ _ => rfl) (hg : Gl X name := by rfl) (hd : (name == ("__debug__" : Str)) = false := by decide) : DE X w R (.Subscript (.Name name p) e pos) (eUn (ixG kvs) f) := by
  obtain ⟨d, es, n, hm, kd, hv⟩ := G.ex
  refine PE.weak (pe_ix ix_kdict (pe_glob (v := .ref d) hg hm (show RelV (.ref _) (.ref _) from rfl) hd) he hs) fun σ H Q ⟨S, env, sub, ok, po⟩ => ?_
  show tS (Den X.K) X.K w R f σ H _
  refine ⟨S, env, sub, ok, Post.bind (Rel2 := Den X.K) po fun a _ v H1 e1 dv po1 => ?_⟩
  cases a <;> first | exact po1.elim | skip
  rename_i z _
  rw [den_str dv]
  have h := hv z
  have po2 : Post (Den X.K) w S σ H1 Q (match kvs.lookup z with
    | some x => .ok x
    | none => .stuck) := po1
  cases q : kvs.lookup z with
  | none => rw [q] at po2; exact po2.elim
  | some y =>
    rw [q] at h po2
    obtain ⟨u, v', h, r, dd⟩ := h
    exact ⟨d, z, v', rfl, rfl, ⟨es, _, u, kd.at_, kd.lit, h, r⟩, Post.okay (Rel := Den X.K) po2 (dd _)⟩
theorem de_callV {tb : List (Str × (List D → Res D))} (i : Nat) (C : ∀ z F, tb.lookup z = some F → Callee X.prog X.w X.K X.mg X.base w.tb z k n false F ∧ X.mg z = some (.ref (He.ga X.K z))) (hr : Room j X.A) (ha : DA X w.no R (e :: es) g) (hk : k ≤ j := by decide)
    (hN : X.N[i]? = some x := by rfl) (hv : Vis X.env.scope x := by first | exact Or.inl rfl | exact Or.inr (Or.inl rfl) | exact Or.inr (Or.inr rfl)) (hd : (x == ("__debug__" : Str)) = false := by decide) (hcd : (x == ("__classdict__" : Str)) = false := by decide)
    (he : starEach (e :: es) X.env = (false, eval e X.env) :: starEach es X.env := by rfl) (hpl : (backTo pos (starEach es X.env)).any (·.1) = false := by rfl) (hn : (e :: es).length = n := by rfl) : DE X w (i :: R) (.Call (.Name x p) (e :: es) [] pos) (eCallV i g tb) := by
  refine ⟨fun pins s σ H Q I ⟨S, env, sub, ok, po⟩ => ?_⟩
  unfold eCallV at po
  split at po
  · rename_i z hz
    split at po
    · rename_i F hF
      obtain ⟨C, hmz⟩ := C z F hF
      obtain ⟨f, fd, ps, G, hm, hkp, hb⟩ := C.ex
      rw [hmz] at hm
      cases hm
      obtain ⟨v, hsv, dv⟩ := ok.get i List.mem_cons_self _ hz
      rw [den_fn dv] at hsv
      refine (pe_callL (i := i) (dvs := []) (E := fun _ _ _ => False) G (hr.mono hk) hN hv hkp hb .nil (fun _ _ _ _ _ _ _ ⟨_, _, _, _, _, _, _, _, _, _, _, _, z⟩ => z.elim) ha.pa hd hcd he hpl).run pins s σ H Q I ⟨hsv, ?_⟩
      have okR : EnvOk X.K w.tb R env σ (hid S H) := ⟨ok.len, ok.tab, fun i m => ok.get i (List.mem_cons_of_mem _ m)⟩
      refine ⟨S, env, sub, okR, ?_⟩
      cases hg : g env with
      | stuck => rw [hg] at po; exact po.elim
      | err c => rw [hg] at po; exact po.elim
      | ok ds =>
        rw [hg, noErr_ok, bind_ok] at po
        intro vs H1 e1 dvs
        refine ⟨by rw [List.append_nil, dvs.len, ha.len env ds hg]; exact hn, S, ds, sub.mono e1, (okR.mono (hid_ex e1)).tab, by rw [List.append_nil]; exact dvs, ?_⟩
        cases q : F ds with
        | ok d => rw [q] at po; exact fun v H2 e2 r => po v H2 (e1.trans e2) r
        | err c => rw [q] at po; exact po.elim
        | stuck => rw [q] at po; exact po.elim
    · exact po.elim
  · exact po.elim
end
end Dx
set_option Elab.async false
set_option linter.all false
set_option maxRecDepth 100000
set_option maxHeartbeats 4000000
namespace Dx
open PySem PySem.Spec PyProof.Rows L2
open RZ RT
section
variable {prog : Program} {w : World} {A : Around} {E : Value → Shared → Prop} {s : Shared}
theorem list_rev_init {R : Result → Shared → Prop} {it l S : Addr} {items : Array Value} (hh : A.handled = none) (hit : s.heap.IsRevIter it l ((items.size : Int) - 1)) (hl : s.heap.IsList l items) (hne : l ≠ it) (hn : items.size ≤ sizeLine)
    (hSi : S ≠ it) (hSl : S ≠ l) (hS : s.heap.get? S = some { cls := .type "list", data := .seq #[] })
    (hR : ∀ h' tk acc c, (∀ b o, b ≠ S → b ≠ it → s.heap.get? b = some o → h'.get? b = some o) → h'.get? S = some { cls := .type "list", dict := none, data := .seq acc c, slots := #[] } → ItemsOf (fun i v => items[items.size - 1 - i]? = some v) acc items.size → R (.ok (.ret .none)) { s with heap := h', toks := tk }) :
    wpAny (model prog w) A.in1 (Builtin.«list.__init__» ⟨[.ref S, .ref it], []⟩)
      (fun fin s' => match fin with | .done f => R (.ok f) s' | .again c' => c'.quiet = true ∧ codeAny (model prog w) A c' R s') (fun e s' => R (.error e) s') s := by
  have W := (Walks.listRev (prog := prog) (w := w) (A := A.in1) hh it l hne items).toS
  have hSf : S ∉ [it, l] := by simp only [List.mem_cons, List.not_mem_nil, or_false, not_or]; exact ⟨hSi, hSl⟩
  show wpAny _ _ (do let old ← Builtin.List.listItems (.ref S); Builtin.List.listUpdate (.ref S) (fun _ => #[]); letGo old.toList.reverse; Builtin.List.listExtendWith (.ref S) (.ref it) .none) _ _ s
  refine wpAny_bind ?_
  unfold Builtin.List.listItems
  refine wpAny_bind (wpAny_seqItems hS rfl (wpAny_pure ?_))
  show wpAny _ _ (updateSeq S (fun _ => #[]) >>= fun _ => letGo (#[] : Array Value).toList.reverse >>= fun _ => Builtin.List.listExtendWith (.ref S) (.ref it) .none) _ _ s
  refine wpAny_bind (wpAny_updateSeq hS rfl ?_)
  have hS2 := Heap.get?_update_self (Obj.mapSeq (fun _ => (#[] : Array Value))) hS rfl
  have oth : ∀ b o, b ≠ S → s.heap.get? b = some o → (s.heap.update S (Obj.mapSeq (fun _ => (#[] : Array Value)))).get? b = some o := fun b o hb e => (Heap.get?_update_other _ _ (Ne.symm hb)).trans e
  refine wpAny_bind (wpAny_letGo ?_)
  have hit2 : (s.heap.update S (Obj.mapSeq (fun _ => (#[] : Array Value)))).IsRevIter it l ((items.size : Int) - 1) := hit.at fun o e => oth it o (Ne.symm hSi) e
  have hl2 : (s.heap.update S (Obj.mapSeq (fun _ => (#[] : Array Value)))).IsList l items := hl.at fun o e => oth l o (Ne.symm hSl) e
  generalize hh2 : s.heap.update S (Obj.mapSeq (fun _ => (#[] : Array Value))) = h2 at hS2 oth hit2 hl2 ⊢
  have hT : ({ s with heap := h2 } : Shared).TypeIs (.ref it) "list_reverseiterator" := Heap.IsRevIter.typeIs (s := { s with heap := h2 }) hit2
  have h1 : Builtin.List.listSameRef (.ref S) (.ref it) = false := by simp [Builtin.List.listSameRef, hSi]
  unfold Builtin.List.listExtendWith
  refine wpAny_bind (wpAny_typeOf hT ?_)
  rw [if_neg (by rw [h1]; decide)]
  refine wpAny_bind (wpAny_pyIter_revIter (s := { s with heap := h2 }) hit2 ?_)
  refine wpAny_bind (wpAny_holding ?_)
  unfold Builtin.List.listLengthHint
  refine wpAny_bind (wpAny_specialOf hT nolen_lri ?_)
  show wpAny _ A.in1 (specialOf (Value.ref it) (Str.ofString "__length_hint__") >>= _) _ _ _
  refine wpAny_bind (wpAny_specialOf hT hint_lri ?_)
  generalize hid : ("list_reverseiterator.__length_hint__" : String) = id0
  wp_delta
  rw [show splitId id0 = some ("list_reverseiterator", "__length_hint__") from by subst hid; decide +kernel]
  subst hid
  refine wpAny_bind (wpAny_isInstance (b := true) hT (by rw [isSubtype_type]; kernel_rfl) ?_)
  refine wpAny_pure ?_
  rw [if_neg (by decide)]
  have e0 : ((items.size : Nat) : Int) - 1 - ((0 : Nat) : Int) = (items.size : Int) - 1 := by omega
  refine wpAny_pure ⟨plainId_quiet F.plain_extend_loop _, codeAny_extend_loopS W hn _ hSf _ items.size 0 _ _ _ rfl (Nat.zero_le _) ⟨Nat.zero_le _, by rw [e0]; exact hit2, hl2⟩ hS2 (ItemsOf.nil _) fun s' acc' c' hm hS' hacc => ?_⟩
  rw [Moved.eq_with hm]
  refine hR s'.heap s'.toks acc' c' (fun b o hb hb2 e => hm.heap b o (fun hmem => ?_) (oth b o hb e)) hS' hacc
  rcases List.mem_cons.mp hmem with e' | hmem
  · exact hb e'
  · exact hb2 (List.mem_singleton.mp hmem)
theorem call_list_rev {Q : Value → Shared → Prop} {it l : Addr} {items : Array Value} (hh : A.handled = none) (hit : s.heap.IsRevIter it l ((items.size : Int) - 1)) (hl : s.heap.IsList l items) (hne : l ≠ it) (hn : items.size ≤ sizeLine)
    (hQ : ∀ h' tk acc c, (∀ b o, b ≠ it → s.heap.get? b = some o → h'.get? b = some o) → h'.get? s.heap.objs.size = some { cls := .type "list", dict := none, data := .seq acc c, slots := #[] } → ItemsOf (fun i v => items[items.size - 1 - i]? = some v) acc items.size → Q (.ref s.heap.objs.size) { s with heap := h', toks := tk }) :
    wpAny (model prog w) A (call (.type "list") [.ref it]) Q E s := by
  refine callType_codes (Q₁ := fun obj s₁ => obj = .ref s.heap.objs.size ∧ s₁ = { s with heap := s.heap.push { cls := .type "list", data := .seq #[] } }) F.called_list (F.typeCall_list_1 _) F.entry_list_init (code_list_new _ ⟨rfl, rfl⟩) fun obj s₁ h₁ => ?_
  obtain ⟨rfl, rfl⟩ := h₁
  have hS : (s.heap.push { cls := .type "list", data := .seq #[] }).get? s.heap.objs.size = some { cls := .type "list", data := .seq #[] } := Heap.get?_push_size _ rfl
  obtain ⟨oi, hoi, _⟩ := id hit
  obtain ⟨ol, hol, _⟩ := id hl
  refine ⟨⟨_, hS, rfl⟩, F.args_list_init_2 _ _, list_rev_init (A := A.in1) hh (hit.at fun o e => Heap.get?_push_of_some _ e) (hl.push _) hne hn (Nat.ne_of_gt (Heap.lt_size hoi)) (Nat.ne_of_gt (Heap.lt_size hol)) hS fun h' tk acc c hk hS' hacc => ?_⟩
  exact ⟨rfl, hQ h' tk acc c (fun b o hb e => hk b o (Nat.ne_of_lt (Heap.lt_size e)) hb (Heap.get?_push_of_some _ e)) hS' hacc⟩
end
section
variable {X : Cx}
def tListRev (K : PySem.W.Frag) (te : TE) : TE := fun σ H Q => te σ H fun v H1 => ∃ (a : Addr) (xs : List V), v = .ref a ∧ SqL K H1 a xs ∧ ∀ q, H1 q = none → Q (.ref q) (upd H1 q (.lst xs.reverse))
theorem pe_listRev {e : Expr} {te : TE} {p p2 pos pos2 : Pos} (hc : X.calm = true) (hg : Gl X "list") (hm : X.mg "list" = none) (hg2 : Gl X "reversed") (hm2 : X.mg "reversed" = none) (he : PE X e te)
    (hs : starEach [e] X.env = (false, eval e X.env) :: starEach [] X.env)
    (hs2 : starEach [.Call (.Name "reversed" p2) [e] [] pos2] X.env = (false, eval (.Call (.Name "reversed" p2) [e] [] pos2) X.env) :: starEach [] X.env) :
    PE X (.Call (.Name "list" p) [.Call (.Name "reversed" p2) [e] [] pos2] [] pos) (tListRev X.K te) := by
  refine ⟨fun pins s σ H Q I h => ?_⟩
  refine Call_ (ld_blt I hg hm boot_list (PyProof.Rows.callWith_type1 (args_cons (Call_ (ld_blt I hg2 hm2 PyProof.Rows.boot_reversed (PyProof.Rows.callWith_type1 (args_cons (thn (he.run pins s σ H _ I h) fun u s1 ⟨v, H1, I1, r1, q1⟩ => args_nil ?_) hs) hs rfl))) hs2) hs2 rfl))
  obtain ⟨a, xs, ev, hq, q⟩ := q1
  subst ev
  obtain rfl : u = Value.ref a := r1
  obtain ⟨its, rv, p', hz⟩ := I1.list hq
  refine call_reversed_list p'.isList (args_nil ?_)
  have k0 : ∀ b o, s1.heap.get? b = some o → (s1.heap.push (revObj a ((its.toArray.size : Int) - 1))).get? b = some o := fun b o e => Heap.get?_push_of_some _ e
  have I2 : Inv X pins σ H1 { s1 with heap := s1.heap.push (revObj a ((its.toArray.size : Int) - 1)) } := I1.kept (t' := s1.toks) k0
  obtain ⟨f0, f1, f2, f3, f4, f5⟩ := I1.fpOk (H' := H1) (b := s1.heap.objs.size) (Nat.le_refl _) (I1.hok.fresh (Nat.le_refl _))
  have hl := p'.isList
  obtain ⟨ol, hol, _⟩ := id hl
  have hne : a ≠ s1.heap.objs.size := Nat.ne_of_lt (Heap.lt_size hol)
  have hn : its.toArray.size ≤ sizeLine := by rw [List.size_toArray, ← rv.length]; exact hz
  refine call_list_rev (s := { s1 with heap := s1.heap.push (revObj a ((its.toArray.size : Int) - 1)) }) (I1.ok.hd hc) ⟨_, Heap.get?_push_size _ rfl, rfl, rfl⟩ (hl.push _) hne hn fun h' tk acc c hk hS hi => ?_
  have hf : ∀ b ∈ [s1.heap.objs.size], FpOk X pins H1 b := fun b hb => by rw [List.mem_singleton.mp hb]; exact ⟨f0, f1, f2, f3, f4, f5⟩
  refine ⟨.ref _, upd H1 (s1.heap.push (revObj a ((its.toArray.size : Int) - 1))).objs.size (.lst xs.reverse), I2.turnedNew (ch := [s1.heap.objs.size]) (fun b o hb e => hk b o (fun z => hb (by rw [z]; exact List.mem_singleton.mpr rfl)) e) hf (Nat.le_refl _) ⟨by rw [List.length_reverse]; exact hz, acc.toList, c, vals_rev rv hi, ?_⟩, rfl, q _ (I2.hok.fresh (Nat.le_refl _))⟩
  rw [Array.toArray_toList]
  exact hS
end
namespace D
def lstRev : D → Res (List D)
  | .lst ds => .ok ds.reverse
  | .fz ds => .ok ds.reverse
  | _ => .stuck
end D
section
variable {X : Cx} {w : Wi} {R : List Nat} {e : Expr} {f : EE} {p p2 pos pos2 : Pos}
theorem dl_listRev (hc : X.calm = true) (hm : X.mg "list" = none) (hm2 : X.mg "reversed" = none) (he : DE X w R e f) (hg : Gl X "list" := by rfl) (hg2 : Gl X "reversed" := by rfl)
    (hs : starEach [e] X.env = (false, eval e X.env) :: starEach [] X.env := by rfl)
    (hs2 : starEach [.Call (.Name "reversed" p2) [e] [] pos2] X.env = (false, eval (.Call (.Name "reversed" p2) [e] [] pos2) X.env) :: starEach [] X.env := by rfl) :
    DL X w R (.Call (.Name "list" p) [.Call (.Name "reversed" p2) [e] [] pos2] [] pos) (fun env => (f env).bind D.lstRev) :=
  PE.weak (pe_listRev hc hg hm hg2 hm2 he hs hs2) fun σ H Q ⟨S, env, sub, ok, po⟩ => ⟨S, env, sub, ok, PostF.bind po fun d _ v H1 e1 dv po1 => by
    cases d <;> first | exact po1.elim | skip
    · obtain ⟨a, xs, rfl, ha, ra⟩ := den_lst dv
      exact ⟨a, xs, rfl, .of (hid_out ha).2, fun q hq => PostF.new po1 (sub.mono e1) hq ra.reverse⟩
    · obtain ⟨a, xs, rfl, ha, ra⟩ := den_fz dv
      exact ⟨a, xs, rfl, ex_l hid_le ha, fun q hq => PostF.new po1 (sub.mono e1) hq ra.reverse⟩⟩
end
def D.flat1 (d : D) : Bool := D.flat d || (match d with
  | .tup ds => ds.all D.flat
  | _ => false)
def sAppT (i : Nat) (f : EE) : Sl → Out := fun env => toOut env ((f env).bind fun d => if D.flat1 d = true then (match env[i]? with
  | some (some (.lst ds)) => lim (ds.length + 1) (.ok (.nxt (env.set i (some (.lst (ds ++ [d]))))))
  | _ => .stuck) else .stuck)
def sSetLF (i : Nat) (f : EL) : Sl → Out := fun env => toOut env ((f env).bind fun ds => if ds.all D.flat1 = true then .ok (.nxt (env.set i (some (.lst ds)))) else .stuck)
section
variable {X : Cx} {w : Wi} {fr : Bool} {L O O' R : List Nat} {e : Expr} {f : EE} {fl : EL} {pos pos' : Pos} {i : Nat} {x : Str}
theorem own_tup {K : PySem.W.Frag} {tb : List Addr} {Hf B H : Hp} {S : List Addr} {P : Nat → Addr} {env : Sl} {σ : L2.St} (st : StOk K tb Hf S B O P env σ H) {T : List Addr} {a : Addr} {xs : List V} (h : SqT K (hid T H) a xs) : SqT K (hid (T ++ O.map P) H) a xs := by
  have key : ∀ o, hid T H a = some o → (∀ vs, o ≠ .lst vs) → hid (T ++ O.map P) H a = some o := fun o ho hn => by
    obtain ⟨m, h1⟩ := hid_out ho
    refine hid_at (fun z => ?_) h1
    rcases List.mem_append.mp z with q | q
    · exact m q
    · obtain ⟨j, hj, e⟩ := List.mem_map.mp q
      obtain ⟨_, vs, ds, _, _, h3, _⟩ := st.own j hj
      rw [e, h1] at h3
      cases h3
      exact hn vs rfl
  rcases h with (h | ⟨o, h⟩) | h
  · exact .inl (.inl (key _ h fun _ z => nomatch z))
  · exact .inl (.inr ⟨o, key _ h fun _ z => nomatch z⟩)
  · exact .inr h
theorem flat1_any {K : PySem.W.Frag} {tb : List Addr} {Hf B H : Hp} {S : List Addr} {P : Nat → Addr} {env : Sl} {σ : L2.St} (st : StOk K tb Hf S B O P env σ H) {T : List Addr} {v : V} {d : D} (h : Den K (hid T H) v d) (f : D.flat1 d = true) : Den K (hid (T ++ O.map P) H) v d := by
  unfold D.flat1 at f
  rw [Bool.or_eq_true] at f
  rcases f with f | f
  · exact flat_any h f
  · cases d <;> first | exact absurd f Bool.false_ne_true | skip
    obtain ⟨a, xs, rfl, ha, ra⟩ := den_tup h
    exact .tup (own_tup st ha) (flatL_any ra f)
theorem flat1L_any {K : PySem.W.Frag} {tb : List Addr} {Hf B H : Hp} {S : List Addr} {P : Nat → Addr} {env : Sl} {σ : L2.St} (st : StOk K tb Hf S B O P env σ H) {T : List Addr} : ∀ {vs : List V} {ds : List D}, DenL K (hid T H) vs ds → ds.all D.flat1 = true → DenL K (hid (T ++ O.map P) H) vs ds
  | _, _, .nil, _ => .nil
  | _, _, .cons h r, f => by
    rw [List.all_cons, Bool.and_eq_true] at f
    exact .cons (flat1_any st h f.1) (flat1L_any st r f.2)
theorem ds_appT (hi : i ∈ O) {p1 p2 p3 : Pos} (he : DE X w R e f) (hN : X.N[i]? = some x := by rfl) (hv : Vis X.env.scope x := by first | exact Or.inl rfl | exact Or.inr (Or.inl rfl)) (hd : (x == ("__debug__" : Str)) = false := by decide) (hcd : (x == ("__classdict__" : Str)) = false := by decide)
    (hs : swapsWith (.Call (.Attribute (.Name x p1) "append" p2) [e] [] p3) none pos.line X.env = pure false := by rfl) (hst : starEach [e] X.env = (false, eval e X.env) :: starEach [] X.env := by rfl)
    (hfew : ((backTo p3 (starEach [e] X.env)).all (fun x => !x.1) && (backToKw p3 (keywordEach [] X.env)).all (fun x => x.1.isSome) && decide ([e].length + ([] : List Keyword).length + (if ([] : List Keyword).isEmpty then 0 else 1) < 30)) = true := by rfl) (hline : (p2.endLine == p3.line) = true := by rfl)
    (hbase : attributeBase (.Name x p1) "append" X.env (eval (.Name x p1) X.env) = eval (.Name x p1) X.env := by rfl) :
    DS X w fr L O O (.Expr (.Call (.Attribute (.Name x p1) "append" p2) [e] [] p3) pos) (sAppT i f) :=
  PS.weak (ps_expr (pe_bm PySem.F.plainAttrs_list PySem.F.slot_list_append PySem.F.type_list_append mt_append (pe_var hN hv hd hcd) (pa_cons he pa_nil hst) hbase hfew hline hst) hs) fun Dn σ H ⟨Hf, S, B, P, env, st, po⟩ => by
    refine app_of (w := w) (fr := fr) (L := L) hi st (eval_all (Rel := Den X.K) st po fun d v H1 _ st1 dv po1 => ?_) fun Q Q' hQ h => tS_mono hQ h
    obtain ⟨h0, vs, ds, h1, h2, h3, h4⟩ := st.own i hi
    by_cases hf : D.flat1 d = true
    · rw [if_pos hf, h2] at po1
      exact ⟨d, ds, st1, flat1_any st1 dv hf, h2, po1⟩
    · rw [if_neg hf] at po1
      exact po1.elim
/-- a new list, all may be read -/
theorem evalF_all {K : PySem.W.Frag} {g : EL} {Hf B : Hp} {S : List Addr} {P : Nat → Addr} {env : Sl} {σ : L2.St} {H : Hp} {Q : VK} {Dn : Ends} {k : List D → Res Out}
    (st : StOk K w.tb Hf S B O P env σ H) (po : PostS K w Hf S B fr L O' Dn (toOut env ((g env).bind k))) (hk : ∀ ds p vs H1, H p = none → Ex H H1 → H1 p = some (.lst vs) → DenL K (hid (p :: S) H1) vs ds → PostS K w Hf S B fr L O' Dn (toOut env (k ds)) → Q (.ref p) H1) : tF K w R g σ H Q := by
  refine ⟨S, env, st.subS, st.all, ?_⟩
  cases q : g env with
  | ok a => rw [q] at po; exact fun p vs H1 hp e h1 r => hk a p vs H1 hp e h1 r po
  | err c => rw [q] at po; exact fun H1 e => po P σ H1 (st.grow e).bare
  | stuck => rw [q] at po; exact po
theorem own_notin {K : PySem.W.Frag} {tb : List Addr} {Hf B H : Hp} {S : List Addr} {P : Nat → Addr} {env : Sl} {σ : L2.St} (st : StOk K tb Hf S B O P env σ H) {p : Addr} (hp : H p = none) : p ∉ S ++ O.map P := fun m => st.subT p m hp
theorem ds_setLF (hi : i ∉ O) (hN : X.N.Nodup) (he : DL X w R e fl) (hx : X.N[i]? = some x := by rfl) (hl : Loc X.env.scope x := by first | exact .inl rfl | exact .inr rfl) (hs : swapsWith e (some (.Name x pos')) pos.line X.env = pure false := by rfl) (hf : X.fn x = true ∨ X.env.scope.names.lookup x = some .local := by first | exact .inl rfl | exact .inr rfl) :
    DS X w fr L O O (.Assign [.Name x pos'] e pos) (sSetLF i fl) := PS.weak (ps_set hN hx hl he hs hf) fun Dn σ H ⟨Hf, S, B, P, env, st, po⟩ => by
  unfold sSetLF at po
  refine evalF_all st po fun ds p vs H1 hp e1 h1 r po1 => ?_
  by_cases hf : ds.all D.flat1 = true
  · rw [if_pos hf] at po1
    have st1 := st.grow e1
    have r2 := flat1L_any st1 (r.mono (hid_sub fun a m => List.mem_cons_of_mem _ m)) hf
    exact po1 _ _ _ (st1.set hi (.lst (hid_at (own_notin st hp) h1) r2))
  · rw [if_neg hf] at po1
    exact po1.elim
end
end Dx
set_option Elab.async false
set_option linter.all false
set_option maxRecDepth 100000
set_option maxHeartbeats 4000000
namespace Dx
open PySem PySem.Spec PyProof.Rows L2
open RZ RT
theorem gScp_of {scope : Scope} {x : Str} (h1 : scope.kind = .function) (h2 : scope.isCoroutine = false) (h3 : (scope.names.all fun y => (match y.2 with | .cell => false | .free => false | _ => true)) = true) (h4 : scope.names.lookup (".0" : Str) = some .local) (h5 : scope.names.lookup x = some .local) (h6 : (".0" : Str) ≠ x) : GScp scope x :=
  by
  refine ⟨h1, h2, fun y hy => ?_, h4, h5, h6⟩
  have h := List.all_eq_true.mp h3 y hy
  refine ⟨fun e => ?_, fun e => ?_⟩
  · rw [e] at h
    cases h
  · rw [e] at h
    cases h
section
variable {P : Program} {w : World} {K : PySem.W.Frag} {mg : Str → Option Value} {base : Heap} {tb : List Addr} {k n : Nat}
def TblOk (P : Program) (w : World) (K : PySem.W.Frag) (mg : Str → Option Value) (base : Heap) (tb : List Addr) (k n : Nat) (t : List (Str × (List D → Res D))) : Prop :=
  ∀ z F, t.lookup z = some F → Callee P w K mg base tb z k n false F ∧ mg z = some (.ref (He.ga K z))
theorem tbl_nil : TblOk P w K mg base tb k n [] := fun z F h => by cases h
theorem Callee.mono {x : Str} {j : Nat} {fr : Bool} {F : List D → Res D} (C : Callee P w K mg base tb x j n fr F) (h : j ≤ k) : Callee P w K mg base tb x k n fr F := by
  obtain ⟨f, fd, ps, G, r⟩ := C.ex
  exact ⟨f, fd, ps, G.mono h, r⟩
theorem tbl_cons {x : Str} {j : Nat} {F : List D → Res D} {t : List (Str × (List D → Res D))} (C : Callee P w K mg base tb x j n false F) (hm : mg x = some (.ref (He.ga K x))) (r : TblOk P w K mg base tb k n t) (h : j ≤ k := by decide) : TblOk P w K mg base tb k n ((x, F) :: t) := fun z G hz => by
  rw [List.lookup_cons] at hz
  by_cases e : z = x
  · subst e
    rw [beq_self_eq_true] at hz
    cases hz
    exact ⟨C.mono h, hm⟩
  · rw [beq_eq_false_iff_ne.mpr e] at hz
    exact r z G hz
end
def keyS : Value → Option Str
  | .str x _ => some x
  | _ => none
def okVB (K : PySem.W.Frag) : D → Value → Bool
  | .int i, .int j _ => decide (i = j)
  | .fn x, .ref a => a == He.ga K x
  | _, _ => false
def exG (K : PySem.W.Frag) (name : Str) (kvs : List (Str × D)) : Bool := (match K.lookup (He.ga K name) with
  | some ⟨_, _, .dict es _, _⟩ => decide (es.toList.map (fun e => keyS e.key) = kvs.map fun q => some q.1)
  | _ => false) && kvs.all fun q => match PySem.W.nsIn K (He.ga K name) q.1 with
  | some (some u) => okVB K q.2 u
  | _ => false
theorem okVB_ok {K : PySem.W.Frag} {d : D} {u : Value} (h : okVB K d u = true) : ∃ v, RelV v u ∧ ∀ H, Den K H v d := by
  unfold okVB at h
  split at h
  · rename_i i j t
    have e := of_decide_eq_true h
    subst e
    exact ⟨.int i, ⟨t, rfl⟩, fun H => .int i⟩
  · rename_i x a
    have e : a = He.ga K x := by simpa using h
    subst e
    exact ⟨.ref _, rfl, fun H => .fn x⟩
  · cases h
theorem find_none {z : Str} : ∀ {es : List DictEntry} {ks : List Str}, es.map (fun e => keyS e.key) = ks.map some → z ∉ ks → es.find? (·.key.isStr z) = none ∧ es.any (·.refKey) = false
  | [], [], _, _ => ⟨rfl, rfl⟩
  | e :: es, k :: ks, h, hz => by
    rw [List.map_cons, List.map_cons] at h
    injection h with h1 h2
    obtain ⟨a, b⟩ := find_none h2 fun m => hz (List.mem_cons_of_mem _ m)
    obtain ⟨hash, key, val⟩ := e
    cases key <;> first | (cases h1; done) | skip
    cases h1
    have ne : k ≠ z := fun e => hz (e ▸ List.mem_cons_self)
    refine ⟨?_, ?_⟩
    · rw [List.find?_cons_of_neg]
      · exact a
      · simp [Value.isStr, ne]
    · rw [List.any_cons, b]
      rfl
  | [], _ :: _, h, _ => by cases h
  | _ :: _, [], h, _ => by cases h
theorem look_mem {z : Str} {x : D} : ∀ {kvs : List (Str × D)}, kvs.lookup z = some x → (z, x) ∈ kvs
  | [], h => by cases h
  | (k, d) :: r, h => by
    rw [List.lookup_cons] at h
    by_cases e : z = k
    · subst e
      rw [beq_self_eq_true] at h
      cases h
      exact List.mem_cons_self
    · rw [beq_eq_false_iff_ne.mpr e] at h
      exact List.mem_cons_of_mem _ (look_mem h)
theorem look_not {z : Str} : ∀ {kvs : List (Str × D)}, kvs.lookup z = none → z ∉ kvs.map (·.1)
  | [], _ => by simp
  | (k, d) :: r, h => by
    rw [List.lookup_cons] at h
    by_cases e : z = k
    · subst e
      rw [beq_self_eq_true] at h
      cases h
    · rw [beq_eq_false_iff_ne.mpr e] at h
      rw [List.map_cons, List.mem_cons]
      exact fun z => z.elim e (look_not h)
theorem gdict_of {K : PySem.W.Frag} {w : World} {mg : Str → Option Value} {name : Str} {kvs : List (Str × D)} (hm : mg name = some (.ref (He.ga K name))) (kd : ∃ es n, KDict K w (He.ga K name) es n) (h : exG K name kvs = true) : GDict K w mg name kvs := by
  unfold exG at h
  rw [Bool.and_eq_true] at h
  obtain ⟨h1, h2⟩ := h
  obtain ⟨es, n, kd⟩ := kd
  refine ⟨_, es, n, hm, kd, fun z => ?_⟩
  rw [kd.at_] at h1
  have h1 := of_decide_eq_true h1
  cases q : kvs.lookup z with
  | some x =>
    have h3 := List.all_eq_true.mp h2 _ (look_mem q)
    dsimp only at h3 ⊢
    split at h3
    · rename_i u hu
      obtain ⟨v, r, d⟩ := okVB_ok h3
      exact ⟨u, v, hu, r, d⟩
    · cases h3
  | none =>
    dsimp only
    have h4 : es.toList.map (fun e => keyS e.key) = (kvs.map (·.1)).map some := by rw [h1, List.map_map]; rfl
    obtain ⟨a, b⟩ := find_none h4 (look_not q)
    unfold PySem.W.nsIn
    rw [kd.at_]
    dsimp only
    rw [a]
    dsimp only
    rw [b]
    rfl
end Dx
set_option Elab.async false
set_option linter.all false
set_option maxRecDepth 100000
set_option maxHeartbeats 4000000
namespace Dx
open PySem L2
section
variable {i j n : Nat} {a b d c : D} {f g h f1 f2 f3 fo fe : EE} {t u : EB} {l m : EL} {env e e1 e2 : Sl} {s s1 s2 sb : Sl → Out} {ds es : List D} {x y : Int} {k q : Bool} {z C M w : Str} {ad : Addr} {F : List D → Res D} {gs : List (Str × D)} {o : Out} {G G2 : D → D → Res D} {U : D → Res D}
theorem ev_var (h : env[i]? = some (some d)) : eVar i env = .ok d := eVar_ap h
theorem ev_c : eC d env = .ok d := id rfl
theorem ev_bin (h1 : f1 env = .ok a) (h2 : f2 env = .ok b) (h3 : G a b = .ok d) : eBin G f1 f2 env = .ok d := by
  show ((f1 env).bind fun x => (f2 env).bind fun y => G x y) = _; rw [h1, h2]; exact h3
theorem ev_un (h1 : f env = .ok a) (h2 : U a = .ok d) : eUn U f env = .ok d := by
  show (f env).bind U = _; rw [h1]; exact h2
theorem ev_test (h1 : f env = .ok (.bl k)) : eTest f env = .ok k := by
  show (f env).bind D.isBl = _; rw [h1]; rfl
theorem ev_truth (h1 : f env = .ok a) (h2 : D.truth a = .ok k) : eTruth f env = .ok k := by
  show (f env).bind D.truth = _; rw [h1]; exact h2
theorem ev_notB (h1 : t env = .ok k) : eNotB t env = .ok (!k) := by
  show (t env).map (!·) = _; rw [h1]; rfl
theorem ev_chain (h1 : f1 env = .ok a) (h2 : f2 env = .ok b) (h3 : G a b = .ok (.bl k)) (h4 : f3 env = .ok c) (h5 : G2 b c = .ok (.bl q)) : eChain G G2 f1 f2 f3 env = .ok (.bl (k && q)) := by
  show ((f1 env).bind fun x => (f2 env).bind fun y => (G x y).bind fun z => (D.isBl z).bind fun b => if b = true then (f3 env).bind fun u => G2 y u else .ok (.bl false)) = _
  rw [h1, h2]; show ((G a b).bind _) = _; rw [h3, h4]; cases k <;> first | rfl | exact h5
theorem ev_chain_f (h1 : f1 env = .ok a) (h2 : f2 env = .ok b) (h3 : G a b = .ok (.bl k)) (hk : k = false) : eChain G G2 f1 f2 f3 env = .ok (.bl false) := by
  subst hk
  show ((f1 env).bind fun x => (f2 env).bind fun y => (G x y).bind fun z => (D.isBl z).bind fun b => if b = true then (f3 env).bind fun u => G2 y u else .ok (.bl false)) = _
  rw [h1, h2]; show ((G a b).bind _) = _; rw [h3]; rfl
theorem ev_nil : eNil env = .ok [] := id rfl
theorem ev_cons (h1 : f env = .ok d) (h2 : l env = .ok ds) : eCons f l env = .ok (d :: ds) := by
  show ((f env).bind fun d => (l env).map (d :: ·)) = _; rw [h1, h2]; rfl
theorem ev_tup (h1 : l env = .ok ds) : eTup l env = .ok (.tup ds) := by
  show (l env).map D.tup = _; rw [h1]; rfl
theorem ev_L (h1 : l env = .ok ds) : eL l env = .ok (.lst ds) := by
  show (l env).map D.lst = _; rw [h1]; rfl
theorem ev_call (h1 : l env = .ok ds) (h2 : F ds = .ok d) : eCall l F env = .ok d := by
  show (l env).bind F = _; rw [h1]; exact h2
theorem ev_callL {F : List D → Res (List D)} (h1 : l env = .ok ds) (h2 : F ds = .ok es) : eCallL l F env = .ok es := by
  show (l env).bind F = _; rw [h1]; exact h2
theorem ev_items (h1 : f env = .ok d) (h2 : D.items d = .ok ds) : eItems f env = .ok ds := by
  show (f env).bind D.items = _; rw [h1]; exact h2
theorem ev_rev (h1 : f env = .ok d) (h2 : D.rev d = .ok ds) : eRev f env = .ok ds := by
  show (f env).bind D.rev = _; rw [h1]; exact h2
theorem ev_yes : eYes env = .ok true := id rfl
theorem ev_part (h1 : f env = .ok (.int x)) : ePart f env = .ok (some x) := by rw [ePart_ap, h1]; rfl
theorem ev_nopart : eNoPart env = .ok none := id rfl
theorem ev_sl {lo hi : Sl → Res (Option Int)} {p r : Option Int} (h1 : f env = .ok d) (h2 : lo env = .ok p) (h3 : hi env = .ok r) (h4 : D.sl d p r = .ok c) : eSl f lo hi env = .ok c := by
  rw [eSl_ap, h1, h2]; show ((hi env).bind _) = _; rw [h3]; exact h4
theorem ev_slL {lo hi : Sl → Res (Option Int)} {p r : Option Int} (h1 : f env = .ok d) (h2 : lo env = .ok p) (h3 : hi env = .ok r) (h4 : D.slL d p r = .ok ds) : eSlL f lo hi env = .ok ds := by
  rw [eSlL_ap, h1, h2]; show ((hi env).bind _) = _; rw [h3]; exact h4
theorem ev_lc {tg : Tgt} {own : List Nat} (h1 : l env = .ok ds) (h2 : ds.length ≤ 100000) (h3 : wipeE env own = e1) (h4 : lcGo tg t f e1 ds = .ok es) : eLc l tg own t f env = .ok es := by
  rw [eLc_ap, h1]; show lim ds.length _ = _; rw [lim_ok h2, h3]; exact h4
theorem ev_make {H : List D → Res (List (Str × D))} (h1 : l env = .ok ds) (h2 : H ds = .ok gs) : eMake C l H env = .ok (.obj C gs) := by
  rw [eMake_ap, h1]; show (H ds).map _ = _; rw [h2]; rfl
theorem ev_meth (h1 : fo env = .ok (.obj C gs)) (h2 : gs.lookup M = none) (h3 : l env = .ok ds) (h4 : F (.obj C gs :: ds) = .ok d) : eMeth C M fo l F env = .ok d := by
  rw [eMeth_ap h1 h2, h3]; exact h4
theorem ev_methL (h1 : fo env = .ok (.lst ds)) (h2 : fe env = .ok a) (h3 : G (.lst ds) a = .ok d) : eMethL G fo fe env = .ok d := by
  rw [eMethL_ap h1, h2]; exact h3
theorem ev_isC_obj (h1 : fe env = .ok (.obj C gs)) : eIsC C fe env = .ok (.bl true) := eIsC_obj h1
theorem ev_allS {pb : Nat → Bool} (h1 : fe env = .ok (.str z)) : eAllS pb fe env = .ok (.bl (z.cps.toList.all pb)) := eAllS_ap h1
theorem ev_set0 {a : Option D} {l : Sl} {v : Option D} : (a :: l).set 0 v = v :: l := id rfl
theorem ev_setS {a : Option D} {l l' : Sl} {v : Option D} {i : Nat} (h : l.set i v = l') : (a :: l).set (i + 1) v = a :: l' := by rw [List.set_cons_succ, h]
theorem ev_wipe0 : wipeE env [] = env := id rfl
theorem ev_wipe {ow : List Nat} (h1 : wipeE env ow = e1) (h2 : e1.set i none = e2) : wipeE env (i :: ow) = e2 := by
  show (wipeE env ow).set i none = _; rw [h1, h2]
theorem ev_next : sNext env = .nxt env := id rfl
theorem ev_sSet (h1 : f env = .ok d) (h2 : env.set i (some d) = e1) : sSet i f env = .nxt e1 := by
  show toOut env ((f env).map fun d => .nxt (env.set i (some d))) = _; rw [h1, ← h2]; rfl
theorem ev_sOwn (h1 : l env = .ok ds) (h3 : i < env.length) (h2 : env.set i (some (.lst ds)) = e1) : sOwn i l env = .nxt e1 := by
  show toOut env ((l env).bind fun ds => if i < env.length then .ok (.nxt (env.set i (some (.lst ds)))) else .stuck) = _
  rw [h1, ← h2]; show toOut env (if i < env.length then _ else _) = _; rw [if_pos h3]; rfl
theorem ev_ret (h1 : f env = .ok d) : sRet f env = .ret d := by
  show toOut env ((f env).map .ret) = _; rw [h1]; rfl
theorem ev_retL (h1 : l env = .ok ds) : sRetL l env = .ret (.lst ds) := by
  show toOut env ((l env).map fun ds => .ret (.lst ds)) = _; rw [h1]; rfl
theorem ev_retV (h : env[i]? = some (some d)) : sRetV i env = .ret d := by
  unfold sRetV; rw [h]
theorem ev_drop (h1 : f env = .ok d) : sDrop f env = .nxt env := by
  show toOut env ((f env).map fun _ => .nxt env) = _; rw [h1]; rfl
/-- a branch that is open yet -/
def pick {α : Type} (k : Bool) (a b : α) : α := if k = true then a else b
theorem ev_pick_t {α : Type} {p q r : α} (h : k = true) (h2 : p = r) : pick k p q = r := by subst h; exact h2
theorem ev_pick_f {α : Type} {p q r : α} (h : k = false) (h2 : q = r) : pick k p q = r := by subst h; exact h2
theorem ev_sIf (h1 : t env = .ok k) (h2 : pick k (s1 env) (s2 env) = o) : sIf t s1 s2 env = o := by
  show (t env).branch env s1 s2 = _; rw [h1]; exact h2
theorem ev_eIf (h1 : t env = .ok k) (h2 : pick k (f env) (g env) = .ok d) : eIf t f g env = .ok d := by
  show ((t env).bind fun b => if b = true then f env else g env) = _; rw [h1]; exact h2
theorem ev_andB_p (h1 : t env = .ok k) (h2 : pick k (u env) (.ok false) = .ok q) : eAndB t u env = .ok q := by
  show ((t env).bind fun b => if b = true then u env else .ok false) = _; rw [h1]; exact h2
theorem ev_orB_p (h1 : t env = .ok k) (h2 : pick k (.ok true) (u env) = .ok q) : eOrB t u env = .ok q := by
  show ((t env).bind fun b => if b = true then .ok true else u env) = _; rw [h1]; exact h2
theorem ev_andV_p (h1 : f env = .ok (.bl k)) (h2 : pick k (g env) (.ok (.bl false)) = .ok d) : eAndV f g env = .ok d := by
  show ((f env).bind fun d => (D.isBl d).bind fun b => if b = true then g env else .ok (.bl false)) = _; rw [h1]; exact h2
theorem ev_orV_p (h1 : f env = .ok (.bl k)) (h2 : pick k (.ok (.bl true)) (g env) = .ok d) : eOrV f g env = .ok d := by
  show ((f env).bind fun d => (D.isBl d).bind fun b => if b = true then .ok (.bl true) else g env) = _; rw [h1]; exact h2
theorem ev_pick_and {p : Res Bool} {q : Bool} (h : p = .ok q) : pick k p (.ok false) = .ok (k && q) := by rw [h]; cases k <;> rfl
theorem ev_pick_or {p : Res Bool} {q : Bool} (h : p = .ok q) : pick k (.ok true) p = .ok (k || q) := by rw [h]; cases k <;> rfl
theorem ev_pick_andV {p : Res D} {q : Bool} (h : p = .ok (.bl q)) : pick k p (.ok (.bl false)) = .ok (.bl (k && q)) := by rw [h]; cases k <;> rfl
theorem ev_pick_orV {p : Res D} {q : Bool} (h : p = .ok (.bl q)) : pick k (.ok (.bl true)) p = .ok (.bl (k || q)) := by rw [h]; cases k <;> rfl
theorem ev_app (h2 : env[i]? = some (some (.lst ds))) (h1 : f env = .ok d) (h3 : ds.length + 1 ≤ 100000) (h4 : env.set i (some (.lst (ds ++ [d]))) = e1) : sApp i f env = .nxt e1 := by
  unfold sApp; rw [h1]; show toOut env (match env[i]? with | some (some (.lst ds)) => _ | _ => _) = _
  rw [h2]; dsimp only; rw [lim_ok h3, h4]; rfl
theorem ev_appF (h2 : env[i]? = some (some (.lst ds))) (h1 : f env = .ok d) (h0 : D.flat d = true) (h3 : ds.length + 1 ≤ 100000) (h4 : env.set i (some (.lst (ds ++ [d]))) = e1) : sAppF i f env = .nxt e1 := by
  unfold sAppF; rw [h1]; show toOut env (if D.flat d = true then (match env[i]? with | some (some (.lst ds)) => _ | _ => _) else _) = _
  rw [if_pos h0, h2]; dsimp only; rw [lim_ok h3, h4]; rfl
theorem ev_lst {γ : List D → List D} (h2 : env[i]? = some (some (.lst ds))) (h4 : env.set i (some (.lst (γ ds))) = e1) : sLst γ i env = .nxt e1 := by
  unfold sLst; rw [h2]; dsimp only; rw [h4]
theorem ev_aug (h1 : env[i]? = some (some a)) (h2 : f env = .ok b) (h3 : G a b = .ok d) (h4 : D.flat d = true) (h5 : env.set i (some d) = e1) : sAug i G f env = .nxt e1 := by
  unfold sAug; rw [h1]; show toOut env ((f env).bind fun c => (G a c).bind fun r => if D.flat r = true then .ok (.nxt (env.set i (some r))) else .stuck) = _
  rw [h2]; show toOut env ((G a b).bind _) = _; rw [h3]; show toOut env (if D.flat d = true then _ else _) = _; rw [if_pos h4, h5]; rfl
theorem ev_setI {chk : D → Bool} {kk : Int} {jj : Nat} (h1 : f env = .ok d) (h2 : chk d = true) (h3 : fe env = .ok (.int kk)) (h4 : env[i]? = some (some (.lst ds))) (h5 : ixN ds.length kk = some jj) (h6 : env.set i (some (.lst (ds.set jj d))) = e1) : sSetI i fe f chk env = .nxt e1 := by
  unfold sSetI; rw [h1]; show toOut env (if chk d = true then _ else _) = _; rw [if_pos h2, h3]
  show toOut env (match env[i]?, D.int kk with | some (some (.lst ds)), .int k => _ | _, _ => _) = _
  rw [h4]; dsimp only; rw [h5]; dsimp only; rw [h6]; rfl
theorem ev_tgt {tg : Tgt} (h1 : f env = .ok d) (h2 : parts tg d = .ok ds) (h3 : setAll tg.slots ds env = e1) : sTgt tg f env = .nxt e1 := by
  unfold sTgt; rw [h1]; show toOut env ((parts tg d).map fun ps => .nxt (setAll tg.slots ps env)) = _; rw [h2, ← h3]; rfl
theorem ev_tgt_two (h1 : f env = .ok (.tup [a, b])) (h2 : env.set i (some a) = e) (h3 : e.set j (some b) = e1) : sTgt (.two i j) f env = .nxt e1 := by
  unfold sTgt; rw [h1, ← h3, ← h2]; rfl
theorem ev_setAll0 {is : List Nat} : setAll is ([] : List D) env = env := by cases is <;> rfl
theorem ev_setAllN {l : List D} : setAll [] l env = env := id rfl
theorem ev_setAll {is : List Nat} {l : List D} (h1 : env.set i (some d) = e1) (h2 : setAll is l e1 = e2) : setAll (i :: is) (d :: l) env = e2 := by
  show setAll is l (env.set i (some d)) = _; rw [h1, h2]
theorem ev_for {tg : Tgt} (h1 : l env = .ok ds) (h2 : forGo tg s ds env = o) : sFor l tg s env = o := by
  show (l env).walk env (forGo tg s) = _; rw [h1]; exact h2
theorem ev_raise : sRaise C env = .err C env := id rfl
theorem ev_loop_nxt {kk : Sl → Out} (h1 : s env = .nxt e1) (h2 : kk e1 = o) : (s env).loop kk = o := by rw [h1]; exact h2
theorem ev_lim {α : Type} {n : Nat} {r r' : Res α} (h : n ≤ 100000) (h2 : r = r') : lim n r = r' := by rw [lim_ok h]; exact h2
end
section
variable {i n : Nat} {d : D} {env e e1 : Sl} {s s1 s2 : Sl → Out} {ds : List D} {C : Str} {o o1 : Out} {r : Res D}
theorem ev_then (h1 : s1 env = o1) (h2 : o1.andThen s2 = o) : sSeq s1 s2 env = o := by
  show (s1 env).andThen s2 = _; rw [h1]; exact h2
theorem ev_then_nxt (h : s e = o) : (Out.nxt e).andThen s = o := h
theorem ev_then_ret : (Out.ret d).andThen s = .ret d := id rfl
theorem ev_then_err : (Out.err C e).andThen s = .err C e := id rfl
theorem ev_for_one (h1 : env.set i (some d) = e1) (h2 : (s e1).loop (forGo (.one i) s ds) = o) : forGo (.one i) s (d :: ds) env = o := by
  rw [forGo_one, h1]; exact h2
theorem ev_for_two {a b : D} {j : Nat} (h1 : env.set i (some a) = e) (h3 : e.set j (some b) = e1) (h2 : (s e1).loop (forGo (.two i j) s ds) = o) : forGo (.two i j) s (.tup [a, b] :: ds) env = o := by
  rw [forGo_two, h1, h3]; exact h2
theorem ev_lc_nil {tg : Tgt} {t : EB} {f : EE} : lcGo tg t f env [] = .ok [] := id rfl
theorem ev_lc_yes {f : EE} {y : D} {ys : List D} (h1 : env.set i (some d) = e1) (h2 : f e1 = .ok y) (h3 : lcGo (.one i) eYes f env ds = .ok ys) : lcGo (.one i) eYes f env (d :: ds) = .ok (y :: ys) := by
  rw [lcGo_one, h1, h2, h3]; rfl
/-- the frame at the start -/
def pad : Nat → List D → Sl
  | 0, _ => []
  | n + 1, [] => none :: pad n []
  | n + 1, d :: ds => some d :: pad n ds
theorem pad_eq : ∀ {n : Nat} {ds : List D}, ds.length ≤ n → ds.map some ++ List.replicate (n - ds.length) none = pad n ds
  | 0, [], _ => rfl
  | 0, _ :: _, h => by simp at h
  | n + 1, [], _ => by
    have := pad_eq (n := n) (ds := []) (Nat.zero_le _)
    simp only [List.map_nil, List.nil_append, List.length_nil, Nat.sub_zero] at this ⊢
    rw [List.replicate_succ, this]; rfl
  | n + 1, d :: ds, h => by
    have := pad_eq (n := n) (ds := ds) (by simpa using h)
    simp only [List.map_cons, List.cons_append, List.length_cons, Nat.add_sub_add_right] at this ⊢
    rw [this]; rfl
theorem ev_pad0 {l : List D} : pad 0 l = [] := id rfl
theorem ev_padN (h : pad n [] = e) : pad (n + 1) [] = none :: e := by rw [← h]; rfl
theorem ev_padC (h : pad n ds = e) : pad (n + 1) (d :: ds) = some d :: e := by rw [← h]; rfl
theorem ev_fnSem (h0 : ds.length ≤ n) (h : pad n ds = e) (h1 : s e = o) (h2 : outRes o = r) : fnSem n s ds = r := by
  unfold fnSem; rw [pad_eq h0, h, h1]; exact h2
theorem ev_fnSemL (h0 : ds.length ≤ n) (h : pad n ds = e) (h1 : s e = o) (h2 : outResL o = r) : fnSemL n s ds = r := by
  unfold fnSemL; rw [pad_eq h0, h, h1]; exact h2
theorem ev_out_ret : outRes (.ret d) = .ok d := id rfl
theorem ev_out_nxt : outRes (.nxt e) = .ok .non := id rfl
theorem ev_out_err : outRes (.err C e) = .err C := id rfl
theorem ev_outL_ret : outResL (.ret d) = .ok d := id rfl
theorem ev_outL_err : outResL (.err C e) = .err C := id rfl
end
section
variable {a b : D} {l : List D} {r : Res D} {rb : Res Bool} {rl : Res (List D)}
theorem gt_add (h : D.add a b = r) : D.add a b = r := h
theorem gt_isi (h : D.isi l = r) : D.isi l = r := h
theorem gt_ix (h : D.ix a b = r) : D.ix a b = r := h
theorem gt_len (h : D.len l = r) : D.len l = r := h
theorem gt_mul (h : D.mul a b = r) : D.mul a b = r := h
theorem gt_eq (h : D.eq a b = r) : D.eq a b = r := h
theorem gt_ne (h : D.ne a b = r) : D.ne a b = r := h
theorem gt_lim {α : Type} {n : Nat} {x y : Res α} (h : lim n x = y) : lim n x = y := h
theorem gt_truth (h : D.truth a = rb) : D.truth a = rb := h
theorem gt_pick {α : Type} {k : Bool} {p q x : α} (h : pick k p q = x) : pick k p q = x := h
theorem gt_look {gs : List (Str × D)} {M : Str} {o : Option D} (h : gs.lookup M = o) : gs.lookup M = o := h
theorem gt_seq {s1 s2 : Sl → Out} {e : Sl} {o : Out} (h : sSeq s1 s2 e = o) : sSeq s1 s2 e = o := h
theorem ev_bind {α β : Type} {r : Res α} {k : α → Res β} {a : α} {x : Res β} (h1 : r = .ok a) (h2 : k a = x) : r.bind k = x := by rw [h1]; exact h2
theorem ev_branch {r : Res Bool} {k : Bool} {env : Sl} {s1 s2 : Sl → Out} {o : Out} (h1 : r = .ok k) (h2 : pick k (s1 env) (s2 env) = o) : r.branch env s1 s2 = o := by rw [h1]; exact h2
theorem ok_ok {α : Type} {a : α} : Res.ok a = Res.ok a := rfl
theorem isi_of {d : D} {n : String} {t : String} {k : Bool} (h1 : D.ty d = some t) (h2 : D.isTy t n = some k) : D.isi [d, .raw (.ty n)] = .ok (.bl k) := by
  show (match D.ty d with | some a => _ | none => _) = _; rw [h1]; dsimp only; rw [h2]
theorem ist_ii : D.isTy "int" "int" = some true := by decide +kernel
theorem ist_bi : D.isTy "bool" "int" = some true := by decide +kernel
theorem ist_si : D.isTy "str" "int" = some false := by decide +kernel
theorem ist_li : D.isTy "list" "int" = some false := by decide +kernel
theorem ist_ti : D.isTy "tuple" "int" = some false := by decide +kernel
theorem ist_ni : D.isTy "NoneType" "int" = some false := by decide +kernel
theorem ist_ib : D.isTy "int" "bool" = some false := by decide +kernel
theorem ist_bb : D.isTy "bool" "bool" = some true := by decide +kernel
theorem ist_sb : D.isTy "str" "bool" = some false := by decide +kernel
theorem ist_lb : D.isTy "list" "bool" = some false := by decide +kernel
theorem ist_tb : D.isTy "tuple" "bool" = some false := by decide +kernel
theorem ist_nb : D.isTy "NoneType" "bool" = some false := by decide +kernel
theorem ist_is : D.isTy "int" "str" = some false := by decide +kernel
theorem ist_bs : D.isTy "bool" "str" = some false := by decide +kernel
theorem ist_ss : D.isTy "str" "str" = some true := by decide +kernel
theorem ist_ls : D.isTy "list" "str" = some false := by decide +kernel
theorem ist_ts : D.isTy "tuple" "str" = some false := by decide +kernel
theorem ist_ns : D.isTy "NoneType" "str" = some false := by decide +kernel
theorem ist_il : D.isTy "int" "list" = some false := by decide +kernel
theorem ist_bl : D.isTy "bool" "list" = some false := by decide +kernel
theorem ist_sl : D.isTy "str" "list" = some false := by decide +kernel
theorem ist_ll : D.isTy "list" "list" = some true := by decide +kernel
theorem ist_tl : D.isTy "tuple" "list" = some false := by decide +kernel
theorem ist_nl : D.isTy "NoneType" "list" = some false := by decide +kernel
theorem ist_it : D.isTy "int" "tuple" = some false := by decide +kernel
theorem ist_bt : D.isTy "bool" "tuple" = some false := by decide +kernel
theorem ist_st : D.isTy "str" "tuple" = some false := by decide +kernel
theorem ist_lt : D.isTy "list" "tuple" = some false := by decide +kernel
theorem ist_tt : D.isTy "tuple" "tuple" = some true := by decide +kernel
theorem ist_nt : D.isTy "NoneType" "tuple" = some false := by decide +kernel
theorem ty_int {x : Int} : D.ty (.int x) = some "int" := id rfl
theorem ty_bl {x : Bool} : D.ty (.bl x) = some "bool" := id rfl
theorem ty_str {x : Str} : D.ty (.str x) = some "str" := id rfl
theorem ty_lst {x : List D} : D.ty (.lst x) = some "list" := id rfl
theorem ty_fz {x : List D} : D.ty (.fz x) = some "list" := id rfl
theorem ty_tup {x : List D} : D.ty (.tup x) = some "tuple" := id rfl
theorem ty_non : D.ty .non = some "NoneType" := id rfl
theorem nt_t : D.nt (.bl true) = .ok (.bl false) := id rfl
theorem nt_f : D.nt (.bl false) = .ok (.bl true) := id rfl
theorem int1_t : D.int1 [.bl true] = .ok (.int 1) := id rfl
theorem int1_f : D.int1 [.bl false] = .ok (.int 0) := id rfl
theorem add_lst_ok {xs ys : List D} (h : xs.length + ys.length ≤ 100000) : D.add (.lst xs) (.lst ys) = .ok (.lst (xs ++ ys)) := lim_ok h
theorem add_tup_ok {x : D} {xs ys : List D} (h : (x :: xs).length + ys.length ≤ 100000) : D.add (.tup (x :: xs)) (.tup ys) = .ok (.tup (x :: xs ++ ys)) := lim_ok h
theorem add_str_ok {z z' : Str} (h : z.length + z'.length ≤ 100000) : D.add (.str z) (.str z') = .ok (.str (z ++ z')) := lim_ok h
theorem sl_str_ok {z : Str} {lo hi : Option Int} (h : z.length ≤ 100000) : D.sl (.str z) lo hi = .ok (.str (L2.cutS z lo hi)) := lim_ok h
theorem gt_sl {p q : Option Int} (h : D.sl a p q = r) : D.sl a p q = r := h
theorem len_str_ok {z : Str} (h : z.length ≤ 100000) : D.len [.str z] = .ok (.int z.length) := lim_ok h
theorem ix0_lst {x : D} {xs : List D} : D.ix (.lst (x :: xs)) (.int 0) = .ok x := by
  show (match L2.atI (x :: xs) 0 with | some d => Res.ok d | none => .stuck) = _
  rw [show L2.atI (x :: xs) 0 = some x from L2.atI_nat (j := 0) rfl]
theorem ix_lst_at {xs : List D} {i : Nat} {x : D} (h : xs[i]? = some x) : D.ix (.lst xs) (.int (i : Int)) = .ok x := by
  show (match L2.atI xs i with | some d => Res.ok d | none => .stuck) = _
  rw [L2.atI_nat h]
theorem ix_tup_at {xs : List D} {i : Nat} {x : D} (h : xs[i]? = some x) : D.ix (.tup xs) (.int (i : Int)) = .ok x := by
  show (match L2.atI xs i with | some d => Res.ok d | none => .stuck) = _
  rw [L2.atI_nat h]
theorem ix_lst_int {xs : List D} {i : Int} {x : D} (h0 : 0 ≤ i) (h : xs[i.toNat]? = some x) : D.ix (.lst xs) (.int i) = .ok x := by
  obtain ⟨k, rfl⟩ := Int.eq_ofNat_of_zero_le h0; exact ix_lst_at h
theorem ix_tup_int {xs : List D} {i : Int} {x : D} (h0 : 0 ≤ i) (h : xs[i.toNat]? = some x) : D.ix (.tup xs) (.int i) = .ok x := by
  obtain ⟨k, rfl⟩ := Int.eq_ofNat_of_zero_le h0; exact ix_tup_at h
end
end Dx
set_option linter.all false
open PySem Dx
local macro_rules | `(tactic| walk_at "size") => `(tactic| (focus (simp; omega)))
local macro_rules | `(tactic| walk_at "size") => `(tactic| (focus (simp; done)))
local macro_rules | `(tactic| walk_at "size") => `(tactic| (simp only [List.length_cons, List.length_nil, List.length_append, List.length_map]; omega))
local macro_rules | `(tactic| walk_at "size") => `(tactic| omega)
local macro_rules | `(tactic| walk_at "size") => `(tactic| with_reducible assumption)
local macro_rules | `(tactic| walk_at "dec") => `(tactic| (simp only [decide_eq_true_eq, decide_eq_false_iff_not, Bool.not_eq_true', Bool.not_eq_false', Bool.not_true, Bool.not_false, Bool.and_eq_true, Bool.or_eq_true, Bool.and_eq_false_iff, Bool.or_eq_false_iff, beq_iff_eq, beq_eq_false_iff_ne, bne_iff_ne, ne_eq, Bool.and_true, Bool.true_and, Bool.and_false, Bool.false_and, Bool.or_true, Bool.true_or, Bool.or_false, Bool.false_or, reduceCtorEq, List.length_cons, List.length_nil, List.length_append, List.length_map]; first | done | omega))
local macro_rules | `(tactic| walk_at "dec") => `(tactic| with_reducible assumption)
local macro_rules | `(tactic| walk_at "dec") => `(tactic| with_reducible exact rfl)
local macro_rules | `(tactic| walk_at "evop") => `(tactic| with_reducible assumption)
local macro_rules | `(tactic| walk_at "evop") => `(tactic| ((with_reducible apply rng1_ok) <;> walk_at "size"))
local macro_rules | `(tactic| walk_at "evop") => `(tactic| with_reducible exact parts_two)
local macro_rules | `(tactic| walk_at "evop") => `(tactic| with_reducible exact parts_one)
local macro_rules | `(tactic| walk_at "evop") => `(tactic| with_reducible exact zip2_tup)
local macro_rules | `(tactic| walk_at "evop") => `(tactic| with_reducible exact zip2_lst)
local macro_rules | `(tactic| walk_at "evop") => `(tactic| with_reducible exact tupOf_tup)
local macro_rules | `(tactic| walk_at "evop") => `(tactic| with_reducible exact tupOf_lst)
local macro_rules | `(tactic| walk_at "evop") => `(tactic| with_reducible exact listOf_fz)
local macro_rules | `(tactic| walk_at "evop") => `(tactic| with_reducible exact listOf_tup)
local macro_rules | `(tactic| walk_at "evop") => `(tactic| with_reducible exact listOf_lst)
local macro_rules | `(tactic| walk_at "evop") => `(tactic| with_reducible exact rev_tup)
local macro_rules | `(tactic| walk_at "evop") => `(tactic| with_reducible exact rev_lst)
local macro_rules | `(tactic| walk_at "evop") => `(tactic| with_reducible exact items_str)
local macro_rules | `(tactic| walk_at "evop") => `(tactic| with_reducible exact items_fz)
local macro_rules | `(tactic| walk_at "evop") => `(tactic| with_reducible exact items_tup)
local macro_rules | `(tactic| walk_at "evop") => `(tactic| with_reducible exact items_lst)
local macro_rules | `(tactic| walk_at "evop") => `(tactic| with_reducible exact abs1_int)
local macro_rules | `(tactic| walk_at "evop") => `(tactic| with_reducible exact max2_int)
local macro_rules | `(tactic| walk_at "evop") => `(tactic| with_reducible exact min2_int)
local macro_rules | `(tactic| walk_at "evop") => `(tactic| with_reducible exact int1_int)
local macro_rules | `(tactic| walk_at "evop") => `(tactic| with_reducible exact int1_bl)
local macro_rules | `(tactic| walk_at "evop") => `(tactic| with_reducible exact int1_f)
local macro_rules | `(tactic| walk_at "evop") => `(tactic| with_reducible exact int1_t)
local macro_rules | `(tactic| walk_at "evop") => `(tactic| with_reducible exact nt_bl)
local macro_rules | `(tactic| walk_at "evop") => `(tactic| with_reducible exact nt_f)
local macro_rules | `(tactic| walk_at "evop") => `(tactic| with_reducible exact nt_t)
local macro_rules | `(tactic| walk_at "evop") => `(tactic| ((with_reducible apply gt_lim); (with_reducible apply ev_lim); walk_at "size"; exact rfl))
local macro_rules | `(tactic| walk_at "evop") => `(tactic| ((with_reducible apply gt_isi); (with_reducible apply isi_of) <;> with_reducible first | exact ty_int | exact ty_bl | exact ty_str | exact ty_lst | exact ty_fz | exact ty_tup | exact ty_non | exact ist_ii | exact ist_bi | exact ist_si | exact ist_li | exact ist_ti | exact ist_ni | exact ist_ib | exact ist_bb | exact ist_sb | exact ist_lb | exact ist_tb | exact ist_nb | exact ist_is | exact ist_bs | exact ist_ss | exact ist_ls | exact ist_ts | exact ist_ns | exact ist_il | exact ist_bl | exact ist_sl | exact ist_ll | exact ist_tl | exact ist_nl | exact ist_it | exact ist_bt | exact ist_st | exact ist_lt | exact ist_tt | exact ist_nt))
local macro_rules | `(tactic| walk_at "evop") => `(tactic| ((with_reducible apply gt_truth); first | with_reducible exact truth_bl | with_reducible exact truth_int | with_reducible exact truth_non | with_reducible assumption))
local macro_rules | `(tactic| walk_at "evop") => `(tactic| ((with_reducible apply gt_len); first | with_reducible assumption | with_reducible exact len_lst | with_reducible exact len_tup | with_reducible exact len_fz | (apply len_str_ok; walk_at "size") | with_reducible assumption))
local macro_rules | `(tactic| walk_at "evop") => `(tactic| ((with_reducible apply gt_ix); first | with_reducible assumption | with_reducible exact ix0_lst | (apply ix_tup_int (by decide); exact rfl) | (apply ix_lst_int (by decide); exact rfl) | exact rfl))
local macro_rules | `(tactic| walk_at "evop") => `(tactic| ((with_reducible apply gt_ne); first | with_reducible assumption | with_reducible exact ne_int _ _ | with_reducible exact ne_str _ _))
local macro_rules | `(tactic| walk_at "evop") => `(tactic| ((with_reducible apply gt_eq); first | with_reducible assumption | with_reducible exact eq_int _ _ | with_reducible exact eq_str _ _))
local macro_rules | `(tactic| walk_at "evop") => `(tactic| with_reducible exact ge_int)
local macro_rules | `(tactic| walk_at "evop") => `(tactic| with_reducible exact gt_int)
local macro_rules | `(tactic| walk_at "evop") => `(tactic| with_reducible exact le_int)
local macro_rules | `(tactic| walk_at "evop") => `(tactic| with_reducible exact lt_int)
local macro_rules | `(tactic| walk_at "evop") => `(tactic| ((with_reducible apply fdiv_int) <;> first | omega | with_reducible assumption))
local macro_rules | `(tactic| walk_at "evop") => `(tactic| ((with_reducible apply mod_int); first | omega | with_reducible assumption))
local macro_rules | `(tactic| walk_at "evop") => `(tactic| ((with_reducible apply gt_mul); first | with_reducible assumption | exact mul_l (fits_of (by omega) (by omega)) | exact mul_r (fits_of (by omega) (by omega))))
local macro_rules | `(tactic| walk_at "evop") => `(tactic| with_reducible exact neg_int)
local macro_rules | `(tactic| walk_at "evop") => `(tactic| with_reducible exact iadd_int)
local macro_rules | `(tactic| walk_at "evop") => `(tactic| with_reducible exact sub_int)
local macro_rules | `(tactic| walk_at "evop") => `(tactic| ((with_reducible apply gt_sl); first | with_reducible assumption | ((with_reducible apply sl_str_ok); first | (decide +kernel) | walk_at "size")))
local macro_rules | `(tactic| walk_at "evop") => `(tactic| ((with_reducible apply gt_add); first | with_reducible assumption | with_reducible exact add_int | ((with_reducible apply add_lst_ok); walk_at "size") | ((with_reducible apply add_tup_ok); walk_at "size") | ((with_reducible apply add_str_ok); first | (decide +kernel) | walk_at "size")))
local macro_rules | `(tactic| walk_at "ev1") => `(tactic| (show (_ : Nat) ≤ _; walk_at "size"))
local macro_rules | `(tactic| walk_at "ev1") => `(tactic| (show (_ : Nat) < _; first | (focus (simp; done)) | omega))
local macro_rules | `(tactic| walk_at "ev1") => `(tactic| walk_at "evop")
local macro_rules | `(tactic| walk_at "ev1") => `(tactic| with_reducible apply ev_lc_yes)
local macro_rules | `(tactic| walk_at "ev1") => `(tactic| with_reducible exact ev_lc_nil)
local macro_rules | `(tactic| walk_at "ev1") => `(tactic| with_reducible apply ev_bind)
local macro_rules | `(tactic| walk_at "ev1") => `(tactic| with_reducible apply ev_branch)
local macro_rules | `(tactic| walk_at "ev1") => `(tactic| with_reducible exact ev_outL_err)
local macro_rules | `(tactic| walk_at "ev1") => `(tactic| with_reducible exact ev_outL_ret)
local macro_rules | `(tactic| walk_at "ev1") => `(tactic| with_reducible exact ev_out_err)
local macro_rules | `(tactic| walk_at "ev1") => `(tactic| with_reducible exact ev_out_nxt)
local macro_rules | `(tactic| walk_at "ev1") => `(tactic| with_reducible exact ev_out_ret)
local macro_rules | `(tactic| walk_at "ev1") => `(tactic| with_reducible apply ev_padC)
local macro_rules | `(tactic| walk_at "ev1") => `(tactic| with_reducible apply ev_padN)
local macro_rules | `(tactic| walk_at "ev1") => `(tactic| with_reducible exact ev_pad0)
local macro_rules | `(tactic| walk_at "ev1") => `(tactic| ((with_reducible apply ev_fnSemL); (focus (simp; done))))
local macro_rules | `(tactic| walk_at "ev1") => `(tactic| ((with_reducible apply ev_fnSem); (focus (simp; done))))
local macro_rules | `(tactic| walk_at "ev1") => `(tactic| (with_reducible apply ev_sOwn))
local macro_rules | `(tactic| walk_at "ev1") => `(tactic| ((with_reducible apply ev_aug); focus exact rfl))
local macro_rules | `(tactic| walk_at "ev1") => `(tactic| ((with_reducible apply ev_lst); focus exact rfl))
local macro_rules | `(tactic| walk_at "ev1") => `(tactic| ((with_reducible apply ev_appF); focus exact rfl))
local macro_rules | `(tactic| walk_at "ev1") => `(tactic| ((with_reducible apply ev_app); focus exact rfl))
local macro_rules | `(tactic| walk_at "ev1") => `(tactic| ((with_reducible apply gt_look); exact rfl))
local macro_rules | `(tactic| walk_at "ev1") => `(tactic| (with_reducible apply ev_meth))
local macro_rules | `(tactic| walk_at "ev1") => `(tactic| with_reducible apply ev_chain)
local macro_rules | `(tactic| walk_at "ev1") => `(tactic| ((with_reducible apply ev_chain_f); iterate 3 focus (walk_at "ev"); focus (walk_at "dec")))
local macro_rules | `(tactic| walk_at "ev1") => `(tactic| ((with_reducible apply ev_retV); exact rfl))
local macro_rules | `(tactic| walk_at "ev1") => `(tactic| with_reducible apply ev_methL)
local macro_rules | `(tactic| walk_at "ev1") => `(tactic| with_reducible apply ev_isC_obj)
local macro_rules | `(tactic| walk_at "ev1") => `(tactic| with_reducible apply ev_allS)
local macro_rules | `(tactic| walk_at "ev1") => `(tactic| with_reducible apply ev_make)
local macro_rules | `(tactic| walk_at "ev1") => `(tactic| with_reducible apply ev_setAll)
local macro_rules | `(tactic| walk_at "ev1") => `(tactic| with_reducible exact ev_setAllN)
local macro_rules | `(tactic| walk_at "ev1") => `(tactic| with_reducible exact ev_setAll0)
local macro_rules | `(tactic| walk_at "ev1") => `(tactic| with_reducible apply ev_tgt_two)
local macro_rules | `(tactic| walk_at "ev1") => `(tactic| with_reducible apply ev_retL)
local macro_rules | `(tactic| walk_at "ev1") => `(tactic| with_reducible apply ev_drop)
local macro_rules | `(tactic| walk_at "ev1") => `(tactic| with_reducible exact ev_raise)
local macro_rules | `(tactic| walk_at "ev1") => `(tactic| with_reducible apply ev_for)
local macro_rules | `(tactic| walk_at "ev1") => `(tactic| with_reducible apply ev_wipe)
local macro_rules | `(tactic| walk_at "ev1") => `(tactic| with_reducible exact ev_wipe0)
local macro_rules | `(tactic| walk_at "ev1") => `(tactic| with_reducible apply ev_lc)
local macro_rules | `(tactic| walk_at "ev1") => `(tactic| with_reducible apply ev_slL)
local macro_rules | `(tactic| walk_at "ev1") => `(tactic| with_reducible apply ev_sl)
local macro_rules | `(tactic| walk_at "ev1") => `(tactic| with_reducible exact ev_nopart)
local macro_rules | `(tactic| walk_at "ev1") => `(tactic| with_reducible apply ev_part)
local macro_rules | `(tactic| walk_at "ev1") => `(tactic| with_reducible exact ev_yes)
local macro_rules | `(tactic| walk_at "ev1") => `(tactic| with_reducible apply ev_rev)
local macro_rules | `(tactic| walk_at "ev1") => `(tactic| with_reducible apply ev_items)
local macro_rules | `(tactic| walk_at "ev1") => `(tactic| with_reducible apply ev_callL)
local macro_rules | `(tactic| walk_at "ev1") => `(tactic| with_reducible apply ev_L)
local macro_rules | `(tactic| walk_at "ev1") => `(tactic| with_reducible apply ev_tup)
local macro_rules | `(tactic| walk_at "ev1") => `(tactic| with_reducible apply ev_un)
local macro_rules | `(tactic| walk_at "ev1") => `(tactic| with_reducible apply ev_eIf)
local macro_rules | `(tactic| walk_at "ev1") => `(tactic| with_reducible apply ev_orV_p)
local macro_rules | `(tactic| walk_at "ev1") => `(tactic| with_reducible apply ev_andV_p)
local macro_rules | `(tactic| walk_at "ev1") => `(tactic| with_reducible apply ev_orB_p)
local macro_rules | `(tactic| walk_at "ev1") => `(tactic| with_reducible apply ev_andB_p)
local macro_rules | `(tactic| walk_at "ev1") => `(tactic| with_reducible apply ev_notB)
local macro_rules | `(tactic| walk_at "ev1") => `(tactic| with_reducible apply ev_truth)
local macro_rules | `(tactic| walk_at "ev1") => `(tactic| ((with_reducible apply gt_pick); first | (apply ev_pick_t; focus (walk_at "dec")) | (apply ev_pick_f; focus (walk_at "dec")) | with_reducible first | apply ev_pick_and | apply ev_pick_or | apply ev_pick_andV | apply ev_pick_orV))
local macro_rules | `(tactic| walk_at "ev1") => `(tactic| with_reducible apply ev_ret)
local macro_rules | `(tactic| walk_at "ev1") => `(tactic| with_reducible apply ev_sSet)
local macro_rules | `(tactic| walk_at "ev1") => `(tactic| with_reducible apply ev_sIf)
local macro_rules | `(tactic| walk_at "ev1") => `(tactic| with_reducible exact ev_next)
local macro_rules | `(tactic| walk_at "ev1") => `(tactic| with_reducible exact ev_then_err)
local macro_rules | `(tactic| walk_at "ev1") => `(tactic| with_reducible exact ev_then_ret)
local macro_rules | `(tactic| walk_at "ev1") => `(tactic| with_reducible apply ev_then_nxt)
local macro_rules | `(tactic| walk_at "ev1") => `(tactic| with_reducible apply ev_then)
local macro_rules | `(tactic| walk_at "ev1") => `(tactic| with_reducible apply ev_setS)
local macro_rules | `(tactic| walk_at "ev1") => `(tactic| with_reducible exact ev_set0)
local macro_rules | `(tactic| walk_at "ev1") => `(tactic| with_reducible apply ev_test)
local macro_rules | `(tactic| walk_at "ev1") => `(tactic| with_reducible apply ev_call)
local macro_rules | `(tactic| walk_at "ev1") => `(tactic| with_reducible exact ev_nil)
local macro_rules | `(tactic| walk_at "ev1") => `(tactic| with_reducible apply ev_cons)
local macro_rules | `(tactic| walk_at "ev1") => `(tactic| with_reducible apply ev_bin)
local macro_rules | `(tactic| walk_at "ev1") => `(tactic| ((with_reducible apply gt_seq); with_reducible assumption))
local macro_rules | `(tactic| walk_at "ev1") => `(tactic| ((with_reducible apply ev_var); exact rfl))
local macro_rules | `(tactic| walk_at "ev1") => `(tactic| with_reducible exact ok_ok)
local macro_rules | `(tactic| walk_at "ev1") => `(tactic| with_reducible exact ev_c)
local macro_rules | `(tactic| walk_at "ev") => `(tactic| repeat walk_at "ev1")
set_option Elab.async false
set_option linter.all false
set_option maxRecDepth 100000
set_option maxHeartbeats 4000000
namespace Dx
open PySem L2
def S (l : List Nat) : Str := ⟨l.toArray⟩
theorem S_len (l : List Nat) : (S l).length = l.length := by simp [S, Str.length]
theorem S_list (l : List Nat) : (S l).cps.toList = l := by simp [S]
theorem S_add (a b : List Nat) : S a ++ S b = S (a ++ b) := by
  show (⟨a.toArray ++ b.toArray⟩ : Str) = ⟨(a ++ b).toArray⟩
  rw [List.append_toArray]
theorem S_inj {a b : List Nat} (h : S a = S b) : a = b := by rw [← S_list a, h, S_list]
theorem S_of (z : Str) : z = S z.cps.toList := by simp [S]
theorem S_eq {a b : List Nat} : (S a == S b) = decide (a = b) := by
  by_cases h : a = b
  · subst h; simp
  · rw [decide_eq_false h, beq_eq_false_iff_ne]; exact fun e => h (S_inj e)
theorem add_S {a b : List Nat} (h : a.length + b.length ≤ 100000) : D.add (.str (S a)) (.str (S b)) = .ok (.str (S (a ++ b))) := by
  rw [add_str, S_len, S_len, lim_ok h, S_add]
theorem len_S {l : List Nat} (h : l.length ≤ 100000) : D.len [.str (S l)] = .ok (.int l.length) := by
  rw [len_str, S_len, lim_ok h]
theorem ix_S {l : List Nat} {i : Nat} (h : i < l.length) (h2 : l.length ≤ 100000) : D.ix (.str (S l)) (.int (i : Int)) = .ok (.str (S [l.getD i 0])) := by
  show lim (S l).length _ = _
  rw [S_len, lim_ok h2, S_list, L2.atI_nat (List.getElem?_eq_getElem h)]
  simp [List.getD_eq_getElem?_getD, List.getElem?_eq_getElem h, S]
theorem sIx_nat (n d p : Nat) : HT.sIx n d (some (p : Int)) = min p n := by
  unfold HT.sIx
  dsimp only
  rw [if_neg (by omega)]
  rfl
theorem sIx_none (n d : Nat) : HT.sIx n d none = d := rfl
theorem sl_to {l : List Nat} {p : Int} (h0 : 0 ≤ p) (h2 : l.length ≤ 100000) : D.sl (.str (S l)) none (some p) = .ok (.str (S (l.take p.toNat))) := by
  obtain ⟨p, rfl⟩ := Int.eq_ofNat_of_zero_le h0
  show lim (S l).length _ = _
  rw [S_len, lim_ok h2]
  unfold L2.cutS
  rw [sIx_nat, sIx_none, S_len, S_list, List.drop_zero]
  show Res.ok (D.str (S _)) = _
  rw [Nat.sub_zero]
  congr 3
  rw [List.take_eq_take_iff]
  simp
theorem sl_from {l : List Nat} {p : Int} (h0 : 0 ≤ p) (h2 : l.length ≤ 100000) : D.sl (.str (S l)) (some p) none = .ok (.str (S (l.drop p.toNat))) := by
  obtain ⟨p, rfl⟩ := Int.eq_ofNat_of_zero_le h0
  show lim (S l).length _ = _
  rw [S_len, lim_ok h2]
  unfold L2.cutS
  rw [sIx_nat, sIx_none, S_len, S_list]
  show Res.ok (D.str (S _)) = _
  congr 3
  rw [List.take_of_length_le (by rw [List.length_drop]; omega)]
  show List.drop (min p l.length) l = List.drop p l
  by_cases h : p ≤ l.length
  · rw [Nat.min_eq_left h]
  · rw [Nat.min_eq_right (by omega), List.drop_eq_nil_of_le (Nat.le_refl _), List.drop_eq_nil_of_le (by omega)]
theorem slD_to {xs : List D} {p : Int} (h0 : 0 ≤ p) : D.sl (.lst xs) none (some p) = .ok (.lst (xs.take p.toNat)) := by
  obtain ⟨p, rfl⟩ := Int.eq_ofNat_of_zero_le h0
  show Res.ok (D.lst (D.cutD xs none (some (p : Int)))) = _
  unfold D.cutD
  rw [sIx_nat, sIx_none, List.drop_zero, Nat.sub_zero]
  congr 2
  rw [List.take_eq_take_iff]
  simp
def az (c : Nat) : Bool := decide (97 ≤ c) && decide (c ≤ 122)
structure nm (l : List Nat) : Prop where
  lo : 1 ≤ l.length
  hi : l.length ≤ 8
  az : ∀ c ∈ l, az c = true
def alphaL : List Nat := List.range' 97 26
theorem alpha_toList : ("abcdefghijklmnopqrstuvwxyz" : Str).cps.toList = List.range' 97 26 := by decide +kernel
theorem alpha_S : ("abcdefghijklmnopqrstuvwxyz" : Str) = S alphaL := by rw [S_of "abcdefghijklmnopqrstuvwxyz", alpha_toList]; rfl
theorem empty_S : ("" : Str) = S [] := by decide +kernel
theorem ix_alpha (x : Int) : ∃ c, az c = true ∧ D.ix (.str "abcdefghijklmnopqrstuvwxyz") (.int (x % 26)) = .ok (.str (S [c])) := by
  have h1 := Int.emod_nonneg x (b := 26) (by decide)
  have h2 := Int.emod_lt_of_pos x (b := 26) (by decide)
  obtain ⟨i, hi⟩ := Int.eq_ofNat_of_zero_le h1
  rw [hi] at h2 ⊢
  have hl : i < alphaL.length := by simp [alphaL]; omega
  refine ⟨alphaL.getD i 0, ?_, by rw [alpha_S]; exact ix_S hl (by decide)⟩
  have hm : alphaL.getD i 0 ∈ alphaL := by
    rw [List.getD_eq_getElem?_getD, List.getElem?_eq_getElem hl]
    exact List.getElem_mem hl
  unfold alphaL at hm
  rw [List.mem_range'] at hm
  obtain ⟨j, hj, e⟩ := hm
  unfold alphaL
  unfold az
  rw [e]
  simp
  omega
theorem okdA_all (n : Nat) : ∀ xs : List D, D.okdA n xs = xs.all (D.okd n)
  | [] => by simp [D.okdA]
  | x :: xs => by rw [D.okdA, okdA_all n xs, List.all_cons]
theorem okd_lst {n : Nat} {xs : List D} (h : ∀ x ∈ xs, D.okd n x = true) : D.okd (n + 1) (.lst xs) = true := by
  rw [D.okd, okdA_all]; exact List.all_eq_true.mpr h
theorem okd_tup {n : Nat} {xs : List D} (h : ∀ x ∈ xs, D.okd n x = true) : D.okd (n + 1) (.tup xs) = true := by
  rw [D.okd, okdA_all]; exact List.all_eq_true.mpr h
theorem okd_int {n : Nat} {i : Int} : D.okd n (.int i) = true := by cases n <;> rfl
def okS (l : List Nat) : Prop := ∀ c ∈ l, c < 1114112
theorem okd_S {l : List Nat} {n : Nat} (h : okS l) : D.okd n (.str (S l)) = true := by
  cases n <;> (show (S l).cps.all (fun x => decide (x < 1114112)) = true; rw [Array.all_eq_true_iff_forall_mem]; intro c m; exact decide_eq_true (h c (by simpa [S] using m)))
theorem nm.okS {l : List Nat} (h : nm l) : okS l := fun c m => by
  have := h.az c m
  unfold Dx.az at this
  simp at this
  omega
theorem okS.take {a : List Nat} (h : okS a) (n : Nat) : okS (a.take n) := fun c m => h c (List.mem_of_mem_take m)
theorem okS.drop {a : List Nat} (h : okS a) (n : Nat) : okS (a.drop n) := fun c m => h c (List.mem_of_mem_drop m)
theorem exN {P : Sl → Prop} {X : Out} {e : Sl} (h : X = .nxt e) (h2 : P e) : ∃ e1, X = .nxt e1 ∧ P e1 := ⟨e, h, h2⟩
theorem for_inv {tg : Tgt} {s : Sl → Out} (I : Nat → Sl → Prop) : ∀ {ds : List D} (n : Nat) {env : Sl}, I n env →
    (∀ k d e, ds[k]? = some d → I (n + k) e → ∃ ps e1, parts tg d = .ok ps ∧ s (setAll tg.slots ps e) = .nxt e1 ∧ I (n + k + 1) e1) → ∃ e1, forGo tg s ds env = .nxt e1 ∧ I (n + ds.length) e1
  | [], n, env, h0, _ => ⟨env, rfl, h0⟩
  | d :: ds, n, env, h0, st => by
    obtain ⟨ps, e1, h1, h2, h3⟩ := st 0 d env rfl h0
    obtain ⟨e2, h4, h5⟩ := for_inv I (ds := ds) (n + 1) (env := e1) h3 fun k d e hk hi => by
      have := st (k + 1) d e (by simpa using hk) (by rwa [show n + (k + 1) = n + 1 + k by omega])
      rwa [show n + (k + 1) + 1 = n + 1 + k + 1 by omega] at this
    refine ⟨e2, ?_, by rw [List.length_cons, show n + (ds.length + 1) = n + 1 + ds.length by omega]; exact h5⟩
    unfold forGo
    rw [h1]
    show (s (setAll tg.slots ps env)).loop (forGo tg s ds) = _
    rw [h2]
    exact h4
/-- over range(n) -/
theorem for_range {i : Nat} {s : Sl → Out} (I : Nat → Sl → Prop) {m : Nat} {env : Sl} (h0 : I 0 env)
    (st : ∀ (k : Nat) e, k < m → I k e → ∃ e1, s (e.set i (some (.int (k : Int)))) = .nxt e1 ∧ I (k + 1) e1) : ∃ e1, forGo (.one i) s ((List.range m).map fun (k : Nat) => .int k) env = .nxt e1 ∧ I m e1 := by
  obtain ⟨e1, h1, h2⟩ := for_inv (tg := .one i) (s := s) I (ds := (List.range m).map fun (k : Nat) => .int k) 0 (env := env) h0 fun k d e hk hi => by
    rw [List.getElem?_map] at hk
    have hlt : k < m := by
      by_cases h : k < m
      · exact h
      · rw [List.getElem?_eq_none (by simp; omega)] at hk; cases hk
    rw [List.getElem?_range hlt] at hk
    cases hk
    obtain ⟨e1, a, b⟩ := st k e hlt (by simpa using hi)
    exact ⟨_, e1, rfl, a, by simpa using b⟩
  exact ⟨e1, h1, by simpa using h2⟩
theorem lc_all {i : Nat} {f : EE} {base : Sl} {γ : D → D} : ∀ {ds : List D}, (∀ d ∈ ds, f (base.set i (some d)) = .ok (γ d)) → lcGo (.one i) eYes f base ds = .ok (ds.map γ)
  | [], _ => rfl
  | d :: ds, h => by
    rw [lcGo_one, h d List.mem_cons_self, eYes_ap, consR_t, lc_all fun c m => h c (List.mem_cons_of_mem _ m)]
    rfl
end Dx
set_option Elab.async false
set_option linter.all false
set_option maxRecDepth 100000
set_option maxHeartbeats 4000000
namespace Dx
open PySem L2
section
variable {i j n : Nat} {a b d c : D} {f g h f1 f2 f3 fo fe fk fv : EE} {t u : EB} {l m : EL} {env e e1 e2 : Sl} {ds es : List D} {x y : Int} {k q : Bool} {z : Str} {gs : List (Str × D)}
theorem ev_get2 (h1 : fo env = .ok (.dct gs)) (h2 : fk env = .ok a) (h3 : fv env = .ok b) (h4 : D.dget gs a b = .ok d) : eGet2 fo fk fv env = .ok d := by
  unfold eGet2; rw [h1]; show ((fk env).bind _) = _; rw [h2]; show ((fv env).bind _) = _; rw [h3]; exact h4
theorem ev_dict1 (h1 : fk env = .ok (.str z)) (h2 : fv env = .ok a) : eDict1 fk fv env = .ok (.dct [(z, a)]) := by
  unfold eDict1; rw [h1]; show ((fv env).bind _) = _; rw [h2]; rfl
theorem ev_dc {tg : Tgt} {own : List Nat} (h1 : l env = .ok ds) (h2 : ds.length ≤ 100000) (h3 : wipeE env own = e1) (h4 : dcGo tg fk fv e1 [] ds = .ok gs) : eDc l tg own fk fv env = .ok (.dct gs) := by
  unfold eDc; rw [h1]; show lim ds.length _ = _; rw [lim_ok h2, h3, h4]; rfl
theorem ev_appT (h2 : env[i]? = some (some (.lst ds))) (h1 : f env = .ok d) (h0 : D.flat1 d = true) (h3 : ds.length + 1 ≤ 100000) (h4 : env.set i (some (.lst (ds ++ [d]))) = e1) : sAppT i f env = .nxt e1 := by
  unfold sAppT; rw [h1]; show toOut env (if D.flat1 d = true then (match env[i]? with | some (some (.lst ds)) => _ | _ => _) else _) = _
  rw [if_pos h0, h2]; dsimp only; rw [lim_ok h3, h4]; rfl
theorem ev_setLF (h1 : l env = .ok ds) (h2 : ds.all D.flat1 = true) (h3 : env.set i (some (.lst ds)) = e1) : sSetLF i l env = .nxt e1 := by
  unfold sSetLF; rw [h1]; show toOut env (if ds.all D.flat1 = true then _ else _) = _; rw [if_pos h2, h3]; rfl
theorem ev_callV {tb : List (Str × (List D → Res D))} {F : List D → Res D} (h1 : env[i]? = some (some (.fn z))) (h2 : tb.lookup z = some F) (h3 : l env = .ok ds) (h4 : F ds = .ok d) : eCallV i l tb env = .ok d := by
  unfold eCallV; rw [h1]; dsimp only; rw [h2]; dsimp only; rw [h3, noErr_ok, bind_ok, h4]; rfl
theorem ev_allG (h1 : l env = .ok ds) (h2 : allGo f ds = .ok k) : eAllG l f env = .ok (.bl k) := by
  unfold eAllG; rw [h1, bind_ok, h2]; rfl
theorem allGo_all {p : D → Bool} : ∀ {ds : List D}, (∀ d ∈ ds, f [none, some d] = .ok (.bl (p d))) → allGo f ds = .ok (ds.all p)
  | [], _ => rfl
  | d :: ds, h => by
    unfold allGo
    rw [h d List.mem_cons_self, noErr_ok, bind_ok]
    show ((allGo f ds).bind fun c => .ok (p d && c)) = _
    rw [allGo_all fun c m => h c (List.mem_cons_of_mem _ m)]
    rfl
theorem ev_tgt_many {is : List Nat} (h1 : f env = .ok (.tup ds)) (h2 : ds.length = is.length) (h3 : setAll is ds env = e1) : sTgt (.many is) f env = .nxt e1 := by
  refine ev_tgt h1 (show parts (.many is) (.tup ds) = .ok ds from ?_) h3
  show (if ds.length = is.length then _ else _) = _
  rw [if_pos h2]
theorem ev_bindL {F : D → Res (List D)} (h1 : f env = .ok d) (h2 : F d = .ok ds) : ((f env).bind F) = .ok ds := by rw [h1]; exact h2
theorem lstRev_lst : D.lstRev (.lst ds) = .ok ds.reverse := id rfl
theorem dc_gen {tg : Tgt} {base : Sl} {κ : D → Str} {γ : D → D} : ∀ {ds : List D} {acc : List (Str × D)}, (∀ d ∈ ds, ∃ ps, parts tg d = .ok ps ∧ fk (setAll tg.slots ps base) = .ok (.str (κ d)) ∧ fv (setAll tg.slots ps base) = .ok (γ d)) → (acc.map (·.1) ++ ds.map κ).Nodup → dcGo tg fk fv base acc ds = .ok (acc ++ ds.map fun d => (κ d, γ d))
  | [], acc, _, _ => by rw [List.map_nil, List.append_nil]; rfl
  | d :: ds, acc, h, nd => by
    obtain ⟨ps, h1, h2, h3⟩ := h d List.mem_cons_self
    rw [dcGo_cons, h1, bind_ok, h2, noErr_ok, bind_ok, h3, noErr_ok, bind_ok]
    dsimp only
    have hl : acc.lookup (κ d) = none := by
      cases q : acc.lookup (κ d) with
      | none => rfl
      | some w =>
        have hm : κ d ∈ acc.map (·.1) := List.mem_map.mpr ⟨_, look_mem q, rfl⟩
        rw [List.nodup_append] at nd
        exact absurd rfl (nd.2.2 _ hm _ (List.mem_map.mpr ⟨d, List.mem_cons_self, rfl⟩))
    have hp : D.putN acc (κ d) (γ d) = .ok (acc ++ [(κ d, γ d)]) := by unfold D.putN; rw [hl]
    rw [hp, bind_ok, dc_gen (ds := ds) (acc := acc ++ [(κ d, γ d)]) (fun c m => h c (List.mem_cons_of_mem _ m)) (by simpa using nd)]
    simp
end
theorem gt_lenEq {l : List D} {is : List Nat} (h : l.length = is.length) : l.length = is.length := h
theorem ty_tn {ds : List D} : D.ty (.tn ds) = some "tuple" := id rfl
theorem len_tn {ds : List D} : D.len [.tn ds] = .ok (.int ds.length) := id rfl
theorem items_tn {ds : List D} : D.items (.tn ds) = .ok ds := id rfl
end Dx
open PySem Dx
local macro_rules | `(tactic| walk_at "evop") => `(tactic| with_reducible exact unl_lst)
local macro_rules | `(tactic| walk_at "evop") => `(tactic| with_reducible exact lstRev_lst)
local macro_rules | `(tactic| walk_at "evop") => `(tactic| with_reducible exact items_tn)
local macro_rules | `(tactic| walk_at "evop") => `(tactic| ((with_reducible apply gt_len); with_reducible exact len_tn))
local macro_rules | `(tactic| walk_at "evop") => `(tactic| ((with_reducible apply gt_isi); (with_reducible apply isi_of) <;> with_reducible first | exact ty_tn | exact ist_tt))
local macro_rules | `(tactic| walk_at "evop") => `(tactic| with_reducible assumption)
local macro_rules | `(tactic| walk_at "ev1") => `(tactic| ((with_reducible apply gt_lenEq); exact rfl))
local macro_rules | `(tactic| walk_at "ev1") => `(tactic| (with_reducible apply ev_bindL))
local macro_rules | `(tactic| walk_at "ev1") => `(tactic| (with_reducible apply ev_tgt_many))
local macro_rules | `(tactic| walk_at "ev1") => `(tactic| (with_reducible apply ev_allG))
local macro_rules | `(tactic| walk_at "ev1") => `(tactic| ((with_reducible apply ev_callV); focus exact rfl))
local macro_rules | `(tactic| walk_at "ev1") => `(tactic| (with_reducible apply ev_setLF))
local macro_rules | `(tactic| walk_at "ev1") => `(tactic| ((with_reducible apply ev_appT); focus exact rfl))
local macro_rules | `(tactic| walk_at "ev1") => `(tactic| (with_reducible apply ev_dc))
local macro_rules | `(tactic| walk_at "ev1") => `(tactic| (with_reducible apply ev_dict1))
local macro_rules | `(tactic| walk_at "ev1") => `(tactic| ((with_reducible apply ev_get2)))
namespace My
open PySem PySem.Spec PyProof.Rows L2 Dx
open Evl (Ex)
def topS (i : Nat) : Stmt := PySem.Challenge.pw_tillbasket_k05_the_table_by_steps.main.body.getD i (.Pass ⟨0, 0, 0, 0⟩)
def inC : Stmt → Nat → Stmt
  | .ClassDef _ _ _ b _ _ _ _ _ _ _, i => b.getD i (.Pass ⟨0, 0, 0, 0⟩)
  | _, _ => .Pass ⟨0, 0, 0, 0⟩
def gdv_HOLDS : List (Str × D) := [("more", .fn "more_holds"), ("set", .fn "set_holds"), ("share", .fn "share_holds"), ("slip", .fn "slip_holds")]
def gdv_PARTS : List (Str × D) := [("more", .int 4), ("set", .int 3), ("share", .int 3), ("slip", .int 4)]
abbrev s_p_is_name : Stmt := topS 3
abbrev s_p_is_pair : Stmt := topS 4
abbrev s_p_is_whole : Stmt := topS 2
abbrev s_p_need_kind : Stmt := topS 26
abbrev s_p_need_kinds : Stmt := topS 27
abbrev s_p_Shop_init : Stmt := inC (topS 28) 0
abbrev s_l_cell_at : Stmt := topS 53
abbrev s_l_number : Stmt := topS 54
abbrev s_l_basket : Stmt := topS 57
abbrev s_l_counts : Stmt := topS 64
abbrev s_l_deal : Stmt := topS 60
abbrev s_l_deals : Stmt := topS 61
abbrev s_l_has : Stmt := topS 67
abbrev s_l_name_by : Stmt := topS 55
abbrev s_l_kinds : Stmt := topS 56
abbrev s_l_many : Stmt := topS 65
abbrev s_l_offer : Stmt := topS 58
abbrev s_l_offers : Stmt := topS 59
abbrev s_l_step : Stmt := topS 66
abbrev s_l_whole : Stmt := topS 62
abbrev s_p_Shop_place : Stmt := inC (topS 28) 1
abbrev s_p_more_holds : Stmt := topS 34
abbrev s_p_are_pairs : Stmt := topS 32
abbrev s_p_names_in : Stmt := topS 33
abbrev s_p_set_holds : Stmt := topS 35
abbrev s_p_share_holds : Stmt := topS 36
abbrev s_p_slip_holds : Stmt := topS 37
abbrev s_p_holds : Stmt := topS 39
abbrev s_p_is_formed : Stmt := topS 31
abbrev s_p_need_offer : Stmt := topS 40
abbrev s_p_price_of : Stmt := topS 42
abbrev s_p_wanted_by : Stmt := topS 41
abbrev s_p_deal_of : Stmt := topS 43
abbrev s_p_plain_deal : Stmt := topS 44
abbrev s_p_deals : Stmt := topS 45
abbrev s_p_is_basket : Stmt := topS 18
abbrev s_p_within : Stmt := topS 20
abbrev s_p_need_basket : Stmt := topS 19
abbrev s_p_counts_of : Stmt := topS 22
abbrev s_p_has_pieces : Stmt := topS 47
abbrev s_p_number_of : Stmt := topS 21
abbrev s_p_usable_deals : Stmt := topS 48
abbrev s_p_reach : Stmt := topS 49
abbrev s_p_table : Stmt := topS 50
abbrev s_p_cost : Stmt := topS 51
abbrev s_p_law : Stmt := topS 68
def hd_p_is_name : He.DefD := ⟨("is_name", none), "is_name", "is_name", defArgs s_p_is_name, defBody s_p_is_name, defScope s_p_is_name, [], []⟩
def hd_p_is_pair : He.DefD := ⟨("is_pair", none), "is_pair", "is_pair", defArgs s_p_is_pair, defBody s_p_is_pair, defScope s_p_is_pair, [], []⟩
def hd_p_is_whole : He.DefD := ⟨("is_whole", none), "is_whole", "is_whole", defArgs s_p_is_whole, defBody s_p_is_whole, defScope s_p_is_whole, [], []⟩
def hd_p_need_kind : He.DefD := ⟨("need_kind", none), "need_kind", "need_kind", defArgs s_p_need_kind, defBody s_p_need_kind, defScope s_p_need_kind, [], []⟩
def hd_p_need_kinds : He.DefD := ⟨("need_kinds", none), "need_kinds", "need_kinds", defArgs s_p_need_kinds, defBody s_p_need_kinds, defScope s_p_need_kinds, [], []⟩
def hd_p_Shop_init : He.DefD := ⟨("Shop", some "__init__"), "__init__", "Shop.__init__", defArgs s_p_Shop_init, defBody s_p_Shop_init, defScope s_p_Shop_init, [], []⟩
def hd_l_cell_at : He.DefD := ⟨("_law_cell_at", none), "_law_cell_at", "_law_cell_at", defArgs s_l_cell_at, defBody s_l_cell_at, defScope s_l_cell_at, [], []⟩
def hd_l_number : He.DefD := ⟨("_law_number", none), "_law_number", "_law_number", defArgs s_l_number, defBody s_l_number, defScope s_l_number, [], []⟩
def hd_l_basket : He.DefD := ⟨("_law_basket", none), "_law_basket", "_law_basket", defArgs s_l_basket, defBody s_l_basket, defScope s_l_basket, [], []⟩
def hd_l_counts : He.DefD := ⟨("_law_counts", none), "_law_counts", "_law_counts", defArgs s_l_counts, defBody s_l_counts, defScope s_l_counts, [], []⟩
def hd_l_deal : He.DefD := ⟨("_law_deal", none), "_law_deal", "_law_deal", defArgs s_l_deal, defBody s_l_deal, defScope s_l_deal, [], []⟩
def hd_l_deals : He.DefD := ⟨("_law_deals", none), "_law_deals", "_law_deals", defArgs s_l_deals, defBody s_l_deals, defScope s_l_deals, [], []⟩
def hd_l_has : He.DefD := ⟨("_law_has", none), "_law_has", "_law_has", defArgs s_l_has, defBody s_l_has, defScope s_l_has, [], []⟩
def hd_l_name_by : He.DefD := ⟨("_law_name_by", none), "_law_name_by", "_law_name_by", defArgs s_l_name_by, defBody s_l_name_by, defScope s_l_name_by, [], []⟩
def hd_l_kinds : He.DefD := ⟨("_law_kinds", none), "_law_kinds", "_law_kinds", defArgs s_l_kinds, defBody s_l_kinds, defScope s_l_kinds, [], []⟩
def hd_l_many : He.DefD := ⟨("_law_many", none), "_law_many", "_law_many", defArgs s_l_many, defBody s_l_many, defScope s_l_many, [], []⟩
def hd_l_offer : He.DefD := ⟨("_law_offer", none), "_law_offer", "_law_offer", defArgs s_l_offer, defBody s_l_offer, defScope s_l_offer, [], []⟩
def hd_l_offers : He.DefD := ⟨("_law_offers", none), "_law_offers", "_law_offers", defArgs s_l_offers, defBody s_l_offers, defScope s_l_offers, [], []⟩
def hd_l_step : He.DefD := ⟨("_law_step", none), "_law_step", "_law_step", defArgs s_l_step, defBody s_l_step, defScope s_l_step, [], []⟩
def hd_l_whole : He.DefD := ⟨("_law_whole", none), "_law_whole", "_law_whole", defArgs s_l_whole, defBody s_l_whole, defScope s_l_whole, [], []⟩
def hd_p_Shop_place : He.DefD := ⟨("Shop", some "place"), "place", "Shop.place", defArgs s_p_Shop_place, defBody s_p_Shop_place, defScope s_p_Shop_place, [], []⟩
def hd_p_more_holds : He.DefD := ⟨("more_holds", none), "more_holds", "more_holds", defArgs s_p_more_holds, defBody s_p_more_holds, defScope s_p_more_holds, [], []⟩
def hd_p_are_pairs : He.DefD := ⟨("are_pairs", none), "are_pairs", "are_pairs", defArgs s_p_are_pairs, defBody s_p_are_pairs, defScope s_p_are_pairs, [], []⟩
def hd_p_names_in : He.DefD := ⟨("names_in", none), "names_in", "names_in", defArgs s_p_names_in, defBody s_p_names_in, defScope s_p_names_in, [], []⟩
def hd_p_set_holds : He.DefD := ⟨("set_holds", none), "set_holds", "set_holds", defArgs s_p_set_holds, defBody s_p_set_holds, defScope s_p_set_holds, [], []⟩
def hd_p_share_holds : He.DefD := ⟨("share_holds", none), "share_holds", "share_holds", defArgs s_p_share_holds, defBody s_p_share_holds, defScope s_p_share_holds, [], []⟩
def hd_p_slip_holds : He.DefD := ⟨("slip_holds", none), "slip_holds", "slip_holds", defArgs s_p_slip_holds, defBody s_p_slip_holds, defScope s_p_slip_holds, [], []⟩
def hd_p_holds : He.DefD := ⟨("holds", none), "holds", "holds", defArgs s_p_holds, defBody s_p_holds, defScope s_p_holds, [], []⟩
def hd_p_is_formed : He.DefD := ⟨("is_formed", none), "is_formed", "is_formed", defArgs s_p_is_formed, defBody s_p_is_formed, defScope s_p_is_formed, [], []⟩
def hd_p_need_offer : He.DefD := ⟨("need_offer", none), "need_offer", "need_offer", defArgs s_p_need_offer, defBody s_p_need_offer, defScope s_p_need_offer, [], []⟩
def hd_p_price_of : He.DefD := ⟨("price_of", none), "price_of", "price_of", defArgs s_p_price_of, defBody s_p_price_of, defScope s_p_price_of, [], []⟩
def hd_p_wanted_by : He.DefD := ⟨("wanted_by", none), "wanted_by", "wanted_by", defArgs s_p_wanted_by, defBody s_p_wanted_by, defScope s_p_wanted_by, [], []⟩
def hd_p_deal_of : He.DefD := ⟨("deal_of", none), "deal_of", "deal_of", defArgs s_p_deal_of, defBody s_p_deal_of, defScope s_p_deal_of, [], []⟩
def hd_p_plain_deal : He.DefD := ⟨("plain_deal", none), "plain_deal", "plain_deal", defArgs s_p_plain_deal, defBody s_p_plain_deal, defScope s_p_plain_deal, [], []⟩
def hd_p_deals : He.DefD := ⟨("deals", none), "deals", "deals", defArgs s_p_deals, defBody s_p_deals, defScope s_p_deals, [], []⟩
def hd_p_is_basket : He.DefD := ⟨("is_basket", none), "is_basket", "is_basket", defArgs s_p_is_basket, defBody s_p_is_basket, defScope s_p_is_basket, [], []⟩
def hd_p_within : He.DefD := ⟨("within", none), "within", "within", defArgs s_p_within, defBody s_p_within, defScope s_p_within, [], []⟩
def hd_p_need_basket : He.DefD := ⟨("need_basket", none), "need_basket", "need_basket", defArgs s_p_need_basket, defBody s_p_need_basket, defScope s_p_need_basket, [], []⟩
def hd_p_counts_of : He.DefD := ⟨("counts_of", none), "counts_of", "counts_of", defArgs s_p_counts_of, defBody s_p_counts_of, defScope s_p_counts_of, [], []⟩
def hd_p_has_pieces : He.DefD := ⟨("has_pieces", none), "has_pieces", "has_pieces", defArgs s_p_has_pieces, defBody s_p_has_pieces, defScope s_p_has_pieces, [], []⟩
def hd_p_number_of : He.DefD := ⟨("number_of", none), "number_of", "number_of", defArgs s_p_number_of, defBody s_p_number_of, defScope s_p_number_of, [], []⟩
def hd_p_usable_deals : He.DefD := ⟨("usable_deals", none), "usable_deals", "usable_deals", defArgs s_p_usable_deals, defBody s_p_usable_deals, defScope s_p_usable_deals, [], []⟩
def hd_p_reach : He.DefD := ⟨("reach", none), "reach", "reach", defArgs s_p_reach, defBody s_p_reach, defScope s_p_reach, [], []⟩
def hd_p_table : He.DefD := ⟨("table", none), "table", "table", defArgs s_p_table, defBody s_p_table, defScope s_p_table, [], []⟩
def hd_p_cost : He.DefD := ⟨("cost", none), "cost", "cost", defArgs s_p_cost, defBody s_p_cost, defScope s_p_cost, [], []⟩
def hd_p_law : He.DefD := ⟨("law", none), "law", "law", defArgs s_p_law, defBody s_p_law, defScope s_p_law, [], []⟩
def hdFn : List He.DefD := [hd_p_is_name, hd_p_is_pair, hd_p_is_whole, hd_p_need_kind, hd_p_need_kinds, hd_p_Shop_init, hd_l_cell_at, hd_l_number, hd_l_basket, hd_l_counts, hd_l_deal, hd_l_deals, hd_l_has, hd_l_name_by, hd_l_kinds, hd_l_many, hd_l_offer, hd_l_offers, hd_l_step, hd_l_whole, hd_p_Shop_place, hd_p_more_holds, hd_p_are_pairs, hd_p_names_in, hd_p_set_holds, hd_p_share_holds, hd_p_slip_holds, hd_p_holds, hd_p_is_formed, hd_p_need_offer, hd_p_price_of, hd_p_wanted_by, hd_p_deal_of, hd_p_plain_deal, hd_p_deals, hd_p_is_basket, hd_p_within, hd_p_need_basket, hd_p_counts_of, hd_p_has_pieces, hd_p_number_of, hd_p_usable_deals, hd_p_reach, hd_p_table, hd_p_cost, hd_p_law]
def hdTs : List He.Tab := [(fun K => He.ga K "HOLDS", ["more", "set", "share", "slip"]), (fun K => He.ga K "PARTS", ["more", "set", "share", "slip"])]
def hdFa : List He.Fa := [.free "all", .free "bool", .free "dict", .free "enumerate", .free "int", .free "isinstance", .free "len", .free "list", .free "max", .free "min", .free "range", .free "reversed", .free "set", .free "str", .free "tuple", .free "zip", .int "HIGHEST_PRICE" 100000, .int "LONGEST_NAME" 8, .int "MOST" 300, .int "MOST_KINDS" 5, .int "MOST_PIECES" 9, .glo "BadBasket", .exc "BadBasket", .glo "BadKinds", .exc "BadKinds", .glo "BadName", .exc "BadName", .glo "BadOffer", .exc "BadOffer", .glo "BadPrice", .exc "BadPrice", .glo "NoKind", .exc "NoKind", .glo "TooMany", .exc "TooMany", .glo "Twice", .exc "Twice", .glo "more_holds", .glo "set_holds", .glo "share_holds", .glo "slip_holds", .cls "Shop", .glo "HOLDS", .glo "PARTS", .noat "Shop" "names", .noat "Shop" "prices", .glo "is_name", .glo "is_pair", .glo "is_whole", .glo "need_kind", .glo "need_kinds", .glo "Shop", .mkr "Shop", .glo "_law_cell_at", .glo "_law_number", .glo "_law_basket", .glo "_law_counts", .glo "_law_deal", .glo "_law_deals", .glo "_law_has", .glo "_law_name_by", .glo "_law_kinds", .glo "_law_many", .glo "_law_offer", .glo "_law_offers", .glo "_law_step", .glo "_law_whole", .meth "Shop" "place", .glo "are_pairs", .glo "names_in", .glo "holds", .glo "is_formed", .glo "need_offer", .glo "price_of", .glo "wanted_by", .glo "deal_of", .glo "plain_deal", .glo "deals", .glo "is_basket", .glo "within", .glo "need_basket", .glo "counts_of", .glo "has_pieces", .glo "number_of", .glo "usable_deals", .glo "reach", .glo "table", .glo "cost", .glo "law"]
def hdTf : List He.Defn := [("is_name", none), ("are_pairs", none), ("set_holds", none), ("is_basket", none)]
def exB (K : PySem.W.Frag) : Bool := exI K "Shop" && (exG K "HOLDS" gdv_HOLDS && (exG K "PARTS" gdv_PARTS))
theorem and1 {a b : Bool} (h : (a && b) = true) : a = true := by cases a <;> first | rfl | exact h
theorem and2 {a b : Bool} (h : (a && b) = true) : b = true := by cases a <;> first | exact h | cases h
abbrev hdR : PySem.W.OpenRow := PySem.W.OpenLaw.row PySem.Challenge.rw_tillbasket_k05_the_table_by_steps
abbrev hdHk : PySem.W.Hook := He.hookX 8 hdFa hdFn hdTs hdTf exB
def hdOb (s : PySem.W.SharedT) : He.AlX := He.obsX 8 hdFa hdFn hdTs hdTf exB (HandSHeadRun.getT s)
theorem hdOb_eq (s : PySem.W.SharedT) : hdOb s = hdHk.obs s.abs := He.obsX_eq (HandSHeadRun.getT_eq s)
def hdL0 : List Str := ["is_whole", "is_name", "is_pair", "TillError", "BadKinds", "BadName", "Twice", "BadPrice", "BadBasket", "TooMany", "BadOffer", "NoKind", "is_basket", "need_basket", "within", "number_of", "counts_of", "need_kind", "need_kinds", "Shop", "is_formed", "are_pairs", "names_in", "more_holds", "set_holds", "share_holds", "slip_holds", "holds", "need_offer", "wanted_by"]
def hdL1 : List Str := ["price_of", "deal_of", "plain_deal", "deals", "has_pieces", "usable_deals", "reach", "table", "cost", "_law_cell_at", "_law_number", "_law_name_by", "_law_kinds", "_law_basket", "_law_offer", "_law_offers", "_law_deal", "_law_deals", "_law_whole", "_law_listed", "_law_counts", "_law_many", "_law_step", "_law_has", "LONGEST_NAME", "MOST", "MOST_PIECES", "MOST_KINDS", "HIGHEST_PRICE", "PARTS"]
def hdL2 : List Str := ["HOLDS"]
def hdLoose : List Str := hdL0 ++ hdL1 ++ hdL2
set_option maxHeartbeats 0 in
theorem hdRun_false (w : World) : HandSHeadRun.RunEq hdR (PySem.W.view hdR.prog [68]) hdHk hdOb 12000 hdLoose (w.withFollow "special-get-raises" false) := by
  intro os
  kernel_rfl
set_option maxHeartbeats 0 in
theorem hdRun_true (w : World) : HandSHeadRun.RunEq hdR (PySem.W.view hdR.prog [68]) hdHk hdOb 12000 hdLoose (w.withFollow "special-get-raises" true) := by
  intro os
  kernel_rfl
theorem hdRun (w : World) : HandSHeadRun.RunEq hdR (PySem.W.view hdR.prog [68]) hdHk hdOb 12000 hdLoose w := PySem.W.byRow2 "special-get-raises" (P := fun w => HandSHeadRun.RunEq hdR (PySem.W.view hdR.prog [68]) hdHk hdOb 12000 hdLoose w) hdRun_false hdRun_true w
end My
set_option Elab.async false
set_option linter.all false
set_option maxRecDepth 100000
set_option maxHeartbeats 4000000
namespace My
open PySem PySem.Spec PyProof.Rows L2 Dx
structure Fx (P : Program) (w : World) (K : PySem.W.Frag) (mg : Str → Option Value) (base : Heap) (tb : List Addr) : Prop where
  z_all : mg "all" = none
  z_bool : mg "bool" = none
  z_dict : mg "dict" = none
  z_enumerate : mg "enumerate" = none
  z_int : mg "int" = none
  z_isinstance : mg "isinstance" = none
  z_len : mg "len" = none
  z_list : mg "list" = none
  z_max : mg "max" = none
  z_min : mg "min" = none
  z_range : mg "range" = none
  z_reversed : mg "reversed" = none
  z_set : mg "set" = none
  z_str : mg "str" = none
  z_tuple : mg "tuple" = none
  z_zip : mg "zip" = none
  g_HIGHEST_PRICE : ∃ t, mg "HIGHEST_PRICE" = some (Value.int 100000 t)
  g_LONGEST_NAME : ∃ t, mg "LONGEST_NAME" = some (Value.int 8 t)
  g_MOST : ∃ t, mg "MOST" = some (Value.int 300 t)
  g_MOST_KINDS : ∃ t, mg "MOST_KINDS" = some (Value.int 5 t)
  g_MOST_PIECES : ∃ t, mg "MOST_PIECES" = some (Value.int 9 t)
  gd_HOLDS : GDict K w mg "HOLDS" gdv_HOLDS
  gd_PARTS : GDict K w mg "PARTS" gdv_PARTS
  xd_BadBasket : ExcD K mg "BadBasket"
  xd_BadKinds : ExcD K mg "BadKinds"
  xd_BadName : ExcD K mg "BadName"
  xd_BadOffer : ExcD K mg "BadOffer"
  xd_BadPrice : ExcD K mg "BadPrice"
  xd_NoKind : ExcD K mg "NoKind"
  xd_TooMany : ExcD K mg "TooMany"
  xd_Twice : ExcD K mg "Twice"
  gx_more_holds : mg "more_holds" = some (.ref (He.ga K "more_holds"))
  gx_set_holds : mg "set_holds" = some (.ref (He.ga K "set_holds"))
  gx_share_holds : mg "share_holds" = some (.ref (He.ga K "share_holds"))
  gx_slip_holds : mg "slip_holds" = some (.ref (He.ga K "slip_holds"))
  ci_Shop : ClsIs K "Shop"
  na_Shop_names : NoAttr K (He.ga K "Shop") "names"
  na_Shop_prices : NoAttr K (He.ga K "Shop") "prices"
section
variable {P : Program} {w : World} {K : PySem.W.Frag} {mg : Str → Option Value} {base : Heap} {tb : List Addr}
def n_p_is_name : List Str := ["value", "sign"]
theorem sc_p_is_name : FnScope n_p_is_name ["value"] (defScope s_p_is_name) := ⟨rfl, rfl, rfl, by decide +kernel, rfl, by decide +kernel, by decide +kernel⟩
def f_p_is_name : Sl → Out :=
  sSeq (sIf (eOrB (eNotB (eTruth (eCall (eCons (eVar 0) (eCons (eC (.raw (.ty "str"))) (eNil))) D.isi))) (eNotB (eTest (eChain D.le D.le (eC (.int 1)) (eCall (eCons (eVar 0) (eNil)) D.len) (eC (.int 8))))))
  (sRet (eC (.bl false)))
  (sNext))
  (sRet (eAllS (fun c => !decide ([c] < ("a" : Str).cps.toList) && !decide (("z" : Str).cps.toList < [c])) (eVar 0)))
def F_p_is_name : List D → Res D := fnSem 2 f_p_is_name
theorem ok_p_is_name (T : Fx P w K mg base tb) {f : Addr} {fd : FuncData} (F : FunD K "is_name" "is_name" (defArgs s_p_is_name) (defBody s_p_is_name) (defScope s_p_is_name) [] [] f fd) (HT : HasTab base mg tb fd.code)  : FnOk P w K mg base (L2.CX P w) 1 f fd ["value"] (SpF K mg tb 1 false F_p_is_name) :=
  fn_ok (N := n_p_is_name) F sc_p_is_name (O' := []) fun cdv hcd A outer s H E hr nd tk hp =>
    dss_cons (ds_if (dt_bool (dw_or (dt_not (dt_truth (de_isi T.z_isinstance (da_cons (de_var 0) (da_cons (de_ty T.z_str) (da_nil)))))) (dw_or1 (dt_not (dt_chain opr_le opr_le op2_le op2_le (de_int) (de_len T.z_len (da_cons (de_var 0) (da_nil))) (de_glob (v := .int 8) T.g_LONGEST_NAME.choose_spec ⟨_, rfl⟩ (fun _ => .int 8)))))))
      (dss_one (ds_ret (de_bl)))
      (dss_nil))
      (dss_one (ds_ret (de_allS (hcd ▸ HT) hr T.z_all (de_var 0) (genS_of rfl rfl (by decide +kernel) rfl rfl) (elt_le2 rfl rfl))))
def n_p_is_pair : List Str := ["value"]
theorem sc_p_is_pair : FnScope n_p_is_pair ["value"] (defScope s_p_is_pair) := ⟨rfl, rfl, rfl, by decide +kernel, rfl, by decide +kernel, by decide +kernel⟩
def f_p_is_pair : Sl → Out :=
  sRet (eAndV (eCall (eCons (eVar 0) (eCons (eC (.raw (.ty "tuple"))) (eNil))) D.isi) (eBin D.eq (eCall (eCons (eVar 0) (eNil)) D.len) (eC (.int 2))))
def F_p_is_pair : List D → Res D := fnSem 1 f_p_is_pair
theorem ok_p_is_pair (T : Fx P w K mg base tb) {f : Addr} {fd : FuncData} (F : FunD K "is_pair" "is_pair" (defArgs s_p_is_pair) (defBody s_p_is_pair) (defScope s_p_is_pair) [] [] f fd)  : FnOk P w K mg base (L2.CX P w) 1 f fd ["value"] (SpF K mg tb 1 false F_p_is_pair) :=
  fn_ok (N := n_p_is_pair) F sc_p_is_pair (O' := []) fun cdv hcd A outer s H E hr nd tk hp =>
    dss_one (ds_ret (de_and (de_isi T.z_isinstance (da_cons (de_var 0) (da_cons (de_ty T.z_tuple) (da_nil)))) (de_one (de_eq hr (de_len T.z_len (da_cons (de_var 0) (da_nil))) (de_int)))))
def n_p_is_whole : List Str := ["value", "least", "most"]
theorem sc_p_is_whole : FnScope n_p_is_whole ["value", "least", "most"] (defScope s_p_is_whole) := ⟨rfl, rfl, rfl, by decide +kernel, rfl, by decide +kernel, by decide +kernel⟩
def f_p_is_whole : Sl → Out :=
  sSeq (sIf (eOrB (eNotB (eTruth (eCall (eCons (eVar 0) (eCons (eC (.raw (.ty "int"))) (eNil))) D.isi))) (eTruth (eCall (eCons (eVar 0) (eCons (eC (.raw (.ty "bool"))) (eNil))) D.isi)))
  (sRet (eC (.bl false)))
  (sNext))
  (sRet (eChain D.le D.le (eVar 1) (eVar 0) (eVar 2)))
def F_p_is_whole : List D → Res D := fnSem 3 f_p_is_whole
theorem ok_p_is_whole (T : Fx P w K mg base tb) {f : Addr} {fd : FuncData} (F : FunD K "is_whole" "is_whole" (defArgs s_p_is_whole) (defBody s_p_is_whole) (defScope s_p_is_whole) [] [] f fd)  : FnOk P w K mg base (L2.CX P w) 1 f fd ["value", "least", "most"] (SpF K mg tb 3 false F_p_is_whole) :=
  fn_ok (N := n_p_is_whole) F sc_p_is_whole (O' := []) fun cdv hcd A outer s H E hr nd tk hp =>
    dss_cons (ds_if (dt_bool (dw_or (dt_not (dt_truth (de_isi T.z_isinstance (da_cons (de_var 0) (da_cons (de_ty T.z_int) (da_nil)))))) (dw_or1 (dt_truth (de_isi T.z_isinstance (da_cons (de_var 0) (da_cons (de_ty T.z_bool) (da_nil))))))))
      (dss_one (ds_ret (de_bl)))
      (dss_nil))
      (dss_one (ds_ret (de_chain opr_le opr_le op2_le op2_le (de_var 1) (de_var 0) (de_var 2))))
def n_p_need_kind : List Str := ["kind", "names_ahead"]
theorem sc_p_need_kind : FnScope n_p_need_kind ["kind", "names_ahead"] (defScope s_p_need_kind) := ⟨rfl, rfl, rfl, by decide +kernel, rfl, by decide +kernel, by decide +kernel⟩
def f_p_need_kind : Sl → Out :=
  sSeq (sIf (eOrB (eNotB (eTruth (eCall (eCons (eVar 0) (eNil)) F_p_is_pair))) (eNotB (eTruth (eCall (eCons (eBin D.ix (eVar 0) (eC (.int 0))) (eNil)) F_p_is_name))))
  (sRaise "BadName")
  (sNext))
  (sSeq (sIf (eTest (eBin D.inn (eBin D.ix (eVar 0) (eC (.int 0))) (eVar 1)))
  (sRaise "Twice")
  (sNext))
  (sIf (eNotB (eTruth (eCall (eCons (eBin D.ix (eVar 0) (eC (.int 1))) (eCons (eC (.int 0)) (eCons (eC (.int 100000)) (eNil)))) F_p_is_whole)))
  (sRaise "BadPrice")
  (sNext)))
def F_p_need_kind : List D → Res D := fnSem 2 f_p_need_kind
theorem ok_p_need_kind (T : Fx P w K mg base tb) {f : Addr} {fd : FuncData} (F : FunD K "need_kind" "need_kind" (defArgs s_p_need_kind) (defBody s_p_need_kind) (defScope s_p_need_kind) [] [] f fd) (c_p_is_name : Callee P w K mg base tb "is_name" 1 1 false F_p_is_name) (c_p_is_pair : Callee P w K mg base tb "is_pair" 1 1 false F_p_is_pair) (c_p_is_whole : Callee P w K mg base tb "is_whole" 1 3 false F_p_is_whole) : FnOk P w K mg base (L2.CX P w) 2 f fd ["kind", "names_ahead"] (SpF K mg tb 2 false F_p_need_kind) :=
  fn_ok (N := n_p_need_kind) F sc_p_need_kind (O' := []) fun cdv hcd A outer s H E hr nd tk hp =>
    dss_cons (ds_if (dt_bool (dw_or (dt_not (dt_truth (de_call c_p_is_pair hr tk (da_cons (de_var 0) (da_nil))))) (dw_or1 (dt_not (dt_truth (de_call c_p_is_name hr tk (da_cons (de_ix (de_var 0) (de_int)) (da_nil))))))))
      (dss_one (ds_raise T.xd_BadName rfl tk))
      (dss_nil))
      (dss_cons (ds_if (dt_in (de_ix (de_var 0) (de_int)) (de_var 1))
      (dss_one (ds_raise T.xd_Twice rfl tk))
      (dss_nil))
      (dss_one (ds_if (dt_not (dt_truth (de_call c_p_is_whole hr tk (da_cons (de_ix (de_var 0) (de_int)) (da_cons (de_int) (da_cons (de_glob (v := .int 100000) T.g_HIGHEST_PRICE.choose_spec ⟨_, rfl⟩ (fun _ => .int 100000)) (da_nil)))))))
      (dss_one (ds_raise T.xd_BadPrice rfl tk))
      (dss_nil))))
def n_p_need_kinds : List Str := ["kinds", "names_ahead", "kind"]
theorem sc_p_need_kinds : FnScope n_p_need_kinds ["kinds"] (defScope s_p_need_kinds) := ⟨rfl, rfl, rfl, by decide +kernel, rfl, by decide +kernel, by decide +kernel⟩
def b_p_need_kinds_1 : Sl → Out :=
  sSeq (sDrop (eCall (eCons (eVar 2) (eCons (eVar 1) (eNil))) F_p_need_kind))
  (sApp 1 (eBin D.ix (eVar 2) (eC (.int 0))))
def f_p_need_kinds : Sl → Out :=
  sSeq (sIf (eOrB (eNotB (eTruth (eCall (eCons (eVar 0) (eCons (eC (.raw (.ty "list"))) (eNil))) D.isi))) (eNotB (eTest (eChain D.le D.le (eC (.int 1)) (eCall (eCons (eVar 0) (eNil)) D.len) (eC (.int 5))))))
  (sRaise "BadKinds")
  (sNext))
  (sSeq (sOwn 1 (eNil))
  (sFor (eItems (eVar 0)) (.one 2)
  (b_p_need_kinds_1)))
def F_p_need_kinds : List D → Res D := fnSem 3 f_p_need_kinds
theorem ok_p_need_kinds (T : Fx P w K mg base tb) {f : Addr} {fd : FuncData} (F : FunD K "need_kinds" "need_kinds" (defArgs s_p_need_kinds) (defBody s_p_need_kinds) (defScope s_p_need_kinds) [] [] f fd) (c_p_need_kind : Callee P w K mg base tb "need_kind" 2 2 false F_p_need_kind) : FnOk P w K mg base (L2.CX P w) 3 f fd ["kinds"] (SpF K mg tb 1 false F_p_need_kinds) :=
  fn_ok (N := n_p_need_kinds) F sc_p_need_kinds (O' := [1]) fun cdv hcd A outer s H E hr nd tk hp =>
    dss_cons (ds_if (dt_bool (dw_or (dt_not (dt_truth (de_isi T.z_isinstance (da_cons (de_var 0) (da_cons (de_ty T.z_list) (da_nil)))))) (dw_or1 (dt_not (dt_chain opr_le opr_le op2_le op2_le (de_int) (de_len T.z_len (da_cons (de_var 0) (da_nil))) (de_glob (v := .int 5) T.g_MOST_KINDS.choose_spec ⟨_, rfl⟩ (fun _ => .int 5)))))))
      (dss_one (ds_raise T.xd_BadKinds rfl tk))
      (dss_nil))
      (dss_cons (ds_own (i := 1) (by decide) (by decide) nd (dl_lst (da_nil)))
      (dss_one (ds_for (.one 2) (by decide) (by decide) hp rfl (di_any (de_var 0)) (pg_one 2 nd)
      (dss_cons (ds_drop (de_call c_p_need_kind hr tk (da_cons (de_var 2) (da_cons (de_var 1) (da_nil)))))
      (dss_one (ds_app (i := 1) (by decide) (by decide) (de_ix (de_var 2) (de_int))))))))
def n_p_Shop_init : List Str := ["self", "kinds", "kind"]
theorem sc_p_Shop_init : FnScope n_p_Shop_init ["self", "kinds"] (defScope s_p_Shop_init) := ⟨rfl, rfl, rfl, by decide +kernel, rfl, by decide +kernel, by decide +kernel⟩
def g_p_Shop_init_1 : EE :=
  eBin D.ix (eVar 2) (eC (.int 0))
def g_p_Shop_init_2 : EE :=
  eBin D.ix (eVar 2) (eC (.int 1))
def F0_p_Shop_init (a : Addr) (ds : List D) : Res (List (Str × D)) := initTwo 3 "names" "prices" (sDrop (eCall (eCons (eVar 1) (eNil)) F_p_need_kinds)) (eLc (eItems (eVar 1)) (.one 2) [2] (eYes) (g_p_Shop_init_1)) (eLc (eItems (eVar 1)) (.one 2) [2] (eYes) (g_p_Shop_init_2)) a ds
def F_p_Shop_init (ds : List D) : Res (List (Str × D)) := F0_p_Shop_init 0 ds
theorem ok_p_Shop_init (T : Fx P w K mg base tb) {f : Addr} {fd : FuncData} (F : FunD K "__init__" "Shop.__init__" (defArgs s_p_Shop_init) (defBody s_p_Shop_init) (defScope s_p_Shop_init) [] [] f fd) (hF : ∀ a ds, F0_p_Shop_init a ds = F_p_Shop_init ds) (c_p_need_kinds : Callee P w K mg base tb "need_kinds" 3 1 false F_p_need_kinds) : FnOk P w K mg base (L2.CX P w) 4 f fd ["self", "kinds"] (SpI K mg tb 1 "Shop" F_p_Shop_init) :=
  fn_okI (self := "self") (N := n_p_Shop_init) F rfl sc_p_Shop_init rfl rfl (.inl rfl) (by decide) (by decide) T.ci_Shop.cl T.na_Shop_names T.na_Shop_prices (fun _ => rfl) (fun _ _ => rfl) hF fun cdv hcd A outer s H E hr nd tk =>
    ⟨ds_drop (de_call c_p_need_kinds hr tk (da_cons (de_var 1) (da_nil))),
    dl_lcE (.one 2) rfl nd (di_any (de_var 1)) (blkOk_by (N := n_p_Shop_init) (sc := defScope s_p_Shop_init) (own := [("kind", 2)]) (by decide +kernel)) (by decide) (fun _ _ _ _ _ => (pg_one 2 nd)) (fun _ _ _ _ _ => bt_nil) (fun _ _ _ _ _ => de_ix (de_var 2) (de_int)),
    dl_lcE (.one 2) rfl nd (di_any (de_var 1)) (blkOk_by (N := n_p_Shop_init) (sc := defScope s_p_Shop_init) (own := [("kind", 2)]) (by decide +kernel)) (by decide) (fun _ _ _ _ _ => (pg_one 2 nd)) (fun _ _ _ _ _ => bt_nil) (fun _ _ _ _ _ => de_ix (de_var 2) (de_int)), rfl, rfl⟩
def n_l_cell_at : List Str := ["_law_script", "_law_k"]
theorem sc_l_cell_at : FnScope n_l_cell_at ["_law_script", "_law_k"] (defScope s_l_cell_at) := ⟨rfl, rfl, rfl, by decide +kernel, rfl, by decide +kernel, by decide +kernel⟩
def f_l_cell_at : Sl → Out :=
  sSeq (sIf (eTest (eBin D.lt (eVar 1) (eCall (eCons (eVar 0) (eNil)) D.len)))
  (sRet (eBin D.ix (eVar 0) (eVar 1)))
  (sNext))
  (sRet (eC (.int 0)))
def F_l_cell_at : List D → Res D := fnSem 2 f_l_cell_at
theorem ok_l_cell_at (T : Fx P w K mg base tb) {f : Addr} {fd : FuncData} (F : FunD K "_law_cell_at" "_law_cell_at" (defArgs s_l_cell_at) (defBody s_l_cell_at) (defScope s_l_cell_at) [] [] f fd)  : FnOk P w K mg base (L2.CX P w) 1 f fd ["_law_script", "_law_k"] (SpF K mg tb 2 false F_l_cell_at) :=
  fn_ok (N := n_l_cell_at) F sc_l_cell_at (O' := []) fun cdv hcd A outer s H E hr nd tk hp =>
    dss_cons (ds_if (dt_lt (de_var 1) (de_len T.z_len (da_cons (de_var 0) (da_nil))))
      (dss_one (ds_ret (de_ix (de_var 0) (de_var 1))))
      (dss_nil))
      (dss_one (ds_ret (de_int)))
def n_l_number : List Str := ["_law_script", "_law_k", "_law_base"]
theorem sc_l_number : FnScope n_l_number ["_law_script", "_law_k"] (defScope s_l_number) := ⟨rfl, rfl, rfl, by decide +kernel, rfl, by decide +kernel, by decide +kernel⟩
def f_l_number : Sl → Out :=
  sSeq (sIf (eTest (eBin D.eq (eCall (eCons (eVar 0) (eNil)) D.len) (eC (.int 0))))
  (sRet (eBin D.mul (eC (.int 5003)) (eVar 1)))
  (sNext))
  (sSeq (sSet 2 (eBin D.add (eBin D.add (eBin D.ix (eVar 0) (eBin D.mod (eVar 1) (eCall (eCons (eVar 0) (eNil)) D.len))) (eBin D.mul (eC (.int 7919)) (eBin D.fdiv (eVar 1) (eCall (eCons (eVar 0) (eNil)) D.len)))) (eBin D.mul (eC (.int 101)) (eVar 1))))
  (sRet (eBin D.mod (eBin D.mul (eVar 2) (eC (.int 48271))) (eC (.int 2147483647)))))
def F_l_number : List D → Res D := fnSem 3 f_l_number
theorem ok_l_number (T : Fx P w K mg base tb) {f : Addr} {fd : FuncData} (F : FunD K "_law_number" "_law_number" (defArgs s_l_number) (defBody s_l_number) (defScope s_l_number) [] [] f fd)  : FnOk P w K mg base (L2.CX P w) 1 f fd ["_law_script", "_law_k"] (SpF K mg tb 2 false F_l_number) :=
  fn_ok (N := n_l_number) F sc_l_number (O' := []) fun cdv hcd A outer s H E hr nd tk hp =>
    dss_cons (ds_if (dt_eq hr (de_len T.z_len (da_cons (de_var 0) (da_nil))) (de_int))
      (dss_one (ds_ret (de_mul (de_int) (de_var 1))))
      (dss_nil))
      (dss_cons (ds_set (i := 2) (by decide) (by decide) nd (de_add (de_add (de_ix (de_var 0) (de_mod (de_var 1) (de_len T.z_len (da_cons (de_var 0) (da_nil))))) (de_mul (de_int) (de_fdiv (de_var 1) (de_len T.z_len (da_cons (de_var 0) (da_nil)))))) (de_mul (de_int) (de_var 1))))
      (dss_one (ds_ret (de_mod (de_mul (de_var 2) (de_int)) (de_int)))))
def n_l_basket : List Str := ["_law_script", "_law_kinds_here", "_law_start", "_law_room", "_law_basket_here", "_law_k", "_law_count"]
theorem sc_l_basket : FnScope n_l_basket ["_law_script", "_law_kinds_here", "_law_start"] (defScope s_l_basket) := ⟨rfl, rfl, rfl, by decide +kernel, rfl, by decide +kernel, by decide +kernel⟩
def b_l_basket_1 : Sl → Out :=
  sSeq (sSet 6 (eBin D.mod (eBin D.fdiv (eCall (eCons (eVar 0) (eCons (eBin D.add (eVar 2) (eVar 5)) (eNil))) F_l_number) (eC (.int 5))) (eCall (eCons (eC (.int 10)) (eCons (eVar 3) (eNil))) D.min2)))
  (sSeq (sApp 4 (eVar 6))
  (sSet 3 (eBin D.fdiv (eVar 3) (eBin D.add (eVar 6) (eC (.int 1))))))
def f_l_basket : Sl → Out :=
  sSeq (sSet 3 (eC (.int 24)))
  (sSeq (sIf (eTest (eBin D.eq (eBin D.mod (eCall (eCons (eVar 0) (eCons (eC (.int 1)) (eNil))) F_l_cell_at) (eC (.int 64))) (eC (.int 1))))
  (sSet 3 (eC (.int 300)))
  (sNext))
  (sSeq (sOwn 4 (eNil))
  (sSeq (sFor (eCallL (eCons (eCall (eCons (eVar 1) (eNil)) D.len) (eNil)) D.rng1) (.one 5)
  (b_l_basket_1))
  (sRet (eVar 4)))))
def F_l_basket : List D → Res D := fnSem 7 f_l_basket
theorem ok_l_basket (T : Fx P w K mg base tb) {f : Addr} {fd : FuncData} (F : FunD K "_law_basket" "_law_basket" (defArgs s_l_basket) (defBody s_l_basket) (defScope s_l_basket) [] [] f fd) (c_l_cell_at : Callee P w K mg base tb "_law_cell_at" 1 2 false F_l_cell_at) (c_l_number : Callee P w K mg base tb "_law_number" 1 2 false F_l_number) : FnOk P w K mg base (L2.CX P w) 2 f fd ["_law_script", "_law_kinds_here", "_law_start"] (SpF K mg tb 3 false F_l_basket) :=
  fn_ok (N := n_l_basket) F sc_l_basket (O' := []) fun cdv hcd A outer s H E hr nd tk hp =>
    dss_cons (ds_set (i := 3) (by decide) (by decide) nd (de_int))
      (dss_cons (ds_if (dt_eq hr (de_mod (de_call c_l_cell_at hr tk (da_cons (de_var 0) (da_cons (de_int) (da_nil)))) (de_int)) (de_int))
      (dss_one (ds_set (i := 3) (by decide) (by decide) nd (de_int)))
      (dss_nil))
      (dss_cons (ds_own (i := 4) (by decide) (by decide) nd (dl_lst (da_nil)))
      (dss_cons (ds_for (.one 5) (by decide) (by decide) hp rfl (di_range1 T.z_range (da_cons (de_len T.z_len (da_cons (de_var 1) (da_nil))) (da_nil))) (pg_one 5 nd)
      (dss_cons (ds_set (i := 6) (by decide) (by decide) nd (de_mod (de_fdiv (de_call c_l_number hr tk (da_cons (de_var 0) (da_cons (de_add (de_var 2) (de_var 5)) (da_nil)))) (de_int)) (de_min2 rfl T.z_min (da_cons (de_int) (da_cons (de_var 3) (da_nil))))))
      (dss_cons (ds_app (i := 4) (by decide) (by decide) (de_var 6))
      (dss_one (ds_set (i := 3) (by decide) (by decide) nd (de_fdiv (de_var 3) (de_add (de_var 6) (de_int))))))))
      (dss_one (ds_ret (de_var 4))))))
def n_l_counts : List Str := ["_law_basket_here", "_law_number_here", "_law_counts_here", "_law_most"]
theorem sc_l_counts : FnScope n_l_counts ["_law_basket_here", "_law_number_here"] (defScope s_l_counts) := ⟨rfl, rfl, rfl, by decide +kernel, rfl, by decide +kernel, by decide +kernel⟩
def b_l_counts_1 : Sl → Out :=
  sSeq (sApp 2 (eBin D.mod (eVar 1) (eBin D.add (eVar 3) (eC (.int 1)))))
  (sSet 1 (eBin D.fdiv (eVar 1) (eBin D.add (eVar 3) (eC (.int 1)))))
def f_l_counts : Sl → Out :=
  sSeq (sOwn 2 (eNil))
  (sSeq (sFor (eItems (eVar 0)) (.one 3)
  (b_l_counts_1))
  (sRet (eVar 2)))
def F_l_counts : List D → Res D := fnSem 4 f_l_counts
theorem ok_l_counts (T : Fx P w K mg base tb) {f : Addr} {fd : FuncData} (F : FunD K "_law_counts" "_law_counts" (defArgs s_l_counts) (defBody s_l_counts) (defScope s_l_counts) [] [] f fd)  : FnOk P w K mg base (L2.CX P w) 1 f fd ["_law_basket_here", "_law_number_here"] (SpF K mg tb 2 false F_l_counts) :=
  fn_ok (N := n_l_counts) F sc_l_counts (O' := []) fun cdv hcd A outer s H E hr nd tk hp =>
    dss_cons (ds_own (i := 2) (by decide) (by decide) nd (dl_lst (da_nil)))
      (dss_cons (ds_for (.one 3) (by decide) (by decide) hp rfl (di_any (de_var 0)) (pg_one 3 nd)
      (dss_cons (ds_app (i := 2) (by decide) (by decide) (de_mod (de_var 1) (de_add (de_var 3) (de_int))))
      (dss_one (ds_set (i := 1) (by decide) (by decide) nd (de_fdiv (de_var 1) (de_add (de_var 3) (de_int)))))))
      (dss_one (ds_ret (de_var 2))))
def n_l_deal : List Str := ["_law_kinds_here", "_law_offer_here", "_law_names", "_law_kind", "_law_wants", "_law_name", "_law_many_here", "_law_place"]
theorem sc_l_deal : FnScope n_l_deal ["_law_kinds_here", "_law_offer_here"] (defScope s_l_deal) := ⟨rfl, rfl, rfl, by decide +kernel, rfl, by decide +kernel, by decide +kernel⟩
def g_l_deal_1 : EE :=
  eBin D.ix (eVar 3) (eC (.int 0))
def g_l_deal_2 : EE :=
  eC (.int 0)
def b_l_deal_1 : Sl → Out :=
  sSetI 4 (eMethL D.index (eVar 2) (eVar 5)) (eVar 6) (fun _ => true)
def f_l_deal : Sl → Out :=
  sSeq (sOwn 2 (eLc (eItems (eVar 0)) (.one 3) [3] (eYes) (g_l_deal_1)))
  (sSeq (sOwn 4 (eLc (eItems (eVar 0)) (.one 3) [3] (eYes) (g_l_deal_2)))
  (sSeq (sIf (eTest (eBin D.eq (eBin D.ix (eVar 1) (eC (.int 0))) (eC (.str "set"))))
  (sSeq (sFor (eItems (eBin D.ix (eVar 1) (eC (.int 1)))) (.two 5 6)
  (b_l_deal_1))
  (sRet (eTup (eCons (eCall (eCons (eVar 4) (eNil)) D.tupOf) (eCons (eBin D.ix (eVar 1) (eC (.int 2))) (eNil))))))
  (sNext))
  (sSeq (sSet 7 (eMethL D.index (eVar 2) (eBin D.ix (eVar 1) (eC (.int 1)))))
  (sSeq (sIf (eTest (eBin D.eq (eBin D.ix (eVar 1) (eC (.int 0))) (eC (.str "slip"))))
  (sSeq (sSetI 4 (eVar 7) (eC (.int 1)) (fun _ => true))
  (sSeq (sSet 7 (eMethL D.index (eVar 2) (eBin D.ix (eVar 1) (eC (.int 2)))))
  (sSeq (sSetI 4 (eVar 7) (eC (.int 1)) (fun _ => true))
  (sRet (eTup (eCons (eCall (eCons (eVar 4) (eNil)) D.tupOf) (eCons (eCall (eCons (eC (.int 0)) (eCons (eBin D.sub (eBin D.ix (eBin D.ix (eVar 0) (eVar 7)) (eC (.int 1))) (eBin D.ix (eVar 1) (eC (.int 3)))) (eNil))) D.max2) (eNil))))))))
  (sNext))
  (sSeq (sIf (eTest (eBin D.eq (eBin D.ix (eVar 1) (eC (.int 0))) (eC (.str "more"))))
  (sSeq (sSetI 4 (eVar 7) (eBin D.ix (eVar 1) (eC (.int 2))) (fun _ => true))
  (sRet (eTup (eCons (eCall (eCons (eVar 4) (eNil)) D.tupOf) (eCons (eBin D.mul (eBin D.ix (eVar 1) (eC (.int 3))) (eBin D.ix (eBin D.ix (eVar 0) (eVar 7)) (eC (.int 1)))) (eNil))))))
  (sNext))
  (sSeq (sSetI 4 (eVar 7) (eC (.int 1)) (fun _ => true))
  (sRet (eTup (eCons (eCall (eCons (eVar 4) (eNil)) D.tupOf) (eCons (eBin D.sub (eBin D.ix (eBin D.ix (eVar 0) (eVar 7)) (eC (.int 1))) (eBin D.fdiv (eBin D.mul (eBin D.ix (eBin D.ix (eVar 0) (eVar 7)) (eC (.int 1))) (eBin D.ix (eVar 1) (eC (.int 2)))) (eC (.int 100)))) (eNil)))))))))))
def F_l_deal : List D → Res D := fnSem 8 f_l_deal
theorem ok_l_deal (T : Fx P w K mg base tb) {f : Addr} {fd : FuncData} (F : FunD K "_law_deal" "_law_deal" (defArgs s_l_deal) (defBody s_l_deal) (defScope s_l_deal) [] [] f fd)  : FnOk P w K mg base (L2.CX P w) 1 f fd ["_law_kinds_here", "_law_offer_here"] (SpF K mg tb 2 false F_l_deal) :=
  fn_ok (N := n_l_deal) F sc_l_deal (O' := []) fun cdv hcd A outer s H E hr nd tk hp =>
    dss_cons (ds_post (O1 := [2]) (O' := []) (by decide) (ds_ownLcE (i := 2) (.one 3) (by decide) (by decide) rfl nd (di_any (de_var 0)) (blkOk_by (N := n_l_deal) (sc := defScope s_l_deal) (own := [("_law_kind", 3)]) (by decide +kernel)) (by decide) (fun _ _ _ _ _ => (pg_one 3 nd)) (fun _ _ _ _ _ => bt_nil) (fun _ _ _ _ _ => de_ix (de_var 3) (de_int))))
      (dss_cons (ds_ownLcE (i := 4) (.one 3) (by decide) (by decide) rfl nd (di_any (de_var 0)) (blkOk_by (N := n_l_deal) (sc := defScope s_l_deal) (own := [("_law_kind", 3)]) (by decide +kernel)) (by decide) (fun _ _ _ _ _ => (pg_one 3 nd)) (fun _ _ _ _ _ => bt_nil) (fun _ _ _ _ _ => de_int))
      (dss_cons (ds_if (dt_eq hr (de_ix (de_var 1) (de_int)) (de_str))
      (dss_cons (ds_for (.two 5 6) (by decide) (by decide) hp rfl (di_any (de_ix (de_var 1) (de_int))) (pg_two 5 6 rfl nd)
      (dss_one (ds_setI (i := 4) (by decide) (by decide) (de_var 6) (de_index (de_var 2) (de_var 5)))))
      (dss_one (ds_ret (de_tup (da_cons (de_tuple T.z_tuple (da_cons (de_var 4) (da_nil))) (da_cons (de_ix (de_var 1) (de_int)) (da_nil)))))))
      (dss_nil))
      (dss_cons (ds_set (i := 7) (by decide) (by decide) nd (de_index (de_var 2) (de_ix (de_var 1) (de_int))))
      (dss_cons (ds_if (dt_eq hr (de_ix (de_var 1) (de_int)) (de_str))
      (dss_cons (ds_setI (i := 4) (by decide) (by decide) (de_int) (de_var 7))
      (dss_cons (ds_set (i := 7) (by decide) (by decide) nd (de_index (de_var 2) (de_ix (de_var 1) (de_int))))
      (dss_cons (ds_setI (i := 4) (by decide) (by decide) (de_int) (de_var 7))
      (dss_one (ds_ret (de_tup (da_cons (de_tuple T.z_tuple (da_cons (de_var 4) (da_nil))) (da_cons (de_max2 rfl T.z_max (da_cons (de_int) (da_cons (de_sub (de_ix (de_ix (de_var 0) (de_var 7)) (de_int)) (de_ix (de_var 1) (de_int))) (da_nil)))) (da_nil)))))))))
      (dss_nil))
      (dss_cons (ds_if (dt_eq hr (de_ix (de_var 1) (de_int)) (de_str))
      (dss_cons (ds_setI (i := 4) (by decide) (by decide) (de_ix (de_var 1) (de_int)) (de_var 7))
      (dss_one (ds_ret (de_tup (da_cons (de_tuple T.z_tuple (da_cons (de_var 4) (da_nil))) (da_cons (de_mul (de_ix (de_var 1) (de_int)) (de_ix (de_ix (de_var 0) (de_var 7)) (de_int))) (da_nil)))))))
      (dss_nil))
      (dss_cons (ds_setI (i := 4) (by decide) (by decide) (de_int) (de_var 7))
      (dss_one (ds_ret (de_tup (da_cons (de_tuple T.z_tuple (da_cons (de_var 4) (da_nil))) (da_cons (de_sub (de_ix (de_ix (de_var 0) (de_var 7)) (de_int)) (de_fdiv (de_mul (de_ix (de_ix (de_var 0) (de_var 7)) (de_int)) (de_ix (de_var 1) (de_int))) (de_int))) (da_nil))))))))))))
def n_l_deals : List Str := ["_law_kinds_here", "_law_offers_here", "_law_found", "_law_k", "_law_j", "_law_offer_here"]
theorem sc_l_deals : FnScope n_l_deals ["_law_kinds_here", "_law_offers_here"] (defScope s_l_deals) := ⟨rfl, rfl, rfl, by decide +kernel, rfl, by decide +kernel, by decide +kernel⟩
def g_l_deals_1 : EE :=
  eCall (eCons (eBin D.eq (eVar 3) (eVar 4)) (eNil)) D.int1
def b_l_deals_1 : Sl → Out :=
  sApp 2 (eTup (eCons (eCall (eCons (eL (eLc (eCallL (eCons (eCall (eCons (eVar 0) (eNil)) D.len) (eNil)) D.rng1) (.one 4) [4] (eYes) (g_l_deals_1))) (eNil)) D.tupOf) (eCons (eBin D.ix (eBin D.ix (eVar 0) (eVar 3)) (eC (.int 1))) (eNil))))
def g_l_deals_2 : EE :=
  eCall (eCons (eVar 0) (eCons (eVar 5) (eNil))) F_l_deal
def f_l_deals : Sl → Out :=
  sSeq (sOwn 2 (eNil))
  (sSeq (sFor (eCallL (eCons (eCall (eCons (eVar 0) (eNil)) D.len) (eNil)) D.rng1) (.one 3)
  (b_l_deals_1))
  (sRet (eBin D.add (eVar 2) (eL (eLc (eItems (eVar 1)) (.one 5) [5] (eYes) (g_l_deals_2))))))
def F_l_deals : List D → Res D := fnSem 6 f_l_deals
theorem ok_l_deals (T : Fx P w K mg base tb) {f : Addr} {fd : FuncData} (F : FunD K "_law_deals" "_law_deals" (defArgs s_l_deals) (defBody s_l_deals) (defScope s_l_deals) [] [] f fd) (c_l_deal : Callee P w K mg base tb "_law_deal" 1 2 false F_l_deal) : FnOk P w K mg base (L2.CX P w) 2 f fd ["_law_kinds_here", "_law_offers_here"] (SpF K mg tb 2 false F_l_deals) :=
  fn_ok (N := n_l_deals) F sc_l_deals (O' := []) fun cdv hcd A outer s H E hr nd tk hp =>
    dss_cons (ds_own (i := 2) (by decide) (by decide) nd (dl_lst (da_nil)))
      (dss_cons (ds_for (.one 3) (by decide) (by decide) hp rfl (di_range1 T.z_range (da_cons (de_len T.z_len (da_cons (de_var 0) (da_nil))) (da_nil))) (pg_one 3 nd)
      (dss_one (ds_app (i := 2) (by decide) (by decide) (de_tup (da_cons (de_tuple T.z_tuple (da_cons (de_ofL (dl_lcE (.one 4) rfl nd (di_range1 T.z_range (da_cons (de_len T.z_len (da_cons (de_var 0) (da_nil))) (da_nil))) (blkOk_by (N := n_l_deals) (sc := defScope s_l_deals) (own := [("_law_j", 4)]) (by decide +kernel)) (by decide) (fun _ _ _ _ _ => (pg_one 4 nd)) (fun _ _ _ _ _ => bt_nil) (fun _ _ _ _ _ => de_intc T.z_int (da_cons (de_eq hr (de_var 3) (de_var 4)) (da_nil))))) (da_nil))) (da_cons (de_ix (de_ix (de_var 0) (de_var 3)) (de_int)) (da_nil)))))))
      (dss_one (ds_ret (de_add (de_var 2) (de_ofL (dl_lcE (.one 5) rfl nd (di_any (de_var 1)) (blkOk_by (N := n_l_deals) (sc := defScope s_l_deals) (own := [("_law_offer_here", 5)]) (by decide +kernel)) (by decide) (fun _ _ _ _ _ => (pg_one 5 nd)) (fun _ _ _ _ _ => bt_nil) (fun _ _ _ _ _ => de_call c_l_deal hr takes_w0 (da_cons (de_var 0) (da_cons (de_var 5) (da_nil))))))))))
def n_l_has : List Str := ["_law_counts_here", "_law_wants", "_law_k"]
theorem sc_l_has : FnScope n_l_has ["_law_counts_here", "_law_wants"] (defScope s_l_has) := ⟨rfl, rfl, rfl, by decide +kernel, rfl, by decide +kernel, by decide +kernel⟩
def g_l_has_1 : EE :=
  eVar 2
def t_l_has_1 : EB :=
  eTest (eBin D.lt (eBin D.ix (eVar 0) (eVar 2)) (eBin D.ix (eVar 1) (eVar 2)))
def f_l_has : Sl → Out :=
  sRet (eBin D.eq (eCall (eCons (eL (eLc (eCallL (eCons (eCall (eCons (eVar 0) (eNil)) D.len) (eNil)) D.rng1) (.one 2) [2] (t_l_has_1) (g_l_has_1))) (eNil)) D.len) (eC (.int 0)))
def F_l_has : List D → Res D := fnSem 3 f_l_has
theorem ok_l_has (T : Fx P w K mg base tb) {f : Addr} {fd : FuncData} (F : FunD K "_law_has" "_law_has" (defArgs s_l_has) (defBody s_l_has) (defScope s_l_has) [] [] f fd)  : FnOk P w K mg base (L2.CX P w) 1 f fd ["_law_counts_here", "_law_wants"] (SpF K mg tb 2 false F_l_has) :=
  fn_ok (N := n_l_has) F sc_l_has (O' := []) fun cdv hcd A outer s H E hr nd tk hp =>
    dss_one (ds_ret (de_eq hr (de_len T.z_len (da_cons (de_ofL (dl_lcE (.one 2) rfl nd (di_range1 T.z_range (da_cons (de_len T.z_len (da_cons (de_var 0) (da_nil))) (da_nil))) (blkOk_by (N := n_l_has) (sc := defScope s_l_has) (own := [("_law_k", 2)]) (by decide +kernel)) (by decide) (fun _ _ _ _ _ => (pg_one 2 nd)) (fun _ _ _ _ _ => bt_one (dt_lt (de_ix (de_var 0) (de_var 2)) (de_ix (de_var 1) (de_var 2)))) (fun _ _ _ _ _ => de_var 2))) (da_nil))) (de_int)))
def n_l_name_by : List Str := ["_law_script", "_law_k", "_law_some", "_law_alike", "_law_number_here", "_law_step_here", "_law_name", "_law_j", "_law_place", "_law_sign"]
theorem sc_l_name_by : FnScope n_l_name_by ["_law_script", "_law_k"] (defScope s_l_name_by) := ⟨rfl, rfl, rfl, by decide +kernel, rfl, by decide +kernel, by decide +kernel⟩
def b_l_name_by_1 : Sl → Out :=
  sSet 6 (eBin D.add (eVar 6) (eBin D.ix (eVar 2) (eBin D.mod (eBin D.add (eBin D.fdiv (eVar 4) (eC (.int 208))) (eBin D.mul (eVar 7) (eVar 5))) (eC (.int 26)))))
def f_l_name_by : Sl → Out :=
  sSeq (sSet 2 (eC (.str "abcdefghijklmnopqrstuvwxyz")))
  (sSeq (sSet 3 (eBin D.eq (eBin D.mod (eBin D.fdiv (eCall (eCons (eVar 0) (eCons (eC (.int 0)) (eNil))) F_l_cell_at) (eC (.int 5))) (eC (.int 2))) (eC (.int 1))))
  (sSeq (sSet 4 (eCall (eCons (eVar 0) (eCons (eBin D.add (eC (.int 1)) (eBin D.mul (eBin D.mul (eC (.int 3)) (eVar 1)) (eCall (eCons (eUn D.nt (eVar 3)) (eNil)) D.int1))) (eNil))) F_l_number))
  (sSeq (sSet 5 (eBin D.add (eC (.int 1)) (eBin D.mod (eBin D.fdiv (eVar 4) (eC (.int 5408))) (eC (.int 25)))))
  (sSeq (sSet 6 (eC (.str "")))
  (sSeq (sFor (eCallL (eCons (eBin D.add (eC (.int 1)) (eBin D.mod (eVar 4) (eC (.int 8)))) (eNil)) D.rng1) (.one 7)
  (b_l_name_by_1))
  (sSeq (sIf (eTruth (eVar 3))
  (sSeq (sSet 8 (eBin D.mod (eBin D.fdiv (eVar 4) (eC (.int 8))) (eCall (eCons (eVar 6) (eNil)) D.len)))
  (sSeq (sSet 9 (eBin D.ix (eVar 2) (eBin D.mod (eBin D.add (eBin D.fdiv (eVar 4) (eC (.int 64))) (eBin D.mul (eC (.int 5)) (eVar 1))) (eC (.int 26)))))
  (sSet 6 (eBin D.add (eBin D.add (eSl (eVar 6) (eNoPart) (ePart (eVar 8))) (eVar 9)) (eSl (eVar 6) (ePart (eBin D.add (eVar 8) (eC (.int 1)))) (eNoPart))))))
  (sNext))
  (sRet (eVar 6))))))))
def F_l_name_by : List D → Res D := fnSem 10 f_l_name_by
theorem ok_l_name_by (T : Fx P w K mg base tb) {f : Addr} {fd : FuncData} (F : FunD K "_law_name_by" "_law_name_by" (defArgs s_l_name_by) (defBody s_l_name_by) (defScope s_l_name_by) [] [] f fd) (c_l_cell_at : Callee P w K mg base tb "_law_cell_at" 1 2 false F_l_cell_at) (c_l_number : Callee P w K mg base tb "_law_number" 1 2 false F_l_number) : FnOk P w K mg base (L2.CX P w) 2 f fd ["_law_script", "_law_k"] (SpF K mg tb 2 false F_l_name_by) :=
  fn_ok (N := n_l_name_by) F sc_l_name_by (O' := []) fun cdv hcd A outer s H E hr nd tk hp =>
    dss_cons (ds_set (i := 2) (by decide) (by decide) nd (de_str))
      (dss_cons (ds_set (i := 3) (by decide) (by decide) nd (de_eq hr (de_mod (de_fdiv (de_call c_l_cell_at hr tk (da_cons (de_var 0) (da_cons (de_int) (da_nil)))) (de_int)) (de_int)) (de_int)))
      (dss_cons (ds_set (i := 4) (by decide) (by decide) nd (de_call c_l_number hr tk (da_cons (de_var 0) (da_cons (de_add (de_int) (de_mul (de_mul (de_int) (de_var 1)) (de_intc T.z_int (da_cons (de_not (de_var 3)) (da_nil))))) (da_nil)))))
      (dss_cons (ds_set (i := 5) (by decide) (by decide) nd (de_add (de_int) (de_mod (de_fdiv (de_var 4) (de_int)) (de_int))))
      (dss_cons (ds_set (i := 6) (by decide) (by decide) nd (de_str))
      (dss_cons (ds_for (.one 7) (by decide) (by decide) hp rfl (di_range1 T.z_range (da_cons (de_add (de_int) (de_mod (de_var 4) (de_int))) (da_nil))) (pg_one 7 nd)
      (dss_one (ds_set (i := 6) (by decide) (by decide) nd (de_add (de_var 6) (de_ix (de_var 2) (de_mod (de_add (de_fdiv (de_var 4) (de_int)) (de_mul (de_var 7) (de_var 5))) (de_int)))))))
      (dss_cons (ds_if (dt_truth (de_var 3))
      (dss_cons (ds_set (i := 8) (by decide) (by decide) nd (de_mod (de_fdiv (de_var 4) (de_int)) (de_len T.z_len (da_cons (de_var 6) (da_nil)))))
      (dss_cons (ds_set (i := 9) (by decide) (by decide) nd (de_ix (de_var 2) (de_mod (de_add (de_fdiv (de_var 4) (de_int)) (de_mul (de_int) (de_var 1))) (de_int))))
      (dss_one (ds_set (i := 6) (by decide) (by decide) nd (de_add (de_add (de_sl (de_var 6) (dp_none) (dp_some (de_var 8))) (de_var 9)) (de_sl (de_var 6) (dp_some (de_add (de_var 8) (de_int))) (dp_none)))))))
      (dss_nil))
      (dss_one (ds_ret (de_var 6)))))))))
def n_l_kinds : List Str := ["_law_script", "_law_kinds_here", "_law_names", "_law_k", "_law_number_here", "_law_name", "_law_price"]
theorem sc_l_kinds : FnScope n_l_kinds ["_law_script"] (defScope s_l_kinds) := ⟨rfl, rfl, rfl, by decide +kernel, rfl, by decide +kernel, by decide +kernel⟩
def b_l_kinds_1 : Sl → Out :=
  sSeq (sSet 4 (eCall (eCons (eVar 0) (eCons (eBin D.add (eBin D.mul (eC (.int 3)) (eVar 3)) (eC (.int 2))) (eNil))) F_l_number))
  (sSeq (sSet 5 (eCall (eCons (eVar 0) (eCons (eVar 3) (eNil))) F_l_name_by))
  (sSeq (sSet 6 (eBin D.mod (eBin D.fdiv (eVar 4) (eC (.int 1009))) (eC (.int 100))))
  (sSeq (sIf (eTest (eBin D.eq (eBin D.mod (eVar 4) (eC (.int 3))) (eC (.int 0))))
  (sSet 6 (eBin D.mod (eBin D.fdiv (eVar 4) (eC (.int 1009))) (eC (.int 100001))))
  (sNext))
  (sSeq (sIf (eTest (eBin D.inn (eVar 5) (eVar 2)))
  (sSet 5 (eBin D.add (eSl (eVar 5) (eNoPart) (ePart (eC (.int 7)))) (eBin D.ix (eC (.str "abcde")) (eVar 3))))
  (sNext))
  (sIf (eTest (eBin D.nin (eVar 5) (eVar 2)))
  (sSeq (sApp 2 (eVar 5))
  (sApp 1 (eTup (eCons (eVar 5) (eCons (eVar 6) (eNil))))))
  (sNext))))))
def f_l_kinds : Sl → Out :=
  sSeq (sOwn 1 (eNil))
  (sSeq (sOwn 2 (eNil))
  (sSeq (sFor (eCallL (eCons (eBin D.add (eC (.int 1)) (eBin D.mod (eCall (eCons (eVar 0) (eCons (eC (.int 0)) (eNil))) F_l_cell_at) (eC (.int 5)))) (eNil)) D.rng1) (.one 3)
  (b_l_kinds_1))
  (sRet (eVar 1))))
def F_l_kinds : List D → Res D := fnSem 7 f_l_kinds
theorem ok_l_kinds (T : Fx P w K mg base tb) {f : Addr} {fd : FuncData} (F : FunD K "_law_kinds" "_law_kinds" (defArgs s_l_kinds) (defBody s_l_kinds) (defScope s_l_kinds) [] [] f fd) (c_l_cell_at : Callee P w K mg base tb "_law_cell_at" 1 2 false F_l_cell_at) (c_l_name_by : Callee P w K mg base tb "_law_name_by" 2 2 false F_l_name_by) (c_l_number : Callee P w K mg base tb "_law_number" 1 2 false F_l_number) : FnOk P w K mg base (L2.CX P w) 3 f fd ["_law_script"] (SpF K mg tb 1 false F_l_kinds) :=
  fn_ok (N := n_l_kinds) F sc_l_kinds (O' := []) fun cdv hcd A outer s H E hr nd tk hp =>
    dss_cons (ds_own (i := 1) (by decide) (by decide) nd (dl_lst (da_nil)))
      (dss_cons (ds_own (i := 2) (by decide) (by decide) nd (dl_lst (da_nil)))
      (dss_cons (ds_for (.one 3) (by decide) (by decide) hp rfl (di_range1 T.z_range (da_cons (de_add (de_int) (de_mod (de_call c_l_cell_at hr tk (da_cons (de_var 0) (da_cons (de_int) (da_nil)))) (de_int))) (da_nil))) (pg_one 3 nd)
      (dss_cons (ds_set (i := 4) (by decide) (by decide) nd (de_call c_l_number hr tk (da_cons (de_var 0) (da_cons (de_add (de_mul (de_int) (de_var 3)) (de_int)) (da_nil)))))
      (dss_cons (ds_set (i := 5) (by decide) (by decide) nd (de_call c_l_name_by hr tk (da_cons (de_var 0) (da_cons (de_var 3) (da_nil)))))
      (dss_cons (ds_set (i := 6) (by decide) (by decide) nd (de_mod (de_fdiv (de_var 4) (de_int)) (de_int)))
      (dss_cons (ds_if (dt_eq hr (de_mod (de_var 4) (de_int)) (de_int))
      (dss_one (ds_set (i := 6) (by decide) (by decide) nd (de_mod (de_fdiv (de_var 4) (de_int)) (de_int))))
      (dss_nil))
      (dss_cons (ds_if (dt_in (de_var 5) (de_var 2))
      (dss_one (ds_set (i := 5) (by decide) (by decide) nd (de_add (de_sl (de_var 5) (dp_none) (dp_some (de_int))) (de_ix (de_str) (de_var 3)))))
      (dss_nil))
      (dss_one (ds_if (dt_nin (de_var 5) (de_var 2))
      (dss_cons (ds_app (i := 2) (by decide) (by decide) (de_var 5))
      (dss_one (ds_app (i := 1) (by decide) (by decide) (de_tup (da_cons (de_var 5) (da_cons (de_var 6) (da_nil)))))))
      (dss_nil)))))))))
      (dss_one (ds_ret (de_var 1)))))
def n_l_many : List Str := ["_law_basket_here", "_law_many_here", "_law_most"]
theorem sc_l_many : FnScope n_l_many ["_law_basket_here"] (defScope s_l_many) := ⟨rfl, rfl, rfl, by decide +kernel, rfl, by decide +kernel, by decide +kernel⟩
def b_l_many_1 : Sl → Out :=
  sSet 1 (eBin D.mul (eVar 1) (eBin D.add (eVar 2) (eC (.int 1))))
def f_l_many : Sl → Out :=
  sSeq (sSet 1 (eC (.int 1)))
  (sSeq (sFor (eItems (eVar 0)) (.one 2)
  (b_l_many_1))
  (sRet (eVar 1)))
def F_l_many : List D → Res D := fnSem 3 f_l_many
theorem ok_l_many (T : Fx P w K mg base tb) {f : Addr} {fd : FuncData} (F : FunD K "_law_many" "_law_many" (defArgs s_l_many) (defBody s_l_many) (defScope s_l_many) [] [] f fd)  : FnOk P w K mg base (L2.CX P w) 1 f fd ["_law_basket_here"] (SpF K mg tb 1 false F_l_many) :=
  fn_ok (N := n_l_many) F sc_l_many (O' := []) fun cdv hcd A outer s H E hr nd tk hp =>
    dss_cons (ds_set (i := 1) (by decide) (by decide) nd (de_int))
      (dss_cons (ds_for (.one 2) (by decide) (by decide) hp rfl (di_any (de_var 0)) (pg_one 2 nd)
      (dss_one (ds_set (i := 1) (by decide) (by decide) nd (de_mul (de_var 1) (de_add (de_var 2) (de_int))))))
      (dss_one (ds_ret (de_var 1))))
def n_l_offer : List Str := ["_law_kinds_here", "_law_number_here", "_law_name", "_law_other", "_law_more", "_law_many_here", "_law_wants", "_law_kind"]
theorem sc_l_offer : FnScope n_l_offer ["_law_kinds_here", "_law_number_here"] (defScope s_l_offer) := ⟨rfl, rfl, rfl, by decide +kernel, rfl, by decide +kernel, by decide +kernel⟩
def b_l_offer_1 : Sl → Out :=
  sSeq (sIf (eAndB (eTest (eBin D.ne (eBin D.ix (eVar 7) (eC (.int 0))) (eVar 2))) (eTest (eBin D.gt (eBin D.mod (eBin D.fdiv (eVar 4) (eC (.int 18))) (eC (.int 3))) (eC (.int 0)))))
  (sApp 6 (eTup (eCons (eBin D.ix (eVar 7) (eC (.int 0))) (eCons (eBin D.add (eC (.int 1)) (eBin D.mod (eBin D.fdiv (eVar 4) (eC (.int 54))) (eBin D.ix (eL (eCons (eC (.int 1)) (eCons (eC (.int 2)) (eCons (eC (.int 9)) (eNil))))) (eBin D.mod (eBin D.fdiv (eVar 4) (eC (.int 486))) (eC (.int 3)))))) (eNil)))))
  (sNext))
  (sSet 4 (eBin D.fdiv (eVar 4) (eC (.int 3))))
def f_l_offer : Sl → Out :=
  sSeq (sSet 2 (eBin D.ix (eBin D.ix (eVar 0) (eBin D.mod (eBin D.fdiv (eVar 1) (eC (.int 4))) (eCall (eCons (eVar 0) (eNil)) D.len))) (eC (.int 0))))
  (sSeq (sSet 3 (eBin D.ix (eBin D.ix (eVar 0) (eBin D.mod (eBin D.fdiv (eVar 1) (eC (.int 20))) (eCall (eCons (eVar 0) (eNil)) D.len))) (eC (.int 0))))
  (sSeq (sSet 4 (eBin D.fdiv (eVar 1) (eC (.int 100))))
  (sSeq (sIf (eAndB (eTest (eBin D.eq (eBin D.mod (eVar 1) (eC (.int 4))) (eC (.int 1)))) (eTest (eBin D.ne (eVar 3) (eVar 2))))
  (sRet (eTup (eCons (eC (.str "slip")) (eCons (eVar 3) (eCons (eVar 2) (eCons (eBin D.add (eC (.int 1)) (eBin D.mod (eVar 4) (eBin D.ix (eL (eCons (eC (.int 100)) (eCons (eC (.int 100000)) (eNil)))) (eBin D.mod (eBin D.fdiv (eVar 4) (eC (.int 100))) (eC (.int 2)))))) (eNil)))))))
  (sNext))
  (sSeq (sIf (eTest (eBin D.eq (eBin D.mod (eVar 1) (eC (.int 4))) (eC (.int 2))))
  (sRet (eTup (eCons (eC (.str "share")) (eCons (eVar 2) (eCons (eBin D.add (eC (.int 1)) (eBin D.mod (eVar 4) (eC (.int 100)))) (eNil))))))
  (sNext))
  (sSeq (sIf (eTest (eBin D.eq (eBin D.mod (eVar 1) (eC (.int 4))) (eC (.int 3))))
  (sSeq (sSet 5 (eBin D.add (eC (.int 2)) (eBin D.mod (eVar 4) (eC (.int 8)))))
  (sRet (eTup (eCons (eC (.str "more")) (eCons (eVar 2) (eCons (eVar 5) (eCons (eBin D.add (eC (.int 1)) (eBin D.mod (eBin D.fdiv (eVar 4) (eC (.int 8))) (eBin D.sub (eVar 5) (eC (.int 1))))) (eNil))))))))
  (sNext))
  (sSeq (sOwn 6 (eCons (eTup (eCons (eVar 2) (eCons (eBin D.add (eC (.int 1)) (eBin D.mod (eVar 4) (eBin D.ix (eL (eCons (eC (.int 2)) (eCons (eC (.int 9)) (eNil)))) (eBin D.mod (eBin D.fdiv (eVar 4) (eC (.int 9))) (eC (.int 2)))))) (eNil)))) (eNil)))
  (sSeq (sFor (eItems (eVar 0)) (.one 7)
  (b_l_offer_1))
  (sSeq (sIf (eTest (eBin D.eq (eBin D.mod (eBin D.fdiv (eVar 1) (eC (.int 11))) (eC (.int 3))) (eC (.int 1))))
  (sLst List.reverse 6)
  (sNext))
  (sRet (eTup (eCons (eC (.str "set")) (eCons (eCall (eCons (eVar 6) (eNil)) D.tupN) (eCons (eBin D.mod (eBin D.fdiv (eVar 1) (eC (.int 700))) (eBin D.ix (eL (eCons (eC (.int 300)) (eCons (eC (.int 100001)) (eNil)))) (eBin D.mod (eBin D.fdiv (eVar 1) (eC (.int 11))) (eC (.int 2))))) (eNil))))))))))))))
def F_l_offer : List D → Res D := fnSem 8 f_l_offer
theorem ok_l_offer (T : Fx P w K mg base tb) {f : Addr} {fd : FuncData} (F : FunD K "_law_offer" "_law_offer" (defArgs s_l_offer) (defBody s_l_offer) (defScope s_l_offer) [] [] f fd)  : FnOk P w K mg base (L2.CX P w) 1 f fd ["_law_kinds_here", "_law_number_here"] (SpF K mg tb 2 false F_l_offer) :=
  fn_ok (N := n_l_offer) F sc_l_offer (O' := []) fun cdv hcd A outer s H E hr nd tk hp =>
    dss_cons (ds_set (i := 2) (by decide) (by decide) nd (de_ix (de_ix (de_var 0) (de_mod (de_fdiv (de_var 1) (de_int)) (de_len T.z_len (da_cons (de_var 0) (da_nil))))) (de_int)))
      (dss_cons (ds_set (i := 3) (by decide) (by decide) nd (de_ix (de_ix (de_var 0) (de_mod (de_fdiv (de_var 1) (de_int)) (de_len T.z_len (da_cons (de_var 0) (da_nil))))) (de_int)))
      (dss_cons (ds_set (i := 4) (by decide) (by decide) nd (de_fdiv (de_var 1) (de_int)))
      (dss_cons (ds_if (dt_bool (dw_and (dt_eq hr (de_mod (de_var 1) (de_int)) (de_int)) (dw_and1 (dt_ne hr (de_var 3) (de_var 2)))))
      (dss_one (ds_ret (de_tup (da_cons (de_str) (da_cons (de_var 3) (da_cons (de_var 2) (da_cons (de_add (de_int) (de_mod (de_var 4) (de_ix (de_ofL (dl_lst (da_cons (de_int) (da_cons (de_int) (da_nil))))) (de_mod (de_fdiv (de_var 4) (de_int)) (de_int))))) (da_nil))))))))
      (dss_nil))
      (dss_cons (ds_if (dt_eq hr (de_mod (de_var 1) (de_int)) (de_int))
      (dss_one (ds_ret (de_tup (da_cons (de_str) (da_cons (de_var 2) (da_cons (de_add (de_int) (de_mod (de_var 4) (de_int))) (da_nil)))))))
      (dss_nil))
      (dss_cons (ds_if (dt_eq hr (de_mod (de_var 1) (de_int)) (de_int))
      (dss_cons (ds_set (i := 5) (by decide) (by decide) nd (de_add (de_int) (de_mod (de_var 4) (de_int))))
      (dss_one (ds_ret (de_tup (da_cons (de_str) (da_cons (de_var 2) (da_cons (de_var 5) (da_cons (de_add (de_int) (de_mod (de_fdiv (de_var 4) (de_int)) (de_sub (de_var 5) (de_int)))) (da_nil)))))))))
      (dss_nil))
      (dss_cons (ds_own (i := 6) (by decide) (by decide) nd (dl_lst (da_cons (de_tup (da_cons (de_var 2) (da_cons (de_add (de_int) (de_mod (de_var 4) (de_ix (de_ofL (dl_lst (da_cons (de_int) (da_cons (de_int) (da_nil))))) (de_mod (de_fdiv (de_var 4) (de_int)) (de_int))))) (da_nil)))) (da_nil))))
      (dss_cons (ds_for (.one 7) (by decide) (by decide) hp rfl (di_any (de_var 0)) (pg_one 7 nd)
      (dss_cons (ds_if (dt_bool (dw_and (dt_ne hr (de_ix (de_var 7) (de_int)) (de_var 2)) (dw_and1 (dt_gt (de_mod (de_fdiv (de_var 4) (de_int)) (de_int)) (de_int)))))
      (dss_one (ds_app (i := 6) (by decide) (by decide) (de_tup (da_cons (de_ix (de_var 7) (de_int)) (da_cons (de_add (de_int) (de_mod (de_fdiv (de_var 4) (de_int)) (de_ix (de_ofL (dl_lst (da_cons (de_int) (da_cons (de_int) (da_cons (de_int) (da_nil)))))) (de_mod (de_fdiv (de_var 4) (de_int)) (de_int))))) (da_nil))))))
      (dss_nil))
      (dss_one (ds_set (i := 4) (by decide) (by decide) nd (de_fdiv (de_var 4) (de_int))))))
      (dss_cons (ds_if (dt_eq hr (de_mod (de_fdiv (de_var 1) (de_int)) (de_int)) (de_int))
      (dss_one (ds_reverse (i := 6) (by decide)))
      (dss_nil))
      (dss_one (ds_ret (de_tup (da_cons (de_str) (da_cons (de_tupN T.z_tuple (da_cons (de_var 6) (da_nil))) (da_cons (de_mod (de_fdiv (de_var 1) (de_int)) (de_ix (de_ofL (dl_lst (da_cons (de_int) (da_cons (de_int) (da_nil))))) (de_mod (de_fdiv (de_var 1) (de_int)) (de_int)))) (da_nil)))))))))))))))
def n_l_offers : List Str := ["_law_script", "_law_kinds_here", "_law_start", "_law_many_here", "_law_k"]
theorem sc_l_offers : FnScope n_l_offers ["_law_script", "_law_kinds_here", "_law_start"] (defScope s_l_offers) := ⟨rfl, rfl, rfl, by decide +kernel, rfl, by decide +kernel, by decide +kernel⟩
def g_l_offers_1 : EE :=
  eCall (eCons (eVar 1) (eCons (eCall (eCons (eVar 0) (eCons (eBin D.add (eVar 2) (eVar 4)) (eNil))) F_l_number) (eNil))) F_l_offer
def f_l_offers : Sl → Out :=
  sSeq (sSet 3 (eBin D.mod (eCall (eCons (eVar 0) (eCons (eC (.int 2)) (eNil))) F_l_cell_at) (eC (.int 7))))
  (sSeq (sIf (eTest (eBin D.eq (eBin D.mod (eBin D.fdiv (eCall (eCons (eVar 0) (eCons (eC (.int 2)) (eNil))) F_l_cell_at) (eC (.int 7))) (eC (.int 8))) (eC (.int 1))))
  (sSet 3 (eBin D.add (eVar 3) (eC (.int 6))))
  (sNext))
  (sRet (eL (eLc (eCallL (eCons (eVar 3) (eNil)) D.rng1) (.one 4) [4] (eYes) (g_l_offers_1)))))
def F_l_offers : List D → Res D := fnSem 5 f_l_offers
theorem ok_l_offers (T : Fx P w K mg base tb) {f : Addr} {fd : FuncData} (F : FunD K "_law_offers" "_law_offers" (defArgs s_l_offers) (defBody s_l_offers) (defScope s_l_offers) [] [] f fd) (c_l_cell_at : Callee P w K mg base tb "_law_cell_at" 1 2 false F_l_cell_at) (c_l_number : Callee P w K mg base tb "_law_number" 1 2 false F_l_number) (c_l_offer : Callee P w K mg base tb "_law_offer" 1 2 false F_l_offer) : FnOk P w K mg base (L2.CX P w) 2 f fd ["_law_script", "_law_kinds_here", "_law_start"] (SpF K mg tb 3 false F_l_offers) :=
  fn_ok (N := n_l_offers) F sc_l_offers (O' := []) fun cdv hcd A outer s H E hr nd tk hp =>
    dss_cons (ds_set (i := 3) (by decide) (by decide) nd (de_mod (de_call c_l_cell_at hr tk (da_cons (de_var 0) (da_cons (de_int) (da_nil)))) (de_int)))
      (dss_cons (ds_if (dt_eq hr (de_mod (de_fdiv (de_call c_l_cell_at hr tk (da_cons (de_var 0) (da_cons (de_int) (da_nil)))) (de_int)) (de_int)) (de_int))
      (dss_one (ds_set (i := 3) (by decide) (by decide) nd (de_add (de_var 3) (de_int))))
      (dss_nil))
      (dss_one (ds_ret (de_ofL (dl_lcE (.one 4) rfl nd (di_range1 T.z_range (da_cons (de_var 3) (da_nil))) (blkOk_by (N := n_l_offers) (sc := defScope s_l_offers) (own := [("_law_k", 4)]) (by decide +kernel)) (by decide) (fun _ _ _ _ _ => (pg_one 4 nd)) (fun _ _ _ _ _ => bt_nil) (fun _ _ _ _ _ => de_call c_l_offer hr takes_w0 (da_cons (de_var 1) (da_cons (de_call c_l_number hr takes_w0 (da_cons (de_var 0) (da_cons (de_add (de_var 2) (de_var 4)) (da_nil)))) (da_nil)))))))))
def n_l_step : List Str := ["_law_basket_here", "_law_wants", "_law_step_here", "_law_number_here", "_law_most", "_law_want"]
theorem sc_l_step : FnScope n_l_step ["_law_basket_here", "_law_wants"] (defScope s_l_step) := ⟨rfl, rfl, rfl, by decide +kernel, rfl, by decide +kernel, by decide +kernel⟩
def b_l_step_1 : Sl → Out :=
  sSeq (sSet 3 (eBin D.add (eVar 3) (eBin D.mul (eVar 5) (eVar 2))))
  (sSet 2 (eBin D.mul (eVar 2) (eBin D.add (eVar 4) (eC (.int 1)))))
def f_l_step : Sl → Out :=
  sSeq (sSet 2 (eC (.int 1)))
  (sSeq (sSet 3 (eC (.int 0)))
  (sSeq (sFor (eCallL (eCons (eVar 0) (eCons (eVar 1) (eNil))) D.zipM) (.two 4 5)
  (b_l_step_1))
  (sRet (eVar 3))))
def F_l_step : List D → Res D := fnSem 6 f_l_step
theorem ok_l_step (T : Fx P w K mg base tb) {f : Addr} {fd : FuncData} (F : FunD K "_law_step" "_law_step" (defArgs s_l_step) (defBody s_l_step) (defScope s_l_step) [] [] f fd)  : FnOk P w K mg base (L2.CX P w) 1 f fd ["_law_basket_here", "_law_wants"] (SpF K mg tb 2 false F_l_step) :=
  fn_ok (N := n_l_step) F sc_l_step (O' := []) fun cdv hcd A outer s H E hr nd tk hp =>
    dss_cons (ds_set (i := 2) (by decide) (by decide) nd (de_int))
      (dss_cons (ds_set (i := 3) (by decide) (by decide) nd (de_int))
      (dss_cons (ds_for (.two 4 5) (by decide) (by decide) hp rfl (di_zipM T.z_zip (da_cons (de_var 0) (da_cons (de_var 1) (da_nil)))) (pg_two 4 5 rfl nd)
      (dss_cons (ds_set (i := 3) (by decide) (by decide) nd (de_add (de_var 3) (de_mul (de_var 5) (de_var 2))))
      (dss_one (ds_set (i := 2) (by decide) (by decide) nd (de_mul (de_var 2) (de_add (de_var 4) (de_int)))))))
      (dss_one (ds_ret (de_var 3)))))
def n_l_whole : List Str := ["_law_found"]
theorem sc_l_whole : FnScope n_l_whole ["_law_found"] (defScope s_l_whole) := ⟨rfl, rfl, rfl, by decide +kernel, rfl, by decide +kernel, by decide +kernel⟩
def f_l_whole : Sl → Out :=
  sRet (eAndV (eCall (eCons (eVar 0) (eCons (eC (.raw (.ty "int"))) (eNil))) D.isi) (eUn D.nt (eCall (eCons (eVar 0) (eCons (eC (.raw (.ty "bool"))) (eNil))) D.isi)))
def F_l_whole : List D → Res D := fnSem 1 f_l_whole
theorem ok_l_whole (T : Fx P w K mg base tb) {f : Addr} {fd : FuncData} (F : FunD K "_law_whole" "_law_whole" (defArgs s_l_whole) (defBody s_l_whole) (defScope s_l_whole) [] [] f fd)  : FnOk P w K mg base (L2.CX P w) 1 f fd ["_law_found"] (SpF K mg tb 1 false F_l_whole) :=
  fn_ok (N := n_l_whole) F sc_l_whole (O' := []) fun cdv hcd A outer s H E hr nd tk hp =>
    dss_one (ds_ret (de_and (de_isi T.z_isinstance (da_cons (de_var 0) (da_cons (de_ty T.z_int) (da_nil)))) (de_one (de_not (de_isi T.z_isinstance (da_cons (de_var 0) (da_cons (de_ty T.z_bool) (da_nil))))))))
def n_p_Shop_place : List Str := ["self", "name"]
theorem sc_p_Shop_place : FnScope n_p_Shop_place ["self", "name"] (defScope s_p_Shop_place) := ⟨rfl, rfl, rfl, by decide +kernel, rfl, by decide +kernel, by decide +kernel⟩
def f_p_Shop_place : Sl → Out :=
  sSeq (sIf (eOrB (eNotB (eTruth (eCall (eCons (eVar 1) (eCons (eC (.raw (.ty "str"))) (eNil))) D.isi))) (eTest (eBin D.nin (eVar 1) (eUn (D.fld "Shop" "names") (eVar 0)))))
  (sRaise "NoKind")
  (sNext))
  (sRet (eMethL D.index (eUn (D.fld "Shop" "names") (eVar 0)) (eVar 1)))
def F_p_Shop_place : List D → Res D := fnSem 2 f_p_Shop_place
theorem ok_p_Shop_place (T : Fx P w K mg base tb) {f : Addr} {fd : FuncData} (F : FunD K "place" "Shop.place" (defArgs s_p_Shop_place) (defBody s_p_Shop_place) (defScope s_p_Shop_place) [] [] f fd)  : FnOk P w K mg base (L2.CX P w) 1 f fd ["self", "name"] (SpF K mg tb 2 false F_p_Shop_place) :=
  fn_ok (N := n_p_Shop_place) F sc_p_Shop_place (O' := []) fun cdv hcd A outer s H E hr nd tk hp =>
    dss_cons (ds_if (dt_bool (dw_or (dt_not (dt_truth (de_isi T.z_isinstance (da_cons (de_var 1) (da_cons (de_ty T.z_str) (da_nil)))))) (dw_or1 (dt_nin (de_var 1) (de_fld (C0 := "Shop") (de_var 0) T.ci_Shop.cl T.na_Shop_names)))))
      (dss_one (ds_raise T.xd_NoKind rfl tk))
      (dss_nil))
      (dss_one (ds_ret (de_index (de_fld (C0 := "Shop") (de_var 0) T.ci_Shop.cl T.na_Shop_names) (de_var 1))))
def n_p_more_holds : List Str := ["offer", "_", "many", "paid"]
theorem sc_p_more_holds : FnScope n_p_more_holds ["offer"] (defScope s_p_more_holds) := ⟨rfl, rfl, rfl, by decide +kernel, rfl, by decide +kernel, by decide +kernel⟩
def f_p_more_holds : Sl → Out :=
  sSeq (sTgt (.many [1, 1, 2, 3]) (eVar 0))
  (sRet (eAndV (eCall (eCons (eVar 2) (eCons (eC (.int 2)) (eCons (eC (.int 9)) (eNil)))) F_p_is_whole) (eCall (eCons (eVar 3) (eCons (eC (.int 1)) (eCons (eBin D.sub (eVar 2) (eC (.int 1))) (eNil)))) F_p_is_whole)))
def F_p_more_holds : List D → Res D := fnSem 4 f_p_more_holds
theorem ok_p_more_holds (T : Fx P w K mg base tb) {f : Addr} {fd : FuncData} (F : FunD K "more_holds" "more_holds" (defArgs s_p_more_holds) (defBody s_p_more_holds) (defScope s_p_more_holds) [] [] f fd) (c_p_is_whole : Callee P w K mg base tb "is_whole" 1 3 false F_p_is_whole) : FnOk P w K mg base (L2.CX P w) 2 f fd ["offer"] (SpF K mg tb 1 false F_p_more_holds) :=
  fn_ok (N := n_p_more_holds) F sc_p_more_holds (O' := []) fun cdv hcd A outer s H E hr nd tk hp =>
    dss_cons (ds_tgt (.many [1, 1, 2, 3]) (by decide) (by decide) (de_var 0) (pg_four 1 1 2 3 rfl nd))
      (dss_one (ds_ret (de_and (de_call c_p_is_whole hr tk (da_cons (de_var 2) (da_cons (de_int) (da_cons (de_glob (v := .int 9) T.g_MOST_PIECES.choose_spec ⟨_, rfl⟩ (fun _ => .int 9)) (da_nil))))) (de_one (de_call c_p_is_whole hr tk (da_cons (de_var 3) (da_cons (de_int) (da_cons (de_sub (de_var 2) (de_int)) (da_nil)))))))))
def n_p_are_pairs : List Str := ["wants", "pair"]
theorem sc_p_are_pairs : FnScope n_p_are_pairs ["wants"] (defScope s_p_are_pairs) := ⟨rfl, rfl, rfl, by decide +kernel, rfl, by decide +kernel, by decide +kernel⟩
def h_p_are_pairs_1 : EE :=
  eCall (eCons (eVar 1) (eNil)) F_p_is_pair
def f_p_are_pairs : Sl → Out :=
  sRet (eAndV (eCall (eCons (eVar 0) (eCons (eC (.raw (.ty "tuple"))) (eNil))) D.isi) (eAllG (eItems (eVar 0)) (h_p_are_pairs_1)))
def F_p_are_pairs : List D → Res D := fnSem 2 f_p_are_pairs
theorem ok_p_are_pairs (T : Fx P w K mg base tb) {f : Addr} {fd : FuncData} (F : FunD K "are_pairs" "are_pairs" (defArgs s_p_are_pairs) (defBody s_p_are_pairs) (defScope s_p_are_pairs) [] [] f fd) (HT : HasTab base mg tb fd.code) (c_p_is_pair : Callee P w K mg base tb "is_pair" 1 1 false F_p_is_pair) : FnOk P w K mg base (L2.CX P w) 3 f fd ["wants"] (SpF K mg tb 1 false F_p_are_pairs) :=
  fn_ok (N := n_p_are_pairs) F sc_p_are_pairs (O' := []) fun cdv hcd A outer s H E hr nd tk hp =>
    dss_one (ds_ret (de_and (de_isi T.z_isinstance (da_cons (de_var 0) (da_cons (de_ty T.z_tuple) (da_nil)))) (de_one (de_allG (k := 1) (hcd ▸ HT) hr T.z_all (di_any (de_var 0)) (gScp_of rfl rfl (by decide +kernel) rfl rfl (by decide)) (fun _ _ _ _ _ _ hr2 => de_call c_p_is_pair hr2 takes_w0 (da_cons (de_var 1) (da_nil)))))))
def n_p_names_in : List Str := ["offer", "pair"]
theorem sc_p_names_in : FnScope n_p_names_in ["offer"] (defScope s_p_names_in) := ⟨rfl, rfl, rfl, by decide +kernel, rfl, by decide +kernel, by decide +kernel⟩
def g_p_names_in_1 : EE :=
  eBin D.ix (eVar 1) (eC (.int 0))
def f_p_names_in : Sl → Out :=
  sSeq (sIf (eTest (eBin D.eq (eBin D.ix (eVar 0) (eC (.int 0))) (eC (.str "set"))))
  (sRet (eIf (eTruth (eCall (eCons (eBin D.ix (eVar 0) (eC (.int 1))) (eNil)) F_p_are_pairs)) (eL (eLc (eItems (eBin D.ix (eVar 0) (eC (.int 1)))) (.one 1) [1] (eYes) (g_p_names_in_1))) (eL (eNil))))
  (sNext))
  (sSeq (sIf (eTest (eBin D.eq (eBin D.ix (eVar 0) (eC (.int 0))) (eC (.str "slip"))))
  (sRet (eL (eCons (eBin D.ix (eVar 0) (eC (.int 1))) (eCons (eBin D.ix (eVar 0) (eC (.int 2))) (eNil)))))
  (sNext))
  (sRet (eL (eCons (eBin D.ix (eVar 0) (eC (.int 1))) (eNil)))))
def F_p_names_in : List D → Res D := fnSem 2 f_p_names_in
theorem ok_p_names_in (T : Fx P w K mg base tb) {f : Addr} {fd : FuncData} (F : FunD K "names_in" "names_in" (defArgs s_p_names_in) (defBody s_p_names_in) (defScope s_p_names_in) [] [] f fd) (c_p_are_pairs : Callee P w K mg base tb "are_pairs" 3 1 false F_p_are_pairs) : FnOk P w K mg base (L2.CX P w) 4 f fd ["offer"] (SpF K mg tb 1 false F_p_names_in) :=
  fn_ok (N := n_p_names_in) F sc_p_names_in (O' := []) fun cdv hcd A outer s H E hr nd tk hp =>
    dss_cons (ds_if (dt_eq hr (de_ix (de_var 0) (de_int)) (de_str))
      (dss_one (ds_ret (de_if (dt_truth (de_call c_p_are_pairs hr tk (da_cons (de_ix (de_var 0) (de_int)) (da_nil)))) (de_ofL (dl_lcE (.one 1) rfl nd (di_any (de_ix (de_var 0) (de_int))) (blkOk_by (N := n_p_names_in) (sc := defScope s_p_names_in) (own := [("pair", 1)]) (by decide +kernel)) (by decide) (fun _ _ _ _ _ => (pg_one 1 nd)) (fun _ _ _ _ _ => bt_nil) (fun _ _ _ _ _ => de_ix (de_var 1) (de_int)))) (de_ofL (dl_lst (da_nil))))))
      (dss_nil))
      (dss_cons (ds_if (dt_eq hr (de_ix (de_var 0) (de_int)) (de_str))
      (dss_one (ds_ret (de_ofL (dl_lst (da_cons (de_ix (de_var 0) (de_int)) (da_cons (de_ix (de_var 0) (de_int)) (da_nil)))))))
      (dss_nil))
      (dss_one (ds_ret (de_ofL (dl_lst (da_cons (de_ix (de_var 0) (de_int)) (da_nil)))))))
def n_p_set_holds : List Str := ["offer", "_", "wants", "price", "pair"]
theorem sc_p_set_holds : FnScope n_p_set_holds ["offer"] (defScope s_p_set_holds) := ⟨rfl, rfl, rfl, by decide +kernel, rfl, by decide +kernel, by decide +kernel⟩
def h_p_set_holds_1 : EE :=
  eCall (eCons (eBin D.ix (eVar 1) (eC (.int 1))) (eCons (eC (.int 1)) (eCons (eC (.int 9)) (eNil)))) F_p_is_whole
def f_p_set_holds : Sl → Out :=
  sSeq (sTgt (.many [1, 2, 3]) (eVar 0))
  (sSeq (sIf (eOrB (eNotB (eTruth (eCall (eCons (eVar 2) (eNil)) F_p_are_pairs))) (eNotB (eTest (eChain D.le D.le (eC (.int 1)) (eCall (eCons (eVar 2) (eNil)) D.len) (eC (.int 5))))))
  (sRet (eC (.bl false)))
  (sNext))
  (sSeq (sIf (eNotB (eTruth (eAllG (eItems (eVar 2)) (h_p_set_holds_1))))
  (sRet (eC (.bl false)))
  (sNext))
  (sRet (eAndV (eBin D.eq (eUn D.lenSet (eCall (eCons (eVar 0) (eNil)) F_p_names_in)) (eCall (eCons (eVar 2) (eNil)) D.len)) (eCall (eCons (eVar 3) (eCons (eC (.int 0)) (eCons (eC (.int 100000)) (eNil)))) F_p_is_whole)))))
def F_p_set_holds : List D → Res D := fnSem 5 f_p_set_holds
theorem ok_p_set_holds (T : Fx P w K mg base tb) {f : Addr} {fd : FuncData} (F : FunD K "set_holds" "set_holds" (defArgs s_p_set_holds) (defBody s_p_set_holds) (defScope s_p_set_holds) [] [] f fd) (HT : HasTab base mg tb fd.code) (c_p_are_pairs : Callee P w K mg base tb "are_pairs" 3 1 false F_p_are_pairs) (c_p_is_whole : Callee P w K mg base tb "is_whole" 1 3 false F_p_is_whole) (c_p_names_in : Callee P w K mg base tb "names_in" 4 1 false F_p_names_in) : FnOk P w K mg base (L2.CX P w) 5 f fd ["offer"] (SpF K mg tb 1 false F_p_set_holds) :=
  fn_ok (N := n_p_set_holds) F sc_p_set_holds (O' := []) fun cdv hcd A outer s H E hr nd tk hp =>
    dss_cons (ds_tgt (.many [1, 2, 3]) (by decide) (by decide) (de_var 0) (pg_three 1 2 3 rfl nd))
      (dss_cons (ds_if (dt_bool (dw_or (dt_not (dt_truth (de_call c_p_are_pairs hr tk (da_cons (de_var 2) (da_nil))))) (dw_or1 (dt_not (dt_chain opr_le opr_le op2_le op2_le (de_int) (de_len T.z_len (da_cons (de_var 2) (da_nil))) (de_glob (v := .int 5) T.g_MOST_KINDS.choose_spec ⟨_, rfl⟩ (fun _ => .int 5)))))))
      (dss_one (ds_ret (de_bl)))
      (dss_nil))
      (dss_cons (ds_if (dt_not (dt_truth (de_allG (k := 3) (hcd ▸ HT) hr T.z_all (di_any (de_var 2)) (gScp_of rfl rfl (by decide +kernel) rfl rfl (by decide)) (fun _ _ _ _ _ _ hr2 => de_call c_p_is_whole hr2 takes_w0 (da_cons (de_ix (de_var 1) (de_int)) (da_cons (de_int) (da_cons (de_glob (v := .int 9) T.g_MOST_PIECES.choose_spec ⟨_, rfl⟩ (fun _ => .int 9)) (da_nil))))))))
      (dss_one (ds_ret (de_bl)))
      (dss_nil))
      (dss_one (ds_ret (de_and (de_eq hr (de_lenS rfl T.z_len T.z_set (de_call c_p_names_in hr tk (da_cons (de_var 0) (da_nil)))) (de_len T.z_len (da_cons (de_var 2) (da_nil)))) (de_one (de_call c_p_is_whole hr tk (da_cons (de_var 3) (da_cons (de_int) (da_cons (de_glob (v := .int 100000) T.g_HIGHEST_PRICE.choose_spec ⟨_, rfl⟩ (fun _ => .int 100000)) (da_nil)))))))))))
def n_p_share_holds : List Str := ["offer"]
theorem sc_p_share_holds : FnScope n_p_share_holds ["offer"] (defScope s_p_share_holds) := ⟨rfl, rfl, rfl, by decide +kernel, rfl, by decide +kernel, by decide +kernel⟩
def f_p_share_holds : Sl → Out :=
  sRet (eCall (eCons (eBin D.ix (eVar 0) (eC (.int 2))) (eCons (eC (.int 1)) (eCons (eC (.int 100)) (eNil)))) F_p_is_whole)
def F_p_share_holds : List D → Res D := fnSem 1 f_p_share_holds
theorem ok_p_share_holds (T : Fx P w K mg base tb) {f : Addr} {fd : FuncData} (F : FunD K "share_holds" "share_holds" (defArgs s_p_share_holds) (defBody s_p_share_holds) (defScope s_p_share_holds) [] [] f fd) (c_p_is_whole : Callee P w K mg base tb "is_whole" 1 3 false F_p_is_whole) : FnOk P w K mg base (L2.CX P w) 2 f fd ["offer"] (SpF K mg tb 1 false F_p_share_holds) :=
  fn_ok (N := n_p_share_holds) F sc_p_share_holds (O' := []) fun cdv hcd A outer s H E hr nd tk hp =>
    dss_one (ds_ret (de_call c_p_is_whole hr tk (da_cons (de_ix (de_var 0) (de_int)) (da_cons (de_int) (da_cons (de_int) (da_nil))))))
def n_p_slip_holds : List Str := ["offer", "_", "slip", "name", "off"]
theorem sc_p_slip_holds : FnScope n_p_slip_holds ["offer"] (defScope s_p_slip_holds) := ⟨rfl, rfl, rfl, by decide +kernel, rfl, by decide +kernel, by decide +kernel⟩
def f_p_slip_holds : Sl → Out :=
  sSeq (sTgt (.many [1, 2, 3, 4]) (eVar 0))
  (sRet (eAndV (eBin D.ne (eVar 2) (eVar 3)) (eCall (eCons (eVar 4) (eCons (eC (.int 1)) (eCons (eC (.int 100000)) (eNil)))) F_p_is_whole)))
def F_p_slip_holds : List D → Res D := fnSem 5 f_p_slip_holds
theorem ok_p_slip_holds (T : Fx P w K mg base tb) {f : Addr} {fd : FuncData} (F : FunD K "slip_holds" "slip_holds" (defArgs s_p_slip_holds) (defBody s_p_slip_holds) (defScope s_p_slip_holds) [] [] f fd) (c_p_is_whole : Callee P w K mg base tb "is_whole" 1 3 false F_p_is_whole) : FnOk P w K mg base (L2.CX P w) 2 f fd ["offer"] (SpF K mg tb 1 false F_p_slip_holds) :=
  fn_ok (N := n_p_slip_holds) F sc_p_slip_holds (O' := []) fun cdv hcd A outer s H E hr nd tk hp =>
    dss_cons (ds_tgt (.many [1, 2, 3, 4]) (by decide) (by decide) (de_var 0) (pg_four 1 2 3 4 rfl nd))
      (dss_one (ds_ret (de_and (de_ne hr (de_var 2) (de_var 3)) (de_one (de_call c_p_is_whole hr tk (da_cons (de_var 4) (da_cons (de_int) (da_cons (de_glob (v := .int 100000) T.g_HIGHEST_PRICE.choose_spec ⟨_, rfl⟩ (fun _ => .int 100000)) (da_nil)))))))))
def n_p_holds : List Str := ["offer", "check"]
theorem sc_p_holds : FnScope n_p_holds ["offer"] (defScope s_p_holds) := ⟨rfl, rfl, rfl, by decide +kernel, rfl, by decide +kernel, by decide +kernel⟩
def f_p_holds : Sl → Out :=
  sSeq (sSet 1 (eUn (ixG gdv_HOLDS) (eBin D.ix (eVar 0) (eC (.int 0)))))
  (sRet (eCallV 1 (eCons (eVar 0) (eNil)) [("more_holds", F_p_more_holds), ("set_holds", F_p_set_holds), ("share_holds", F_p_share_holds), ("slip_holds", F_p_slip_holds)]))
def F_p_holds : List D → Res D := fnSem 2 f_p_holds
theorem ok_p_holds (T : Fx P w K mg base tb) {f : Addr} {fd : FuncData} (F : FunD K "holds" "holds" (defArgs s_p_holds) (defBody s_p_holds) (defScope s_p_holds) [] [] f fd) (c_p_more_holds : Callee P w K mg base tb "more_holds" 2 1 false F_p_more_holds) (c_p_set_holds : Callee P w K mg base tb "set_holds" 5 1 false F_p_set_holds) (c_p_share_holds : Callee P w K mg base tb "share_holds" 2 1 false F_p_share_holds) (c_p_slip_holds : Callee P w K mg base tb "slip_holds" 2 1 false F_p_slip_holds) : FnOk P w K mg base (L2.CX P w) 6 f fd ["offer"] (SpF K mg tb 1 false F_p_holds) :=
  fn_ok (N := n_p_holds) F sc_p_holds (O' := []) fun cdv hcd A outer s H E hr nd tk hp =>
    dss_cons (ds_set (i := 1) (by decide) (by decide) nd (de_ixG T.gd_HOLDS (de_ix (de_var 0) (de_int))))
      (dss_one (ds_ret (de_callV (k := 5) 1 (tbl_cons c_p_more_holds T.gx_more_holds (tbl_cons c_p_set_holds T.gx_set_holds (tbl_cons c_p_share_holds T.gx_share_holds (tbl_cons c_p_slip_holds T.gx_slip_holds tbl_nil)))) hr (da_cons (de_var 0) (da_nil)))))
def n_p_is_formed : List Str := ["offer", "first"]
theorem sc_p_is_formed : FnScope n_p_is_formed ["offer"] (defScope s_p_is_formed) := ⟨rfl, rfl, rfl, by decide +kernel, rfl, by decide +kernel, by decide +kernel⟩
def f_p_is_formed : Sl → Out :=
  sSeq (sIf (eOrB (eNotB (eTruth (eCall (eCons (eVar 0) (eCons (eC (.raw (.ty "tuple"))) (eNil))) D.isi))) (eTest (eBin D.eq (eCall (eCons (eVar 0) (eNil)) D.len) (eC (.int 0)))))
  (sRet (eC (.bl false)))
  (sNext))
  (sSeq (sSet 1 (eBin D.ix (eVar 0) (eC (.int 0))))
  (sRet (eAndV (eCall (eCons (eVar 1) (eCons (eC (.raw (.ty "str"))) (eNil))) D.isi) (eAndV (eUn (inG gdv_PARTS) (eVar 1)) (eBin D.eq (eCall (eCons (eVar 0) (eNil)) D.len) (eUn (ixG gdv_PARTS) (eVar 1)))))))
def F_p_is_formed : List D → Res D := fnSem 2 f_p_is_formed
theorem ok_p_is_formed (T : Fx P w K mg base tb) {f : Addr} {fd : FuncData} (F : FunD K "is_formed" "is_formed" (defArgs s_p_is_formed) (defBody s_p_is_formed) (defScope s_p_is_formed) [] [] f fd)  : FnOk P w K mg base (L2.CX P w) 1 f fd ["offer"] (SpF K mg tb 1 false F_p_is_formed) :=
  fn_ok (N := n_p_is_formed) F sc_p_is_formed (O' := []) fun cdv hcd A outer s H E hr nd tk hp =>
    dss_cons (ds_if (dt_bool (dw_or (dt_not (dt_truth (de_isi T.z_isinstance (da_cons (de_var 0) (da_cons (de_ty T.z_tuple) (da_nil)))))) (dw_or1 (dt_eq hr (de_len T.z_len (da_cons (de_var 0) (da_nil))) (de_int)))))
      (dss_one (ds_ret (de_bl)))
      (dss_nil))
      (dss_cons (ds_set (i := 1) (by decide) (by decide) nd (de_ix (de_var 0) (de_int)))
      (dss_one (ds_ret (de_and (de_isi T.z_isinstance (da_cons (de_var 1) (da_cons (de_ty T.z_str) (da_nil)))) (de_and (de_inG T.gd_PARTS (de_var 1)) (de_one (de_eq hr (de_len T.z_len (da_cons (de_var 0) (da_nil))) (de_ixG T.gd_PARTS (de_var 1)))))))))
def n_p_need_offer : List Str := ["shop", "offer", "name"]
theorem sc_p_need_offer : FnScope n_p_need_offer ["shop", "offer"] (defScope s_p_need_offer) := ⟨rfl, rfl, rfl, by decide +kernel, rfl, by decide +kernel, by decide +kernel⟩
def b_p_need_offer_1 : Sl → Out :=
  sDrop (eMeth "Shop" "place" (eVar 0) (eCons (eVar 2) (eNil)) F_p_Shop_place)
def f_p_need_offer : Sl → Out :=
  sSeq (sIf (eNotB (eTruth (eCall (eCons (eVar 1) (eNil)) F_p_is_formed)))
  (sRaise "BadOffer")
  (sNext))
  (sSeq (sFor (eItems (eCall (eCons (eVar 1) (eNil)) F_p_names_in)) (.one 2)
  (b_p_need_offer_1))
  (sIf (eNotB (eTruth (eCall (eCons (eVar 1) (eNil)) F_p_holds)))
  (sRaise "BadOffer")
  (sNext)))
def F_p_need_offer : List D → Res D := fnSem 3 f_p_need_offer
theorem ok_p_need_offer (T : Fx P w K mg base tb) {f : Addr} {fd : FuncData} (F : FunD K "need_offer" "need_offer" (defArgs s_p_need_offer) (defBody s_p_need_offer) (defScope s_p_need_offer) [] [] f fd) (c_p_Shop_place : MCallee P w K mg base tb "Shop" "place" 1 2 false F_p_Shop_place) (c_p_holds : Callee P w K mg base tb "holds" 6 1 false F_p_holds) (c_p_is_formed : Callee P w K mg base tb "is_formed" 1 1 false F_p_is_formed) (c_p_names_in : Callee P w K mg base tb "names_in" 4 1 false F_p_names_in) : FnOk P w K mg base (L2.CX P w) 7 f fd ["shop", "offer"] (SpF K mg tb 2 false F_p_need_offer) :=
  fn_ok (N := n_p_need_offer) F sc_p_need_offer (O' := []) fun cdv hcd A outer s H E hr nd tk hp =>
    dss_cons (ds_if (dt_not (dt_truth (de_call c_p_is_formed hr tk (da_cons (de_var 1) (da_nil)))))
      (dss_one (ds_raise T.xd_BadOffer rfl tk))
      (dss_nil))
      (dss_cons (ds_for (.one 2) (by decide) (by decide) hp rfl (di_any (de_call c_p_names_in hr tk (da_cons (de_var 1) (da_nil)))) (pg_one 2 nd)
      (dss_one (ds_drop (de_meth c_p_Shop_place hr tk (de_var 0) (da_cons (de_var 2) (da_nil))))))
      (dss_one (ds_if (dt_not (dt_truth (de_call c_p_holds hr tk (da_cons (de_var 1) (da_nil)))))
      (dss_one (ds_raise T.xd_BadOffer rfl tk))
      (dss_nil))))
def n_p_price_of : List Str := ["shop", "offer", "price"]
theorem sc_p_price_of : FnScope n_p_price_of ["shop", "offer"] (defScope s_p_price_of) := ⟨rfl, rfl, rfl, by decide +kernel, rfl, by decide +kernel, by decide +kernel⟩
def f_p_price_of : Sl → Out :=
  sSeq (sIf (eTest (eBin D.eq (eBin D.ix (eVar 1) (eC (.int 0))) (eC (.str "set"))))
  (sRet (eBin D.ix (eVar 1) (eC (.int 2))))
  (sNext))
  (sSeq (sSet 2 (eBin D.ix (eUn (D.fld "Shop" "prices") (eVar 0)) (eMeth "Shop" "place" (eVar 0) (eCons (eBin D.ix (eCall (eCons (eVar 1) (eNil)) F_p_names_in) (eUn D.neg (eC (.int 1)))) (eNil)) F_p_Shop_place)))
  (sSeq (sIf (eTest (eBin D.eq (eBin D.ix (eVar 1) (eC (.int 0))) (eC (.str "more"))))
  (sRet (eBin D.mul (eVar 2) (eBin D.ix (eVar 1) (eC (.int 3)))))
  (sNext))
  (sSeq (sIf (eTest (eBin D.eq (eBin D.ix (eVar 1) (eC (.int 0))) (eC (.str "share"))))
  (sRet (eBin D.sub (eVar 2) (eBin D.fdiv (eBin D.mul (eVar 2) (eBin D.ix (eVar 1) (eC (.int 2)))) (eC (.int 100)))))
  (sNext))
  (sRet (eCall (eCons (eC (.int 0)) (eCons (eBin D.sub (eVar 2) (eBin D.ix (eVar 1) (eC (.int 3)))) (eNil))) D.max2)))))
def F_p_price_of : List D → Res D := fnSem 3 f_p_price_of
theorem ok_p_price_of (T : Fx P w K mg base tb) {f : Addr} {fd : FuncData} (F : FunD K "price_of" "price_of" (defArgs s_p_price_of) (defBody s_p_price_of) (defScope s_p_price_of) [] [] f fd) (c_p_Shop_place : MCallee P w K mg base tb "Shop" "place" 1 2 false F_p_Shop_place) (c_p_names_in : Callee P w K mg base tb "names_in" 4 1 false F_p_names_in) : FnOk P w K mg base (L2.CX P w) 5 f fd ["shop", "offer"] (SpF K mg tb 2 false F_p_price_of) :=
  fn_ok (N := n_p_price_of) F sc_p_price_of (O' := []) fun cdv hcd A outer s H E hr nd tk hp =>
    dss_cons (ds_if (dt_eq hr (de_ix (de_var 1) (de_int)) (de_str))
      (dss_one (ds_ret (de_ix (de_var 1) (de_int))))
      (dss_nil))
      (dss_cons (ds_set (i := 2) (by decide) (by decide) nd (de_ix (de_fld (C0 := "Shop") (de_var 0) T.ci_Shop.cl T.na_Shop_prices) (de_meth c_p_Shop_place hr tk (de_var 0) (da_cons (de_ix (de_call c_p_names_in hr tk (da_cons (de_var 1) (da_nil))) (de_neg (de_int))) (da_nil)))))
      (dss_cons (ds_if (dt_eq hr (de_ix (de_var 1) (de_int)) (de_str))
      (dss_one (ds_ret (de_mul (de_var 2) (de_ix (de_var 1) (de_int)))))
      (dss_nil))
      (dss_cons (ds_if (dt_eq hr (de_ix (de_var 1) (de_int)) (de_str))
      (dss_one (ds_ret (de_sub (de_var 2) (de_fdiv (de_mul (de_var 2) (de_ix (de_var 1) (de_int))) (de_int)))))
      (dss_nil))
      (dss_one (ds_ret (de_max2 rfl T.z_max (da_cons (de_int) (da_cons (de_sub (de_var 2) (de_ix (de_var 1) (de_int))) (da_nil)))))))))
def n_p_wanted_by : List Str := ["offer", "name"]
theorem sc_p_wanted_by : FnScope n_p_wanted_by ["offer"] (defScope s_p_wanted_by) := ⟨rfl, rfl, rfl, by decide +kernel, rfl, by decide +kernel, by decide +kernel⟩
def f_p_wanted_by : Sl → Out :=
  sSeq (sIf (eTest (eBin D.eq (eBin D.ix (eVar 0) (eC (.int 0))) (eC (.str "set"))))
  (sRet (eCall (eCons (eBin D.ix (eVar 0) (eC (.int 1))) (eNil)) D.dictOf))
  (sNext))
  (sSeq (sIf (eTest (eBin D.eq (eBin D.ix (eVar 0) (eC (.int 0))) (eC (.str "more"))))
  (sRet (eDict1 (eBin D.ix (eVar 0) (eC (.int 1))) (eBin D.ix (eVar 0) (eC (.int 2)))))
  (sNext))
  (sRet (eDc (eItems (eCall (eCons (eVar 0) (eNil)) F_p_names_in)) (.one 1) [1] (eVar 1) (eC (.int 1)))))
def F_p_wanted_by : List D → Res D := fnSem 2 f_p_wanted_by
theorem ok_p_wanted_by (T : Fx P w K mg base tb) {f : Addr} {fd : FuncData} (F : FunD K "wanted_by" "wanted_by" (defArgs s_p_wanted_by) (defBody s_p_wanted_by) (defScope s_p_wanted_by) [] [] f fd) (c_p_names_in : Callee P w K mg base tb "names_in" 4 1 false F_p_names_in) : FnOk P w K mg base (L2.CX P w) 5 f fd ["offer"] (SpF K mg tb 1 false F_p_wanted_by) :=
  fn_ok (N := n_p_wanted_by) F sc_p_wanted_by (O' := []) fun cdv hcd A outer s H E hr nd tk hp =>
    dss_cons (ds_if (dt_eq hr (de_ix (de_var 0) (de_int)) (de_str))
      (dss_one (ds_ret (de_dictN rfl T.z_dict (da_cons (de_ix (de_var 0) (de_int)) (da_nil)))))
      (dss_nil))
      (dss_cons (ds_if (dt_eq hr (de_ix (de_var 0) (de_int)) (de_str))
      (dss_one (ds_ret (de_dict1 (de_ix (de_var 0) (de_int)) (de_ix (de_var 0) (de_int)))))
      (dss_nil))
      (dss_one (ds_ret (de_dc (.one 1) (vs := [1]) rfl rfl nd (di_any (de_call c_p_names_in hr tk (da_cons (de_var 0) (da_nil)))) (blkOk_by (N := n_p_wanted_by) (sc := defScope s_p_wanted_by) (own := [("name", 1)]) (by decide +kernel)) (by decide) (fun _ _ _ _ _ => (pg_one 1 nd)) (fun _ _ _ _ _ => de_var 1) (fun _ _ _ _ _ => de_int)))))
def n_p_deal_of : List Str := ["shop", "offer", "wanted", "name"]
theorem sc_p_deal_of : FnScope n_p_deal_of ["shop", "offer"] (defScope s_p_deal_of) := ⟨rfl, rfl, rfl, by decide +kernel, rfl, by decide +kernel, by decide +kernel⟩
def g_p_deal_of_1 : EE :=
  eGet2 (eVar 2) (eVar 3) (eC (.int 0))
def f_p_deal_of : Sl → Out :=
  sSeq (sDrop (eCall (eCons (eVar 0) (eCons (eVar 1) (eNil))) F_p_need_offer))
  (sSeq (sSet 2 (eCall (eCons (eVar 1) (eNil)) F_p_wanted_by))
  (sRet (eTup (eCons (eCall (eCons (eL (eLc (eItems (eUn (D.fld "Shop" "names") (eVar 0))) (.one 3) [3] (eYes) (g_p_deal_of_1))) (eNil)) D.tupOf) (eCons (eCall (eCons (eVar 0) (eCons (eVar 1) (eNil))) F_p_price_of) (eNil))))))
def F_p_deal_of : List D → Res D := fnSem 4 f_p_deal_of
theorem ok_p_deal_of (T : Fx P w K mg base tb) {f : Addr} {fd : FuncData} (F : FunD K "deal_of" "deal_of" (defArgs s_p_deal_of) (defBody s_p_deal_of) (defScope s_p_deal_of) [] [] f fd) (c_p_need_offer : Callee P w K mg base tb "need_offer" 7 2 false F_p_need_offer) (c_p_price_of : Callee P w K mg base tb "price_of" 5 2 false F_p_price_of) (c_p_wanted_by : Callee P w K mg base tb "wanted_by" 5 1 false F_p_wanted_by) : FnOk P w K mg base (L2.CX P w) 8 f fd ["shop", "offer"] (SpF K mg tb 2 false F_p_deal_of) :=
  fn_ok (N := n_p_deal_of) F sc_p_deal_of (O' := []) fun cdv hcd A outer s H E hr nd tk hp =>
    dss_cons (ds_drop (de_call c_p_need_offer hr tk (da_cons (de_var 0) (da_cons (de_var 1) (da_nil)))))
      (dss_cons (ds_set (i := 2) (by decide) (by decide) nd (de_call c_p_wanted_by hr tk (da_cons (de_var 1) (da_nil))))
      (dss_one (ds_ret (de_tup (da_cons (de_tuple T.z_tuple (da_cons (de_ofL (dl_lcE (.one 3) rfl nd (di_any (de_fld (C0 := "Shop") (de_var 0) T.ci_Shop.cl T.na_Shop_names)) (blkOk_by (N := n_p_deal_of) (sc := defScope s_p_deal_of) (own := [("name", 3)]) (by decide +kernel)) (by decide) (fun _ _ _ _ _ => (pg_one 3 nd)) (fun _ _ _ _ _ => bt_nil) (fun _ _ _ _ _ => de_get2 hr (de_var 2) (de_var 3) (de_int)))) (da_nil))) (da_cons (de_call c_p_price_of hr tk (da_cons (de_var 0) (da_cons (de_var 1) (da_nil)))) (da_nil)))))))
def n_p_plain_deal : List Str := ["shop", "place", "at"]
theorem sc_p_plain_deal : FnScope n_p_plain_deal ["shop", "place"] (defScope s_p_plain_deal) := ⟨rfl, rfl, rfl, by decide +kernel, rfl, by decide +kernel, by decide +kernel⟩
def g_p_plain_deal_1 : EE :=
  eIf (eTest (eBin D.eq (eVar 2) (eVar 1))) (eC (.int 1)) (eC (.int 0))
def f_p_plain_deal : Sl → Out :=
  sRet (eTup (eCons (eCall (eCons (eL (eLc (eCallL (eCons (eCall (eCons (eUn (D.fld "Shop" "names") (eVar 0)) (eNil)) D.len) (eNil)) D.rng1) (.one 2) [2] (eYes) (g_p_plain_deal_1))) (eNil)) D.tupOf) (eCons (eBin D.ix (eUn (D.fld "Shop" "prices") (eVar 0)) (eVar 1)) (eNil))))
def F_p_plain_deal : List D → Res D := fnSem 3 f_p_plain_deal
theorem ok_p_plain_deal (T : Fx P w K mg base tb) {f : Addr} {fd : FuncData} (F : FunD K "plain_deal" "plain_deal" (defArgs s_p_plain_deal) (defBody s_p_plain_deal) (defScope s_p_plain_deal) [] [] f fd)  : FnOk P w K mg base (L2.CX P w) 1 f fd ["shop", "place"] (SpF K mg tb 2 false F_p_plain_deal) :=
  fn_ok (N := n_p_plain_deal) F sc_p_plain_deal (O' := []) fun cdv hcd A outer s H E hr nd tk hp =>
    dss_one (ds_ret (de_tup (da_cons (de_tuple T.z_tuple (da_cons (de_ofL (dl_lcE (.one 2) rfl nd (di_range1 T.z_range (da_cons (de_len T.z_len (da_cons (de_fld (C0 := "Shop") (de_var 0) T.ci_Shop.cl T.na_Shop_names) (da_nil))) (da_nil))) (blkOk_by (N := n_p_plain_deal) (sc := defScope s_p_plain_deal) (own := [("at", 2)]) (by decide +kernel)) (by decide) (fun _ _ _ _ _ => (pg_one 2 nd)) (fun _ _ _ _ _ => bt_nil) (fun _ _ _ _ _ => de_if (dt_eq hr (de_var 2) (de_var 1)) (de_int) (de_int)))) (da_nil))) (da_cons (de_ix (de_fld (C0 := "Shop") (de_var 0) T.ci_Shop.cl T.na_Shop_prices) (de_var 1)) (da_nil)))))
def n_p_deals : List Str := ["shop", "offers", "plain", "place", "offer"]
theorem sc_p_deals : FnScope n_p_deals ["shop", "offers"] (defScope s_p_deals) := ⟨rfl, rfl, rfl, by decide +kernel, rfl, by decide +kernel, by decide +kernel⟩
def g_p_deals_1 : EE :=
  eCall (eCons (eVar 0) (eCons (eVar 3) (eNil))) F_p_plain_deal
def g_p_deals_2 : EE :=
  eCall (eCons (eVar 0) (eCons (eVar 4) (eNil))) F_p_deal_of
def f_p_deals : Sl → Out :=
  sSeq (sOwn 2 (eLc (eCallL (eCons (eCall (eCons (eUn (D.fld "Shop" "names") (eVar 0)) (eNil)) D.len) (eNil)) D.rng1) (.one 3) [3] (eYes) (g_p_deals_1)))
  (sRet (eBin D.add (eVar 2) (eL (eLc (eItems (eVar 1)) (.one 4) [4] (eYes) (g_p_deals_2)))))
def F_p_deals : List D → Res D := fnSem 5 f_p_deals
theorem ok_p_deals (T : Fx P w K mg base tb) {f : Addr} {fd : FuncData} (F : FunD K "deals" "deals" (defArgs s_p_deals) (defBody s_p_deals) (defScope s_p_deals) [] [] f fd) (c_p_deal_of : Callee P w K mg base tb "deal_of" 8 2 false F_p_deal_of) (c_p_plain_deal : Callee P w K mg base tb "plain_deal" 1 2 false F_p_plain_deal) : FnOk P w K mg base (L2.CX P w) 9 f fd ["shop", "offers"] (SpF K mg tb 2 false F_p_deals) :=
  fn_ok (N := n_p_deals) F sc_p_deals (O' := []) fun cdv hcd A outer s H E hr nd tk hp =>
    dss_cons (ds_post (O1 := [2]) (O' := []) (by decide) (ds_ownLcE (i := 2) (.one 3) (by decide) (by decide) rfl nd (di_range1 T.z_range (da_cons (de_len T.z_len (da_cons (de_fld (C0 := "Shop") (de_var 0) T.ci_Shop.cl T.na_Shop_names) (da_nil))) (da_nil))) (blkOk_by (N := n_p_deals) (sc := defScope s_p_deals) (own := [("place", 3)]) (by decide +kernel)) (by decide) (fun _ _ _ _ _ => (pg_one 3 nd)) (fun _ _ _ _ _ => bt_nil) (fun _ _ _ _ _ => de_call c_p_plain_deal hr takes_w0 (da_cons (de_var 0) (da_cons (de_var 3) (da_nil))))))
      (dss_one (ds_ret (de_add (de_var 2) (de_ofL (dl_lcE (.one 4) rfl nd (di_any (de_var 1)) (blkOk_by (N := n_p_deals) (sc := defScope s_p_deals) (own := [("offer", 4)]) (by decide +kernel)) (by decide) (fun _ _ _ _ _ => (pg_one 4 nd)) (fun _ _ _ _ _ => bt_nil) (fun _ _ _ _ _ => de_call c_p_deal_of hr takes_w0 (da_cons (de_var 0) (da_cons (de_var 4) (da_nil)))))))))
def n_p_is_basket : List Str := ["shop", "basket", "count"]
theorem sc_p_is_basket : FnScope n_p_is_basket ["shop", "basket"] (defScope s_p_is_basket) := ⟨rfl, rfl, rfl, by decide +kernel, rfl, by decide +kernel, by decide +kernel⟩
def h_p_is_basket_1 : EE :=
  eCall (eCons (eVar 1) (eCons (eC (.int 0)) (eCons (eC (.int 9)) (eNil)))) F_p_is_whole
def f_p_is_basket : Sl → Out :=
  sSeq (sIf (eOrB (eNotB (eTruth (eCall (eCons (eVar 1) (eCons (eC (.raw (.ty "list"))) (eNil))) D.isi))) (eTest (eBin D.ne (eCall (eCons (eVar 1) (eNil)) D.len) (eCall (eCons (eUn (D.fld "Shop" "names") (eVar 0)) (eNil)) D.len))))
  (sRet (eC (.bl false)))
  (sNext))
  (sRet (eAllG (eItems (eVar 1)) (h_p_is_basket_1)))
def F_p_is_basket : List D → Res D := fnSem 3 f_p_is_basket
theorem ok_p_is_basket (T : Fx P w K mg base tb) {f : Addr} {fd : FuncData} (F : FunD K "is_basket" "is_basket" (defArgs s_p_is_basket) (defBody s_p_is_basket) (defScope s_p_is_basket) [] [] f fd) (HT : HasTab base mg tb fd.code) (c_p_is_whole : Callee P w K mg base tb "is_whole" 1 3 false F_p_is_whole) : FnOk P w K mg base (L2.CX P w) 3 f fd ["shop", "basket"] (SpF K mg tb 2 false F_p_is_basket) :=
  fn_ok (N := n_p_is_basket) F sc_p_is_basket (O' := []) fun cdv hcd A outer s H E hr nd tk hp =>
    dss_cons (ds_if (dt_bool (dw_or (dt_not (dt_truth (de_isi T.z_isinstance (da_cons (de_var 1) (da_cons (de_ty T.z_list) (da_nil)))))) (dw_or1 (dt_ne hr (de_len T.z_len (da_cons (de_var 1) (da_nil))) (de_len T.z_len (da_cons (de_fld (C0 := "Shop") (de_var 0) T.ci_Shop.cl T.na_Shop_names) (da_nil)))))))
      (dss_one (ds_ret (de_bl)))
      (dss_nil))
      (dss_one (ds_ret (de_allG (k := 1) (hcd ▸ HT) hr T.z_all (di_any (de_var 1)) (gScp_of rfl rfl (by decide +kernel) rfl rfl (by decide)) (fun _ _ _ _ _ _ hr2 => de_call c_p_is_whole hr2 takes_w0 (da_cons (de_var 1) (da_cons (de_int) (da_cons (de_glob (v := .int 9) T.g_MOST_PIECES.choose_spec ⟨_, rfl⟩ (fun _ => .int 9)) (da_nil))))))))
def n_p_within : List Str := ["basket", "many", "count"]
theorem sc_p_within : FnScope n_p_within ["basket"] (defScope s_p_within) := ⟨rfl, rfl, rfl, by decide +kernel, rfl, by decide +kernel, by decide +kernel⟩
def b_p_within_1 : Sl → Out :=
  sAug 1 D.mul (eBin D.add (eVar 2) (eC (.int 1)))
def f_p_within : Sl → Out :=
  sSeq (sSet 1 (eC (.int 1)))
  (sSeq (sFor (eItems (eVar 0)) (.one 2)
  (b_p_within_1))
  (sRet (eVar 1)))
def F_p_within : List D → Res D := fnSem 3 f_p_within
theorem ok_p_within (T : Fx P w K mg base tb) {f : Addr} {fd : FuncData} (F : FunD K "within" "within" (defArgs s_p_within) (defBody s_p_within) (defScope s_p_within) [] [] f fd)  : FnOk P w K mg base (L2.CX P w) 1 f fd ["basket"] (SpF K mg tb 1 false F_p_within) :=
  fn_ok (N := n_p_within) F sc_p_within (O' := []) fun cdv hcd A outer s H E hr nd tk hp =>
    dss_cons (ds_set (i := 1) (by decide) (by decide) nd (de_int))
      (dss_cons (ds_for (.one 2) (by decide) (by decide) hp rfl (di_any (de_var 0)) (pg_one 2 nd)
      (dss_one (ds_aug (i := 1) iop_mul op2_mul (by decide) nd (de_add (de_var 2) (de_int)))))
      (dss_one (ds_ret (de_var 1))))
def n_p_need_basket : List Str := ["shop", "basket"]
theorem sc_p_need_basket : FnScope n_p_need_basket ["shop", "basket"] (defScope s_p_need_basket) := ⟨rfl, rfl, rfl, by decide +kernel, rfl, by decide +kernel, by decide +kernel⟩
def f_p_need_basket : Sl → Out :=
  sSeq (sIf (eNotB (eTruth (eCall (eCons (eVar 0) (eCons (eVar 1) (eNil))) F_p_is_basket)))
  (sRaise "BadBasket")
  (sNext))
  (sIf (eTest (eBin D.gt (eCall (eCons (eVar 1) (eNil)) F_p_within) (eC (.int 300))))
  (sRaise "TooMany")
  (sNext))
def F_p_need_basket : List D → Res D := fnSem 2 f_p_need_basket
theorem ok_p_need_basket (T : Fx P w K mg base tb) {f : Addr} {fd : FuncData} (F : FunD K "need_basket" "need_basket" (defArgs s_p_need_basket) (defBody s_p_need_basket) (defScope s_p_need_basket) [] [] f fd) (c_p_is_basket : Callee P w K mg base tb "is_basket" 3 2 false F_p_is_basket) (c_p_within : Callee P w K mg base tb "within" 1 1 false F_p_within) : FnOk P w K mg base (L2.CX P w) 4 f fd ["shop", "basket"] (SpF K mg tb 2 false F_p_need_basket) :=
  fn_ok (N := n_p_need_basket) F sc_p_need_basket (O' := []) fun cdv hcd A outer s H E hr nd tk hp =>
    dss_cons (ds_if (dt_not (dt_truth (de_call c_p_is_basket hr tk (da_cons (de_var 0) (da_cons (de_var 1) (da_nil))))))
      (dss_one (ds_raise T.xd_BadBasket rfl tk))
      (dss_nil))
      (dss_one (ds_if (dt_gt (de_call c_p_within hr tk (da_cons (de_var 1) (da_nil))) (de_glob (v := .int 300) T.g_MOST.choose_spec ⟨_, rfl⟩ (fun _ => .int 300)))
      (dss_one (ds_raise T.xd_TooMany rfl tk))
      (dss_nil)))
def n_p_counts_of : List Str := ["basket", "number", "counts", "rest", "most"]
theorem sc_p_counts_of : FnScope n_p_counts_of ["basket", "number"] (defScope s_p_counts_of) := ⟨rfl, rfl, rfl, by decide +kernel, rfl, by decide +kernel, by decide +kernel⟩
def b_p_counts_of_1 : Sl → Out :=
  sSeq (sApp 2 (eBin D.mod (eVar 3) (eBin D.add (eVar 4) (eC (.int 1)))))
  (sAug 3 D.fdiv (eBin D.add (eVar 4) (eC (.int 1))))
def f_p_counts_of : Sl → Out :=
  sSeq (sOwn 2 (eNil))
  (sSeq (sSet 3 (eVar 1))
  (sSeq (sFor (eItems (eVar 0)) (.one 4)
  (b_p_counts_of_1))
  (sRet (eVar 2))))
def F_p_counts_of : List D → Res D := fnSem 5 f_p_counts_of
theorem ok_p_counts_of (T : Fx P w K mg base tb) {f : Addr} {fd : FuncData} (F : FunD K "counts_of" "counts_of" (defArgs s_p_counts_of) (defBody s_p_counts_of) (defScope s_p_counts_of) [] [] f fd)  : FnOk P w K mg base (L2.CX P w) 1 f fd ["basket", "number"] (SpF K mg tb 2 false F_p_counts_of) :=
  fn_ok (N := n_p_counts_of) F sc_p_counts_of (O' := []) fun cdv hcd A outer s H E hr nd tk hp =>
    dss_cons (ds_own (i := 2) (by decide) (by decide) nd (dl_lst (da_nil)))
      (dss_cons (ds_set (i := 3) (by decide) (by decide) nd (de_var 1))
      (dss_cons (ds_for (.one 4) (by decide) (by decide) hp rfl (di_any (de_var 0)) (pg_one 4 nd)
      (dss_cons (ds_app (i := 2) (by decide) (by decide) (de_mod (de_var 3) (de_add (de_var 4) (de_int))))
      (dss_one (ds_aug (i := 3) iop_fdiv op2_fdiv (by decide) nd (de_add (de_var 4) (de_int))))))
      (dss_one (ds_ret (de_var 2)))))
def n_p_has_pieces : List Str := ["basket", "wants", "many", "count"]
theorem sc_p_has_pieces : FnScope n_p_has_pieces ["basket", "wants"] (defScope s_p_has_pieces) := ⟨rfl, rfl, rfl, by decide +kernel, rfl, by decide +kernel, by decide +kernel⟩
def g_p_has_pieces_1 : EE :=
  eBin D.le (eVar 2) (eVar 3)
def f_p_has_pieces : Sl → Out :=
  sRet (eCall (eCons (eL (eLc (eCallL (eCons (eVar 1) (eCons (eVar 0) (eNil))) D.zipM) (.two 2 3) [2, 3] (eYes) (g_p_has_pieces_1))) (eNil)) D.allBs)
def F_p_has_pieces : List D → Res D := fnSem 4 f_p_has_pieces
theorem ok_p_has_pieces (T : Fx P w K mg base tb) {f : Addr} {fd : FuncData} (F : FunD K "has_pieces" "has_pieces" (defArgs s_p_has_pieces) (defBody s_p_has_pieces) (defScope s_p_has_pieces) [] [] f fd)  : FnOk P w K mg base (L2.CX P w) 1 f fd ["basket", "wants"] (SpF K mg tb 2 false F_p_has_pieces) :=
  fn_ok (N := n_p_has_pieces) F sc_p_has_pieces (O' := []) fun cdv hcd A outer s H E hr nd tk hp =>
    dss_one (ds_ret (de_allBs rfl T.z_all (da_cons (de_ofL (dl_lcE (.two 2 3) rfl nd (di_zipM T.z_zip (da_cons (de_var 1) (da_cons (de_var 0) (da_nil)))) (blkOk_by (N := n_p_has_pieces) (sc := defScope s_p_has_pieces) (own := [("many", 2), ("count", 3)]) (by decide +kernel)) (by decide) (fun _ _ _ _ _ => (pg_two 2 3 rfl nd)) (fun _ _ _ _ _ => bt_nil) (fun _ _ _ _ _ => de_le (de_var 2) (de_var 3)))) (da_nil))))
def n_p_number_of : List Str := ["basket", "inner", "number", "step", "most", "count"]
theorem sc_p_number_of : FnScope n_p_number_of ["basket", "inner"] (defScope s_p_number_of) := ⟨rfl, rfl, rfl, by decide +kernel, rfl, by decide +kernel, by decide +kernel⟩
def b_p_number_of_1 : Sl → Out :=
  sSeq (sAug 2 D.iadd (eBin D.mul (eVar 5) (eVar 3)))
  (sAug 3 D.mul (eBin D.add (eVar 4) (eC (.int 1))))
def f_p_number_of : Sl → Out :=
  sSeq (sSet 2 (eC (.int 0)))
  (sSeq (sSet 3 (eC (.int 1)))
  (sSeq (sFor (eCallL (eCons (eVar 0) (eCons (eVar 1) (eNil))) D.zipM) (.two 4 5)
  (b_p_number_of_1))
  (sRet (eVar 2))))
def F_p_number_of : List D → Res D := fnSem 6 f_p_number_of
theorem ok_p_number_of (T : Fx P w K mg base tb) {f : Addr} {fd : FuncData} (F : FunD K "number_of" "number_of" (defArgs s_p_number_of) (defBody s_p_number_of) (defScope s_p_number_of) [] [] f fd)  : FnOk P w K mg base (L2.CX P w) 1 f fd ["basket", "inner"] (SpF K mg tb 2 false F_p_number_of) :=
  fn_ok (N := n_p_number_of) F sc_p_number_of (O' := []) fun cdv hcd A outer s H E hr nd tk hp =>
    dss_cons (ds_set (i := 2) (by decide) (by decide) nd (de_int))
      (dss_cons (ds_set (i := 3) (by decide) (by decide) nd (de_int))
      (dss_cons (ds_for (.two 4 5) (by decide) (by decide) hp rfl (di_zipM T.z_zip (da_cons (de_var 0) (da_cons (de_var 1) (da_nil)))) (pg_two 4 5 rfl nd)
      (dss_cons (ds_aug (i := 2) iop2_add op2_iadd (by decide) nd (de_mul (de_var 5) (de_var 3)))
      (dss_one (ds_aug (i := 3) iop_mul op2_mul (by decide) nd (de_add (de_var 4) (de_int))))))
      (dss_one (ds_ret (de_var 2)))))
def n_p_usable_deals : List Str := ["basket", "choices", "place", "wants", "price"]
theorem sc_p_usable_deals : FnScope n_p_usable_deals ["basket", "choices"] (defScope s_p_usable_deals) := ⟨rfl, rfl, rfl, by decide +kernel, rfl, by decide +kernel, by decide +kernel⟩
def g_p_usable_deals_1 : EE :=
  eTup (eCons (eVar 2) (eCons (eVar 3) (eCons (eVar 4) (eCons (eCall (eCons (eVar 0) (eCons (eVar 3) (eNil))) F_p_number_of) (eNil)))))
def t_p_usable_deals_1 : EB :=
  eTruth (eCall (eCons (eVar 0) (eCons (eVar 3) (eNil))) F_p_has_pieces)
def f_p_usable_deals : Sl → Out :=
  sRet (eL (eLc (eCallL (eCons (eVar 1) (eNil)) D.enm) (.nest 2 3 4) [2, 3, 4] (t_p_usable_deals_1) (g_p_usable_deals_1)))
def F_p_usable_deals : List D → Res D := fnSem 5 f_p_usable_deals
theorem ok_p_usable_deals (T : Fx P w K mg base tb) {f : Addr} {fd : FuncData} (F : FunD K "usable_deals" "usable_deals" (defArgs s_p_usable_deals) (defBody s_p_usable_deals) (defScope s_p_usable_deals) [] [] f fd) (c_p_has_pieces : Callee P w K mg base tb "has_pieces" 1 2 false F_p_has_pieces) (c_p_number_of : Callee P w K mg base tb "number_of" 1 2 false F_p_number_of) : FnOk P w K mg base (L2.CX P w) 2 f fd ["basket", "choices"] (SpF K mg tb 2 false F_p_usable_deals) :=
  fn_ok (N := n_p_usable_deals) F sc_p_usable_deals (O' := []) fun cdv hcd A outer s H E hr nd tk hp =>
    dss_one (ds_ret (de_ofL (dl_lcE (.nest 2 3 4) rfl nd (di_enum T.z_enumerate (da_cons (de_var 1) (da_nil))) (blkOk_by (N := n_p_usable_deals) (sc := defScope s_p_usable_deals) (own := [("place", 2), ("wants", 3), ("price", 4)]) (by decide +kernel)) (by decide) (fun _ _ _ _ _ => (pg_nest 2 3 4 rfl nd)) (fun _ _ _ _ _ => bt_one (dt_truth (de_call c_p_has_pieces hr takes_w0 (da_cons (de_var 0) (da_cons (de_var 3) (da_nil)))))) (fun _ _ _ _ _ => de_tup (da_cons (de_var 2) (da_cons (de_var 3) (da_cons (de_var 4) (da_cons (de_call c_p_number_of hr takes_w0 (da_cons (de_var 0) (da_cons (de_var 3) (da_nil)))) (da_nil)))))))))
def n_p_reach : List Str := ["basket", "choices", "usable", "reached", "number", "inner", "place", "wants", "price", "step"]
theorem sc_p_reach : FnScope n_p_reach ["basket", "choices"] (defScope s_p_reach) := ⟨rfl, rfl, rfl, by decide +kernel, rfl, by decide +kernel, by decide +kernel⟩
def g_p_reach_1 : EE :=
  eTup (eCons (eBin D.add (eBin D.ix (eBin D.ix (eVar 3) (eBin D.sub (eVar 4) (eVar 9))) (eC (.int 0))) (eVar 8)) (eCons (eVar 6) (eNil)))
def t_p_reach_1 : EB :=
  eTruth (eCall (eCons (eVar 5) (eCons (eVar 7) (eNil))) F_p_has_pieces)
def b_p_reach_1 : Sl → Out :=
  sSeq (sSet 5 (eCall (eCons (eVar 0) (eCons (eVar 4) (eNil))) F_p_counts_of))
  (sAppT 3 (eCall (eCons (eL (eLc (eItems (eVar 2)) (.many [6, 7, 8, 9]) [6, 7, 8, 9] (t_p_reach_1) (g_p_reach_1))) (eNil)) D.minPs))
def f_p_reach : Sl → Out :=
  sSeq (sSet 2 (eCall (eCons (eVar 0) (eCons (eVar 1) (eNil))) F_p_usable_deals))
  (sSeq (sOwn 3 (eCons (eTup (eCons (eC (.int 0)) (eCons (eC .non) (eNil)))) (eNil)))
  (sSeq (sFor (eCallL (eCons (eC (.int 1)) (eCons (eCall (eCons (eVar 0) (eNil)) F_p_within) (eNil))) D.rng2) (.one 4)
  (b_p_reach_1))
  (sRet (eVar 3))))
def F_p_reach : List D → Res D := fnSem 10 f_p_reach
theorem ok_p_reach (T : Fx P w K mg base tb) {f : Addr} {fd : FuncData} (F : FunD K "reach" "reach" (defArgs s_p_reach) (defBody s_p_reach) (defScope s_p_reach) [] [] f fd) (c_p_counts_of : Callee P w K mg base tb "counts_of" 1 2 false F_p_counts_of) (c_p_has_pieces : Callee P w K mg base tb "has_pieces" 1 2 false F_p_has_pieces) (c_p_usable_deals : Callee P w K mg base tb "usable_deals" 2 2 false F_p_usable_deals) (c_p_within : Callee P w K mg base tb "within" 1 1 false F_p_within) : FnOk P w K mg base (L2.CX P w) 3 f fd ["basket", "choices"] (SpF K mg tb 2 false F_p_reach) :=
  fn_ok (N := n_p_reach) F sc_p_reach (O' := []) fun cdv hcd A outer s H E hr nd tk hp =>
    dss_cons (ds_set (i := 2) (by decide) (by decide) nd (de_call c_p_usable_deals hr tk (da_cons (de_var 0) (da_cons (de_var 1) (da_nil)))))
      (dss_cons (ds_own (i := 3) (by decide) (by decide) nd (dl_lst (da_cons (de_tup (da_cons (de_int) (da_cons (de_non) (da_nil)))) (da_nil))))
      (dss_cons (ds_for (.one 4) (by decide) (by decide) hp rfl (di_range2 T.z_range (da_cons (de_int) (da_cons (de_call c_p_within hr tk (da_cons (de_var 0) (da_nil))) (da_nil)))) (pg_one 4 nd)
      (dss_cons (ds_set (i := 5) (by decide) (by decide) nd (de_call c_p_counts_of hr tk (da_cons (de_var 0) (da_cons (de_var 4) (da_nil)))))
      (dss_one (ds_appT (i := 3) (by decide) (de_minPs rfl hr T.z_min (da_cons (de_ofL (dl_lcE (.many [6, 7, 8, 9]) rfl nd (di_any (de_var 2)) (blkOk_by (N := n_p_reach) (sc := defScope s_p_reach) (own := [("place", 6), ("wants", 7), ("price", 8), ("step", 9)]) (by decide +kernel)) (by decide) (fun _ _ _ _ _ => (pg_four 6 7 8 9 rfl nd)) (fun _ _ _ _ _ => bt_one (dt_truth (de_call c_p_has_pieces hr takes_w0 (da_cons (de_var 5) (da_cons (de_var 7) (da_nil)))))) (fun _ _ _ _ _ => de_tup (da_cons (de_add (de_ix (de_ix (de_var 3) (de_sub (de_var 4) (de_var 9))) (de_int)) (de_var 8)) (da_cons (de_var 6) (da_nil)))))) (da_nil)))))))
      (dss_one (ds_ret (de_var 3)))))
def n_p_table : List Str := ["shop", "offers", "basket", "least", "_"]
theorem sc_p_table : FnScope n_p_table ["shop", "offers", "basket"] (defScope s_p_table) := ⟨rfl, rfl, rfl, by decide +kernel, rfl, by decide +kernel, by decide +kernel⟩
def g_p_table_1 : EE :=
  eVar 3
def f_p_table : Sl → Out :=
  sSeq (sDrop (eCall (eCons (eVar 0) (eCons (eVar 2) (eNil))) F_p_need_basket))
  (sRetL (eLc (eItems (eCall (eCons (eVar 2) (eCons (eCall (eCons (eVar 0) (eCons (eVar 1) (eNil))) F_p_deals) (eNil))) F_p_reach)) (.two 3 4) [3, 4] (eYes) (g_p_table_1)))
def F_p_table : List D → Res D := fnSemL 5 f_p_table
theorem ok_p_table (T : Fx P w K mg base tb) {f : Addr} {fd : FuncData} (F : FunD K "table" "table" (defArgs s_p_table) (defBody s_p_table) (defScope s_p_table) [] [] f fd) (c_p_deals : Callee P w K mg base tb "deals" 9 2 false F_p_deals) (c_p_need_basket : Callee P w K mg base tb "need_basket" 4 2 false F_p_need_basket) (c_p_reach : Callee P w K mg base tb "reach" 3 2 false F_p_reach) : FnOk P w K mg base (L2.CX P w) 10 f fd ["shop", "offers", "basket"] (SpF K mg tb 3 true F_p_table) :=
  fn_okL (N := n_p_table) F sc_p_table (O' := []) fun cdv hcd A outer s H E hr nd tk hp =>
    dss_cons (ds_drop (de_call c_p_need_basket hr tk (da_cons (de_var 0) (da_cons (de_var 2) (da_nil)))))
      (dss_one (ds_retL (dl_lcE (.two 3 4) rfl nd (di_any (de_call c_p_reach hr tk (da_cons (de_var 2) (da_cons (de_call c_p_deals hr tk (da_cons (de_var 0) (da_cons (de_var 1) (da_nil)))) (da_nil))))) (blkOk_by (N := n_p_table) (sc := defScope s_p_table) (own := [("least", 3), ("_", 4)]) (by decide +kernel)) (by decide) (fun _ _ _ _ _ => (pg_two 3 4 rfl nd)) (fun _ _ _ _ _ => bt_nil) (fun _ _ _ _ _ => de_var 3))))
def n_p_cost : List Str := ["shop", "offers", "basket"]
theorem sc_p_cost : FnScope n_p_cost ["shop", "offers", "basket"] (defScope s_p_cost) := ⟨rfl, rfl, rfl, by decide +kernel, rfl, by decide +kernel, by decide +kernel⟩
def f_p_cost : Sl → Out :=
  sRet (eBin D.ix (eL (eCallL (eCons (eVar 0) (eCons (eVar 1) (eCons (eVar 2) (eNil)))) (fun ds => (F_p_table ds).bind unl))) (eUn D.neg (eC (.int 1))))
def F_p_cost : List D → Res D := fnSem 3 f_p_cost
theorem ok_p_cost (T : Fx P w K mg base tb) {f : Addr} {fd : FuncData} (F : FunD K "cost" "cost" (defArgs s_p_cost) (defBody s_p_cost) (defScope s_p_cost) [] [] f fd) (c_p_table : Callee P w K mg base tb "table" 10 3 true F_p_table) : FnOk P w K mg base (L2.CX P w) 11 f fd ["shop", "offers", "basket"] (SpF K mg tb 3 false F_p_cost) :=
  fn_ok (N := n_p_cost) F sc_p_cost (O' := []) fun cdv hcd A outer s H E hr nd tk hp =>
    dss_one (ds_ret (de_ix (de_ofL (dl_call c_p_table hr tk (da_cons (de_var 0) (da_cons (de_var 1) (da_cons (de_var 2) (da_nil)))))) (de_neg (de_int))))
def n_p_law : List Str := ["_law_script", "_law_kinds_here", "_law_basket_here", "_law_offers_here", "_law_shop", "_law_handed", "_law_one", "_law_kind", "_law_early", "_law_kept", "_law_found", "_law_told", "_law_number_here", "_law_counts_here", "_law_ways", "_law_deal_here", "_law_least"]
theorem sc_p_law : FnScope n_p_law ["_law_script"] (defScope s_p_law) := ⟨rfl, rfl, rfl, by decide +kernel, rfl, by decide +kernel, by decide +kernel⟩
def g_p_law_1 : EE :=
  eCall (eCons (eC (.int 1)) (eCons (eVar 6) (eNil))) D.min2
def g_p_law_2 : EE :=
  eC (.int 0)
def g_p_law_3 : EE :=
  eTup (eCons (eBin D.ix (eVar 7) (eC (.int 0))) (eCons (eBin D.add (eBin D.fdiv (eBin D.ix (eVar 7) (eC (.int 1))) (eC (.int 2))) (eC (.int 1))) (eNil)))
def b_p_law_1 : Sl → Out :=
  sIf (eTruth (eCall (eCons (eVar 13) (eCons (eBin D.ix (eVar 15) (eC (.int 0))) (eNil))) F_l_has))
  (sApp 14 (eBin D.add (eBin D.ix (eVar 10) (eBin D.sub (eVar 12) (eCall (eCons (eVar 2) (eCons (eBin D.ix (eVar 15) (eC (.int 0))) (eNil))) F_l_step))) (eBin D.ix (eVar 15) (eC (.int 1)))))
  (sNext)
def b_p_law_2 : Sl → Out :=
  sSeq (sSet 13 (eCall (eCons (eVar 2) (eCons (eVar 12) (eNil))) F_l_counts))
  (sSeq (sOwn 14 (eNil))
  (sSeq (sFor (eItems (eVar 11)) (.one 15)
  (b_p_law_1))
  (sIf (eOrB (eNotB (eTruth (eCall (eCons (eBin D.ix (eVar 10) (eVar 12)) (eNil)) F_l_whole))) (eAndB (eTest (eBin D.gt (eVar 12) (eC (.int 0)))) (eTest (eBin D.ne (eBin D.ix (eVar 10) (eVar 12)) (eCall (eCons (eVar 14) (eNil)) D.minNs)))))
  (sRet (eC (.bl false)))
  (sNext))))
def f_p_law : Sl → Out :=
  sSeq (sSet 1 (eCall (eCons (eVar 0) (eNil)) F_l_kinds))
  (sSeq (sSet 2 (eCall (eCons (eVar 0) (eCons (eVar 1) (eCons (eC (.int 30)) (eNil)))) F_l_basket))
  (sSeq (sSet 3 (eCall (eCons (eVar 0) (eCons (eVar 1) (eCons (eC (.int 20)) (eNil)))) F_l_offers))
  (sSeq (sSet 4 (eMake "Shop" (eCons (eL (eCallL (eCons (eVar 1) (eNil)) D.listOf)) (eNil)) F_p_Shop_init))
  (sSeq (sSet 5 (eL (eCons (eL (eCallL (eCons (eVar 3) (eNil)) D.listOf)) (eCons (eL (eCallL (eCons (eVar 2) (eNil)) D.listOf)) (eNil)))))
  (sSeq (sDrop (eL (eCallL (eCons (eVar 4) (eCons (eL (eNil)) (eCons (eBin D.ix (eVar 5) (eC (.int 1))) (eNil)))) (fun ds => (F_p_table ds).bind unl))))
  (sSeq (sIf (eTest (eBin D.lt (eCall (eCons (eVar 2) (eNil)) F_l_many) (eC (.int 25))))
  (sSeq (sDrop (eL (eCallL (eCons (eVar 4) (eCons (eBin D.ix (eVar 5) (eC (.int 0))) (eCons (eL ((fun env => ((eBin D.ix (eVar 5) (eC (.int 1))) env).bind D.lstRev))) (eNil)))) (fun ds => (F_p_table ds).bind unl))))
  (sDrop (eL (eCallL (eCons (eVar 4) (eCons (eBin D.ix (eVar 5) (eC (.int 0))) (eCons (eL (eLc (eItems (eVar 2)) (.one 6) [6] (eYes) (g_p_law_1))) (eNil)))) (fun ds => (F_p_table ds).bind unl)))))
  (sNext))
  (sSeq (sIf (eTest (eBin D.ne (eL (eCallL (eCons (eVar 4) (eCons (eBin D.ix (eVar 5) (eC (.int 0))) (eCons (eL (eLc (eItems (eVar 1)) (.one 7) [7] (eYes) (g_p_law_2))) (eNil)))) (fun ds => (F_p_table ds).bind unl))) (eL (eCons (eC (.int 0)) (eNil)))))
  (sRet (eC (.bl false)))
  (sNext))
  (sSeq (sDrop (eL (eCallL (eCons (eVar 4) (eCons (eSl (eBin D.ix (eVar 5) (eC (.int 0))) (eNoPart) (ePart (eC (.int 1)))) (eCons (eBin D.ix (eVar 5) (eC (.int 1))) (eNil)))) (fun ds => (F_p_table ds).bind unl))))
  (sSeq (sOwn 8 (eCallL (eCons (eVar 4) (eCons (eBin D.ix (eVar 5) (eC (.int 0))) (eCons (eBin D.ix (eVar 5) (eC (.int 1))) (eNil)))) (fun ds => (F_p_table ds).bind unl)))
  (sSeq (sSetLF 9 (eCallL (eCons (eVar 8) (eNil)) D.listOf))
  (sSeq (sApp 8 (eUn D.neg (eC (.int 1))))
  (sSeq (sDrop (eL (eCallL (eCons (eMake "Shop" (eCons (eL (eLc (eItems (eVar 1)) (.one 7) [7] (eYes) (g_p_law_3))) (eNil)) F_p_Shop_init) (eCons (eBin D.ix (eVar 5) (eC (.int 0))) (eCons (eBin D.ix (eVar 5) (eC (.int 1))) (eNil)))) (fun ds => (F_p_table ds).bind unl))))
  (sSeq (sSet 10 (eL (eCallL (eCons (eVar 4) (eCons (eBin D.ix (eVar 5) (eC (.int 0))) (eCons (eBin D.ix (eVar 5) (eC (.int 1))) (eNil)))) (fun ds => (F_p_table ds).bind unl))))
  (sSeq (sIf (eOrB (eNotB (eTruth (eCall (eCons (eVar 10) (eCons (eC (.raw (.ty "list"))) (eNil))) D.isi))) (eOrB (eTest (eBin D.ne (eCall (eCons (eVar 10) (eNil)) D.len) (eCall (eCons (eVar 2) (eNil)) F_l_many))) (eTest (eBin D.ne (eBin D.ix (eVar 10) (eC (.int 0))) (eC (.int 0))))))
  (sRet (eC (.bl false)))
  (sNext))
  (sSeq (sIf (eOrB (eTest (eBin D.ne (eVar 8) (eBin D.add (eVar 9) (eL (eCons (eUn D.neg (eC (.int 1))) (eNil)))))) (eTest (eBin D.ne (eVar 9) (eVar 10))))
  (sRet (eC (.bl false)))
  (sNext))
  (sSeq (sSet 11 (eCall (eCons (eVar 1) (eCons (eVar 3) (eNil))) F_l_deals))
  (sSeq (sFor (eCallL (eCons (eCall (eCons (eVar 10) (eNil)) D.len) (eNil)) D.rng1) (.one 12)
  (b_p_law_2))
  (sSeq (sDrop (eCall (eCons (eVar 4) (eCons (eL (eNil)) (eCons (eBin D.ix (eVar 5) (eC (.int 1))) (eNil)))) F_p_cost))
  (sSeq (sSet 16 (eCall (eCons (eVar 4) (eCons (eBin D.ix (eVar 5) (eC (.int 0))) (eCons (eBin D.ix (eVar 5) (eC (.int 1))) (eNil)))) F_p_cost))
  (sRet (eAndV (eCall (eCons (eVar 16) (eNil)) F_l_whole) (eAndV (eBin D.eq (eVar 16) (eBin D.ix (eVar 10) (eBin D.sub (eCall (eCons (eVar 10) (eNil)) D.len) (eC (.int 1))))) (eBin D.eq (eVar 5) (eL (eCons (eVar 3) (eCons (eVar 2) (eNil)))))))))))))))))))))))))))
def F_p_law : List D → Res D := fnSem 17 f_p_law
theorem ok_p_law (T : Fx P w K mg base tb) {f : Addr} {fd : FuncData} (F : FunD K "law" "law" (defArgs s_p_law) (defBody s_p_law) (defScope s_p_law) [] [] f fd) (c_p_Shop_init : Maker P w K mg base tb "Shop" 4 1 F_p_Shop_init) (c_l_basket : Callee P w K mg base tb "_law_basket" 2 3 false F_l_basket) (c_l_counts : Callee P w K mg base tb "_law_counts" 1 2 false F_l_counts) (c_l_deals : Callee P w K mg base tb "_law_deals" 2 2 false F_l_deals) (c_l_has : Callee P w K mg base tb "_law_has" 1 2 false F_l_has) (c_l_kinds : Callee P w K mg base tb "_law_kinds" 3 1 false F_l_kinds) (c_l_many : Callee P w K mg base tb "_law_many" 1 1 false F_l_many) (c_l_offers : Callee P w K mg base tb "_law_offers" 2 3 false F_l_offers) (c_l_step : Callee P w K mg base tb "_law_step" 1 2 false F_l_step) (c_l_whole : Callee P w K mg base tb "_law_whole" 1 1 false F_l_whole) (c_p_cost : Callee P w K mg base tb "cost" 11 3 false F_p_cost) (c_p_table : Callee P w K mg base tb "table" 10 3 true F_p_table) : FnOk P w K mg base (L2.CX P w) 12 f fd ["_law_script"] (SpF K mg tb 1 false F_p_law) :=
  fn_ok (N := n_p_law) F sc_p_law (O' := []) fun cdv hcd A outer s H E hr nd tk hp =>
    dss_cons (ds_set (i := 1) (by decide) (by decide) nd (de_call c_l_kinds hr tk (da_cons (de_var 0) (da_nil))))
      (dss_cons (ds_set (i := 2) (by decide) (by decide) nd (de_call c_l_basket hr tk (da_cons (de_var 0) (da_cons (de_var 1) (da_cons (de_int) (da_nil))))))
      (dss_cons (ds_set (i := 3) (by decide) (by decide) nd (de_call c_l_offers hr tk (da_cons (de_var 0) (da_cons (de_var 1) (da_cons (de_int) (da_nil))))))
      (dss_cons (ds_set (i := 4) (by decide) (by decide) nd (DN.de (dn_make c_p_Shop_init hr tk (da_cons (de_ofL (dl_list T.z_list (da_cons (de_var 1) (da_nil)))) (da_nil)))))
      (dss_cons (ds_set (i := 5) (by decide) (by decide) nd (de_ofL (dl_lst (da_cons (de_ofL (dl_list T.z_list (da_cons (de_var 3) (da_nil)))) (da_cons (de_ofL (dl_list T.z_list (da_cons (de_var 2) (da_nil)))) (da_nil))))))
      (dss_cons (ds_drop (de_ofL (dl_call c_p_table hr tk (da_cons (de_var 4) (da_cons (de_ofL (dl_lst (da_nil))) (da_cons (de_ix (de_var 5) (de_int)) (da_nil)))))))
      (dss_cons (ds_if (dt_lt (de_call c_l_many hr tk (da_cons (de_var 2) (da_nil))) (de_int))
      (dss_cons (ds_drop (de_ofL (dl_call c_p_table hr tk (da_cons (de_var 4) (da_cons (de_ix (de_var 5) (de_int)) (da_cons (de_ofL (dl_listRev rfl T.z_list T.z_reversed (de_ix (de_var 5) (de_int)))) (da_nil)))))))
      (dss_one (ds_drop (de_ofL (dl_call c_p_table hr tk (da_cons (de_var 4) (da_cons (de_ix (de_var 5) (de_int)) (da_cons (de_ofL (dl_lcE (.one 6) rfl nd (di_any (de_var 2)) (blkOk_by (N := n_p_law) (sc := defScope s_p_law) (own := [("_law_one", 6)]) (by decide +kernel)) (by decide) (fun _ _ _ _ _ => (pg_one 6 nd)) (fun _ _ _ _ _ => bt_nil) (fun _ _ _ _ _ => de_min2 rfl T.z_min (da_cons (de_int) (da_cons (de_var 6) (da_nil)))))) (da_nil)))))))))
      (dss_nil))
      (dss_cons (ds_if (dt_ne hr (de_ofL (dl_call c_p_table hr tk (da_cons (de_var 4) (da_cons (de_ix (de_var 5) (de_int)) (da_cons (de_ofL (dl_lcE (.one 7) rfl nd (di_any (de_var 1)) (blkOk_by (N := n_p_law) (sc := defScope s_p_law) (own := [("_law_kind", 7)]) (by decide +kernel)) (by decide) (fun _ _ _ _ _ => (pg_one 7 nd)) (fun _ _ _ _ _ => bt_nil) (fun _ _ _ _ _ => de_int))) (da_nil)))))) (de_ofL (dl_lst (da_cons (de_int) (da_nil)))))
      (dss_one (ds_ret (de_bl)))
      (dss_nil))
      (dss_cons (ds_drop (de_ofL (dl_call c_p_table hr tk (da_cons (de_var 4) (da_cons (de_sl (de_ix (de_var 5) (de_int)) (dp_none) (dp_some (de_int))) (da_cons (de_ix (de_var 5) (de_int)) (da_nil)))))))
      (dss_cons (ds_own (i := 8) (by decide) (by decide) nd (dl_call c_p_table hr tk (da_cons (de_var 4) (da_cons (de_ix (de_var 5) (de_int)) (da_cons (de_ix (de_var 5) (de_int)) (da_nil))))))
      (dss_cons (ds_setLF (i := 9) (by decide) nd (dl_list T.z_list (da_cons (de_var 8) (da_nil))))
      (dss_cons (ds_app (i := 8) (by decide) (by decide) (de_neg (de_int)))
      (dss_cons (ds_drop (de_ofL (dl_call c_p_table hr tk (da_cons (DN.de (dn_make c_p_Shop_init hr tk (da_cons (de_ofL (dl_lcE (.one 7) rfl nd (di_any (de_var 1)) (blkOk_by (N := n_p_law) (sc := defScope s_p_law) (own := [("_law_kind", 7)]) (by decide +kernel)) (by decide) (fun _ _ _ _ _ => (pg_one 7 nd)) (fun _ _ _ _ _ => bt_nil) (fun _ _ _ _ _ => de_tup (da_cons (de_ix (de_var 7) (de_int)) (da_cons (de_add (de_fdiv (de_ix (de_var 7) (de_int)) (de_int)) (de_int)) (da_nil)))))) (da_nil)))) (da_cons (de_ix (de_var 5) (de_int)) (da_cons (de_ix (de_var 5) (de_int)) (da_nil)))))))
      (dss_cons (ds_set (i := 10) (by decide) (by decide) nd (de_ofL (dl_call c_p_table hr tk (da_cons (de_var 4) (da_cons (de_ix (de_var 5) (de_int)) (da_cons (de_ix (de_var 5) (de_int)) (da_nil)))))))
      (dss_cons (ds_if (dt_bool (dw_or (dt_not (dt_truth (de_isi T.z_isinstance (da_cons (de_var 10) (da_cons (de_ty T.z_list) (da_nil)))))) (dw_or (dt_ne hr (de_len T.z_len (da_cons (de_var 10) (da_nil))) (de_call c_l_many hr tk (da_cons (de_var 2) (da_nil)))) (dw_or1 (dt_ne hr (de_ix (de_var 10) (de_int)) (de_int))))))
      (dss_one (ds_ret (de_bl)))
      (dss_nil))
      (dss_cons (ds_if (dt_bool (dw_or (dt_ne hr (de_var 8) (de_add (de_var 9) (de_ofL (dl_lst (da_cons (de_neg (de_int)) (da_nil)))))) (dw_or1 (dt_ne hr (de_var 9) (de_var 10)))))
      (dss_one (ds_ret (de_bl)))
      (dss_nil))
      (dss_cons (ds_set (i := 11) (by decide) (by decide) nd (de_call c_l_deals hr tk (da_cons (de_var 1) (da_cons (de_var 3) (da_nil)))))
      (dss_cons (ds_for (.one 12) (by decide) (by decide) hp rfl (di_range1 T.z_range (da_cons (de_len T.z_len (da_cons (de_var 10) (da_nil))) (da_nil))) (pg_one 12 nd)
      (dss_post (O1 := [14, 8]) (by decide) (dss_cons (ds_set (i := 13) (by decide) (by decide) nd (de_call c_l_counts hr tk (da_cons (de_var 2) (da_cons (de_var 12) (da_nil)))))
      (dss_cons (ds_own (i := 14) (by decide) (by decide) nd (dl_lst (da_nil)))
      (dss_cons (ds_for (.one 15) (by decide) (by decide) hp rfl (di_any (de_var 11)) (pg_one 15 nd)
      (dss_one (ds_if (dt_truth (de_call c_l_has hr tk (da_cons (de_var 13) (da_cons (de_ix (de_var 15) (de_int)) (da_nil)))))
      (dss_one (ds_app (i := 14) (by decide) (by decide) (de_add (de_ix (de_var 10) (de_sub (de_var 12) (de_call c_l_step hr tk (da_cons (de_var 2) (da_cons (de_ix (de_var 15) (de_int)) (da_nil)))))) (de_ix (de_var 15) (de_int)))))
      (dss_nil))))
      (dss_one (ds_if (dt_bool (dw_or (dt_not (dt_truth (de_call c_l_whole hr tk (da_cons (de_ix (de_var 10) (de_var 12)) (da_nil))))) (dw_or1 (dt_bool (dw_and (dt_gt (de_var 12) (de_int)) (dw_and1 (dt_ne hr (de_ix (de_var 10) (de_var 12)) (de_minNs rfl T.z_min (da_cons (de_var 14) (da_nil))))))))))
      (dss_one (ds_ret (de_bl)))
      (dss_nil))))))))
      (dss_cons (ds_drop (de_call c_p_cost hr tk (da_cons (de_var 4) (da_cons (de_ofL (dl_lst (da_nil))) (da_cons (de_ix (de_var 5) (de_int)) (da_nil))))))
      (dss_cons (ds_set (i := 16) (by decide) (by decide) nd (de_call c_p_cost hr tk (da_cons (de_var 4) (da_cons (de_ix (de_var 5) (de_int)) (da_cons (de_ix (de_var 5) (de_int)) (da_nil))))))
      (dss_one (ds_ret (de_and (de_call c_l_whole hr tk (da_cons (de_var 16) (da_nil))) (de_and (de_eq hr (de_var 16) (de_ix (de_var 10) (de_sub (de_len T.z_len (da_cons (de_var 10) (da_nil))) (de_int)))) (de_one (de_eq hr (de_var 5) (de_ofL (dl_lst (da_cons (de_var 3) (da_cons (de_var 2) (da_nil))))))))))))))))))))))))))))))
end
end My
set_option Elab.async false
set_option linter.all false
set_option maxRecDepth 100000
set_option maxHeartbeats 4000000
namespace My
open PySem Dx
def nameOk (z : Str) : Bool := decide (1 ≤ z.length) && (decide (z.length ≤ 8) && z.cps.toList.all az)
theorem lt_a (c : Nat) : (!decide ([c] < ("a" : Str).cps.toList) && !decide (("z" : Str).cps.toList < [c])) = az c := by
  have ha : ("a" : Str).cps.toList = [97] := by decide +kernel
  have hz : ("z" : Str).cps.toList = [122] := by decide +kernel
  rw [ha, hz]
  unfold az
  have h1 : ([c] < [97]) ↔ c < 97 := by simp [List.cons_lt_cons_iff]
  have h2 : ([122] < [c]) ↔ 122 < c := by simp [List.cons_lt_cons_iff]
  simp only [h1, h2]
  by_cases a : c < 97
  · have : ¬ 97 ≤ c := by omega
    simp [a, this]
  · have : 97 ≤ c := by omega
    by_cases b : 122 < c
    · have : ¬ c ≤ 122 := by omega
      simp [a, b, this]
    · have : c ≤ 122 := by omega
      simp [a, b, *]
theorem p_is_name_str (z : Str) (hz : z.length ≤ 100000) : F_p_is_name [.str z] = .ok (.bl (nameOk z)) := by
  by_cases h1 : 1 ≤ z.length
  · have e3 : ((1 : Int) ≤ z.length) := by omega
    by_cases h2 : z.length ≤ 8
    · have e2 : ((z.length : Int) ≤ 8) := by omega
      have n1 : nameOk z = z.cps.toList.all az := by simp [nameOk, h1, h2]
      have hf : (fun c => !decide ([c] < ("a" : Str).cps.toList) && !decide (("z" : Str).cps.toList < [c])) = az := funext lt_a
      simp [F_p_is_name, fnSem_ap, f_p_is_name, hz, e2, e3, hf, eAllS, n1]
    · have e2 : ¬ ((z.length : Int) ≤ 8) := by omega
      simp [F_p_is_name, fnSem_ap, f_p_is_name, hz, e2, e3, nameOk, h2]
  · have e3 : ¬ ((1 : Int) ≤ z.length) := by omega
    simp [F_p_is_name, fnSem_ap, f_p_is_name, hz, e3, nameOk, h1]
theorem p_is_name_int (x : Int) : F_p_is_name [.int x] = .ok (.bl false) := by simp [F_p_is_name, fnSem_ap, f_p_is_name]
theorem p_is_whole_int (x : Int) : F_p_is_whole [.int x, .int 0, .int 100000] = .ok (.bl (decide (0 ≤ x) && decide (x ≤ 100000))) := by
  by_cases h : 0 ≤ x <;> simp [F_p_is_whole, fnSem_ap, f_p_is_whole, h]
theorem p_is_whole_bl (k : Bool) : F_p_is_whole [.bl k, .int 0, .int 100000] = .ok (.bl false) := by simp [F_p_is_whole, fnSem_ap, f_p_is_whole]
theorem p_is_whole_str (z : Str) : F_p_is_whole [.str z, .int 0, .int 100000] = .ok (.bl false) := by simp [F_p_is_whole, fnSem_ap, f_p_is_whole]
inductive Vd where | ok | name | twice | price
def Vd.cls : Vd → Str | .ok => "" | .name => "BadName" | .twice => "Twice" | .price => "BadPrice"
def nmB : D → Bool | .str z => nameOk z | _ => false
def prB : D → Bool | .int x => decide (0 ≤ x) && decide (x ≤ 100000) | _ => false
def FlatN (d : D) : Prop := (∃ z, d = .str z ∧ z.length ≤ 100000) ∨ ∃ i, d = .int i
def FlatP (d : D) : Prop := (∃ i, d = .int i) ∨ (∃ k, d = .bl k) ∨ ∃ z, d = .str z
inductive ItemOk : D → Prop
  | pair {n p : D} (hn : FlatN n) (hp : FlatP p) : ItemOk (.tup [n, p])
  | three (a b c : D) : ItemOk (.tup [a, b, c])
  | two (xs : List D) : ItemOk (.lst xs)
  | non : ItemOk .non
def dupB (names : List D) (n : D) : Bool := names.any fun y => D.eqF y n
def verd (names : List D) : D → Vd
  | .tup [n, p] => if nmB n = false then .name else if dupB names n = true then .twice else if prB p = false then .price else .ok
  | _ => .name
theorem FlatN.flat {d : D} (h : FlatN d) : D.flat d = true := by
  rcases h with ⟨z, rfl, _⟩ | ⟨i, rfl⟩ <;> rfl
theorem FlatP.flat {d : D} (h : FlatP d) : D.flat d = true := by
  rcases h with ⟨z, rfl⟩ | ⟨i, rfl⟩ | ⟨i, rfl⟩ <;> rfl
theorem p_is_name_any {d : D} (h : FlatN d) : F_p_is_name [d] = .ok (.bl (nmB d)) := by
  rcases h with ⟨z, rfl, hz⟩ | ⟨i, rfl⟩
  · exact p_is_name_str z hz
  · exact p_is_name_int i
theorem p_is_whole_any {d : D} (h : FlatP d) : F_p_is_whole [d, .int 0, .int 100000] = .ok (.bl (prB d)) := by
  rcases h with ⟨z, rfl⟩ | ⟨i, rfl⟩ | ⟨i, rfl⟩
  · exact p_is_whole_int z
  · exact p_is_whole_bl i
  · exact p_is_whole_str i
theorem mem_names {n : D} {names : List D} (hn : D.flat n = true) (hs : names.all D.flat = true) : D.mem n (.lst names) = .ok (dupB names n) := by
  cases n <;> first | exact absurd hn Bool.false_ne_true | (show (if _ then _ else _) = _; rw [hs]; rfl)
theorem ix0 (a b : D) : D.ix (.tup [a, b]) (.int 0) = .ok a := rfl
theorem ix1 (a b : D) : D.ix (.tup [a, b]) (.int 1) = .ok b := rfl
theorem inn_names {n : D} {names : List D} (hn : D.flat n = true) (hs : names.all D.flat = true) : D.inn n (.lst names) = .ok (.bl (dupB names n)) := by
  unfold D.inn; rw [mem_names hn hs]; rfl
theorem need_kind_ok {d : D} (h : ItemOk d) {names : List D} (hs : names.all D.flat = true) : F_p_need_kind [d, .lst names] = match verd names d with | .ok => .ok .non | v => .err v.cls := by
  cases h with
  | pair hn hp =>
    rename_i n p
    have a1 := p_is_name_any hn
    have a2 := p_is_whole_any hp
    have a3 := inn_names hn.flat hs
    have a4 : F_p_is_pair [.tup [n, p]] = .ok (.bl true) := by simp [F_p_is_pair, fnSem_ap, f_p_is_pair]
    unfold verd
    by_cases b1 : nmB n = false
    · rw [b1] at a1
      simp [F_p_need_kind, fnSem_ap, f_p_need_kind, a4, ix0, a1, b1, Vd.cls]
    · rw [Bool.not_eq_false] at b1
      rw [b1] at a1
      cases b2 : dupB names n with
      | true =>
        rw [b2] at a3
        simp [F_p_need_kind, fnSem_ap, f_p_need_kind, a4, ix0, a1, b1, b2, a3, Vd.cls]
      | false =>
        rw [b2] at a3
        cases b3 : prB p with
        | true =>
          rw [b3] at a2
          simp [F_p_need_kind, fnSem_ap, f_p_need_kind, a4, ix0, ix1, a1, b1, b2, b3, a3, a2, Vd.cls]
        | false =>
          rw [b3] at a2
          simp [F_p_need_kind, fnSem_ap, f_p_need_kind, a4, ix0, ix1, a1, b1, b2, b3, a3, a2, Vd.cls]
  | three a b c =>
    have a4 : F_p_is_pair [.tup [a, b, c]] = .ok (.bl false) := by simp [F_p_is_pair, fnSem_ap, f_p_is_pair]
    simp [F_p_need_kind, fnSem_ap, f_p_need_kind, a4, verd, Vd.cls]
  | two xs =>
    have a4 : F_p_is_pair [.lst xs] = .ok (.bl false) := by simp [F_p_is_pair, fnSem_ap, f_p_is_pair]
    simp [F_p_need_kind, fnSem_ap, f_p_need_kind, a4, verd, Vd.cls]
  | non =>
    have a4 : F_p_is_pair [.non] = .ok (.bl false) := by simp [F_p_is_pair, fnSem_ap, f_p_is_pair]
    simp [F_p_need_kind, fnSem_ap, f_p_need_kind, a4, verd, Vd.cls]
def firstD : D → D
  | .tup (n :: _) => n
  | _ => .non
def scan (names : List D) : List D → Vd
  | [] => .ok
  | d :: ds => match verd names d with
    | .ok => scan (names ++ [firstD d]) ds
    | v => v
theorem verd_ok {names : List D} {d : D} (hi : ItemOk d) (h : verd names d = .ok) : ∃ n p, d = .tup [n, p] ∧ FlatN n ∧ FlatP p ∧ nmB n = true ∧ dupB names n = false ∧ prB p = true := by
  cases hi with
  | pair hn hp =>
    rename_i n p
    refine ⟨n, p, rfl, hn, hp, ?_⟩
    have h : (if nmB n = false then Vd.name else if dupB names n = true then .twice else if prB p = false then .price else .ok) = .ok := h
    by_cases b1 : nmB n = false
    · rw [if_pos b1] at h; cases h
    · rw [if_neg b1] at h
      by_cases b2 : dupB names n = true
      · rw [if_pos b2] at h; cases h
      · rw [if_neg b2] at h
        by_cases b3 : prB p = false
        · rw [if_pos b3] at h; cases h
        · exact ⟨by simpa using b1, by simpa using b2, by simpa using b3⟩
  | _ => cases h
theorem need_step {d all : D} {x : Option D} (h : ItemOk d) {names : List D} (hs : names.all D.flat = true) (hl : names.length < 100) :
    b_p_need_kinds_1 [some all, some (.lst names), some d] = match verd names d with | .ok => .nxt [some all, some (.lst (names ++ [firstD d])), some d] | v => .err v.cls [some all, some (.lst names), some d] := by
  have a := need_kind_ok h hs
  have hl' : names.length < 100000 := by omega
  cases q : verd names d with
  | ok =>
    rw [q] at a
    obtain ⟨n, p, rfl, _⟩ := verd_ok h q
    simp [b_p_need_kinds_1, a, ix0, firstD, hl']
  | name => rw [q] at a; simp [b_p_need_kinds_1, a, toOut]
  | twice => rw [q] at a; simp [b_p_need_kinds_1, a, toOut]
  | price => rw [q] at a; simp [b_p_need_kinds_1, a, toOut]
theorem need_loop {all : D} : ∀ (items names : List D) (x : Option D), (∀ d ∈ items, ItemOk d) → names.all D.flat = true → names.length + items.length < 100 →
    ∃ e, forGo (.one 2) b_p_need_kinds_1 items [some all, some (.lst names), x] = match scan names items with | .ok => .nxt e | v => .err v.cls e
  | [], names, x, _, _, _ => ⟨_, rfl⟩
  | d :: ds, names, x, hi, hs, hl => by
    have hd := hi d List.mem_cons_self
    have hl2 : names.length + (ds.length + 1) < 100 := hl
    have st := need_step (all := all) (x := x) hd hs (by omega)
    rw [forGo_one]
    show ∃ e, (b_p_need_kinds_1 [some all, some (.lst names), some d]).loop (forGo (.one 2) b_p_need_kinds_1 ds) = _
    rw [st]
    unfold scan
    cases q : verd names d with
    | ok =>
      obtain ⟨n, p, rfl, hn, _⟩ := verd_ok hd q
      obtain ⟨y, hy⟩ := need_loop (all := all) ds (names ++ [firstD (.tup [n, p])]) (some (.tup [n, p])) (fun c m => hi c (List.mem_cons_of_mem _ m)) (by rw [List.all_append, hs]; simp [firstD, hn.flat]) (by rw [List.length_append]; simp; omega)
      exact ⟨y, by rw [loop_nxt, hy]⟩
    | name => exact ⟨_, rfl⟩
    | twice => exact ⟨_, rfl⟩
    | price => exact ⟨_, rfl⟩
theorem need_ok {items : List D} (hi : ∀ d ∈ items, ItemOk d) (h1 : 1 ≤ items.length) (h2 : items.length ≤ 5) : F_p_need_kinds [.lst items] = match scan [] items with | .ok => .ok .non | v => .err v.cls := by
  have e1 : (1 : Int) ≤ items.length := by omega
  have e2 : (items.length : Int) ≤ 5 := by omega
  obtain ⟨y, hy⟩ := need_loop (all := .lst items) items [] none hi rfl (by simp; omega)
  cases q : scan [] items with
  | ok => rw [q] at hy; simp [F_p_need_kinds, fnSem_ap, f_p_need_kinds, e1, e2, hy]
  | name => rw [q] at hy; simp [F_p_need_kinds, fnSem_ap, f_p_need_kinds, e1, e2, hy]
  | twice => rw [q] at hy; simp [F_p_need_kinds, fnSem_ap, f_p_need_kinds, e1, e2, hy]
  | price => rw [q] at hy; simp [F_p_need_kinds, fnSem_ap, f_p_need_kinds, e1, e2, hy]
def secondD : D → D
  | .tup (_ :: p :: _) => p
  | _ => .non
theorem scan_all : ∀ {items names : List D}, (∀ d ∈ items, ItemOk d) → scan names items = .ok → ∀ d ∈ items, ∃ n p, d = .tup [n, p] ∧ FlatN n ∧ FlatP p ∧ nmB n = true ∧ prB p = true
  | [], _, _, _, d, m => by cases m
  | c :: ds, names, hi, h, d, m => by
    unfold scan at h
    cases q : verd names c with
    | ok =>
      rw [q] at h
      rcases List.mem_cons.mp m with rfl | m
      · obtain ⟨n, p, e, a1, a2, a3, _, a4⟩ := verd_ok (hi _ List.mem_cons_self) q
        exact ⟨n, p, e, a1, a2, a3, a4⟩
      · exact scan_all (fun c m => hi c (List.mem_cons_of_mem _ m)) h d m
    | name => rw [q] at h; cases h
    | twice => rw [q] at h; cases h
    | price => rw [q] at h; cases h
def fstAll (k : Int) : List D → Res (List D)
  | [] => .ok []
  | d :: ds => consR (.ok true) (fun _ => D.ix d (.int k)) (fstAll k ds)
theorem lc_ix (k : Int) (base : Sl) (hb : 2 < base.length) : ∀ l : List D, lcGo (.one 2) eYes (eBin D.ix (eVar 2) (eC (.int k))) base l = fstAll k l
  | [] => rfl
  | d :: ds => by
    have e : eVar 2 (base.set 2 (some d)) = .ok d := eVar_ap (List.getElem?_set_self hb)
    rw [lcGo_one, lc_ix k base hb ds, eYes_ap]
    simp only [eBin_ap, e, bind_ok, eC_ap]
    rfl
theorem lc_ix0 (base : Sl) (hb : 2 < base.length) (l : List D) : lcGo (.one 2) eYes g_p_Shop_init_1 base l = fstAll 0 l := lc_ix 0 base hb l
theorem lc_ix1 (base : Sl) (hb : 2 < base.length) (l : List D) : lcGo (.one 2) eYes g_p_Shop_init_2 base l = fstAll 1 l := lc_ix 1 base hb l
theorem fst0 : ∀ {items : List D}, (∀ d ∈ items, ∃ n p, d = .tup [n, p] ∧ FlatN n ∧ FlatP p ∧ nmB n = true ∧ prB p = true) → fstAll 0 items = .ok (items.map firstD) ∧ fstAll 1 items = .ok (items.map secondD) ∧ (items.map firstD).all D.flat = true ∧ (items.map secondD).all D.flat = true
  | [], _ => ⟨rfl, rfl, rfl, rfl⟩
  | d :: ds, h => by
    obtain ⟨n, p, rfl, hn, hp, _⟩ := h d List.mem_cons_self
    obtain ⟨a, b, c, e⟩ := fst0 (items := ds) fun c m => h c (List.mem_cons_of_mem _ m)
    refine ⟨?_, ?_, ?_, ?_⟩
    · unfold fstAll; rw [a, ix0, consR_t]; rfl
    · unfold fstAll; rw [b, ix1, consR_t]; rfl
    · rw [List.map_cons, List.all_cons, c]; simp [firstD, hn.flat]
    · rw [List.map_cons, List.all_cons, e]; simp [secondD, hp.flat]
def initRes (d : D) : Res (List (Str × D)) := (F_p_need_kinds [d]).bind fun _ => (((D.items d).bind fun l => lim l.length (fstAll 0 l)).bind flatL).bind fun l1 => (((D.items d).bind fun l => lim l.length (fstAll 1 l)).bind flatL).bind fun l2 => .ok [("names", .lst l1), ("prices", .lst l2)]
theorem init_cons (a : Addr) (d : D) (rest : List D) : F0_p_Shop_init a (d :: rest) = initRes d := by
  have h1 : eVar 1 (initEnv 3 a (d :: rest)) = .ok d := eVar_ap (by simp [initEnv])
  have h2 : selfAt (initEnv 3 a (d :: rest)) = some a := by simp [selfAt, initEnv]
  have h3 : 2 < (wipeE (initEnv 3 a (d :: rest)) [2]).length := by simp [wipeE, initEnv]; omega
  unfold F0_p_Shop_init initTwo initRes
  simp only [sDrop_ap, eCall_ap, eCons_ap, h1, bind_ok, eNil_ap, map_ok]
  cases F_p_need_kinds [d] with
  | ok r => simp only [map_ok, toOut_ok, bind_ok, h2, if_true, eLc_ap, eItems_ap, h1, lc_ix0 _ h3, lc_ix1 _ h3]
  | err c => rfl
  | stuck => rfl
theorem init_nil (a : Addr) : F0_p_Shop_init a [] = .stuck := by
  have h1 : eVar 1 (initEnv 3 a []) = .stuck := rfl
  unfold F0_p_Shop_init initTwo
  simp only [sDrop_ap, eCall_ap, eCons_ap, h1, bind_stuck, map_stuck]
  rfl
theorem hF_p_Shop_init : ∀ a ds, F0_p_Shop_init a ds = F_p_Shop_init ds := fun a ds => by
  cases ds with
  | nil => exact (init_nil a).trans (init_nil 0).symm
  | cons d rest => exact (init_cons a d rest).trans (init_cons 0 d rest).symm
def shopD (items : List D) : D := .obj "Shop" [("names", .lst (items.map firstD)), ("prices", .lst (items.map secondD))]
def cellN (ns : List Int) (k : Nat) : Int := ns.getD k 0
theorem cell_at_ok (ns : List Int) (k : Nat) : F_l_cell_at [.fz (dInts ns), .int (k : Int)] = .ok (.int (cellN ns k)) := by
  by_cases h : k < ns.length
  · simp [F_l_cell_at, fnSem_ap, f_l_cell_at, h, ix_fz h, cellN]
  · simp [F_l_cell_at, fnSem_ap, f_l_cell_at, h, cellN, List.getD_eq_getElem?_getD, List.getElem?_eq_none (Nat.le_of_not_lt h)]
def numN (ns : List Int) (k : Nat) : Int := if ns.length = 0 then 5003 * k else (ns.getD (k % ns.length) 0 + 7919 * ((k / ns.length : Nat) : Int) + 101 * k) * 48271 % 2147483647
theorem number_ok (ns : List Int) (hl : ns.length ≤ 63) (k : Nat) : F_l_number [.fz (dInts ns), .int (k : Int)] = .ok (.int (numN ns k)) := by
  by_cases h : ns.length = 0
  · simp [F_l_number, fnSem_ap, f_l_number, h, numN, D.fits]
  · have hp : (0 : Int) < ns.length := by omega
    have hp2 : (ns.length : Int) < 1073741824 := by omega
    have hm : ((k : Int) % (ns.length : Int)) = ((k % ns.length : Nat) : Int) := by simp
    have lt : k % ns.length < ns.length := Nat.mod_lt _ (by omega)
    have e : ((ns.length : Int) == 0) = false := by
      rw [beq_eq_false_iff_ne]
      omega
    have hx : D.ix (.fz (dInts ns)) (.int ((k : Int) % (ns.length : Int))) = .ok (.int (ns.getD (k % ns.length) 0)) := by rw [hm]; exact ix_fz lt
    have h1 := mod_int (x := (k : Int)) hp
    have h2 := fdiv_int (x := (k : Int)) hp hp2
    simp [F_l_number, fnSem_ap, f_l_number, h, numN, D.fits, e, h1, h2, hx]
end My
set_option Elab.async false
set_option linter.all false
set_option maxRecDepth 100000
set_option maxHeartbeats 4000000
namespace My
open PySem Dx
def numI (ns : List Int) (i : Int) : Int := numN ns i.toNat
theorem cell_int {ns : List Int} {i : Int} (h : 0 ≤ i) : F_l_cell_at [.fz (dInts ns), .int i] = .ok (.int (cellN ns i.toNat)) := by
  obtain ⟨k, rfl⟩ := Int.eq_ofNat_of_zero_le h; exact cell_at_ok ns k
theorem number_int {ns : List Int} (hl : ns.length ≤ 63) {i : Int} (h : 0 ≤ i) : F_l_number [.fz (dInts ns), .int i] = .ok (.int (numI ns i)) := by
  obtain ⟨k, rfl⟩ := Int.eq_ofNat_of_zero_le h; exact number_ok ns hl k
end My
open PySem Dx in
local macro_rules | `(tactic| walk_at "evop") => `(tactic| ((with_reducible apply sl_from) <;> walk_at "size"))
open PySem Dx in
local macro_rules | `(tactic| walk_at "evop") => `(tactic| ((with_reducible apply sl_to) <;> walk_at "size"))
open PySem Dx in
local macro_rules | `(tactic| walk_at "evop") => `(tactic| ((with_reducible apply len_S); walk_at "size"))
open PySem Dx in
local macro_rules | `(tactic| walk_at "evop") => `(tactic| ((with_reducible apply add_S); walk_at "size"))
open PySem Dx in
local macro_rules | `(tactic| walk_at "evop") => `(tactic| ((with_reducible apply My.number_int) <;> first | with_reducible assumption | omega))
open PySem Dx in
local macro_rules | `(tactic| walk_at "evop") => `(tactic| ((with_reducible apply My.cell_int); omega))
open PySem Dx in
local macro_rules | `(tactic| walk_at "evop") => `(tactic| with_reducible assumption)
namespace My
open PySem Dx
theorem nb_step {sc k al sm : D} {num step : Int} {j : Nat} {l : List Nat} {c : Nat} {x y : Option D} (hix : D.ix sm (.int ((num / 208 + j * step) % 26)) = .ok (.str (S [c]))) (hj : j ≤ 1000) (hl : l.length ≤ 1000) :
    b_l_name_by_1 [some sc, some k, some sm, some al, some (.int num), some (.int step), some (.str (S l)), some (.int j), x, y] = .nxt [some sc, some k, some sm, some al, some (.int num), some (.int step), some (.str (S (l ++ [c]))), some (.int j), x, y] := by
  unfold b_l_name_by_1
  walk_at "ev"
theorem nb_loop {ns : List Int} {k al : D} {num step : Int} {x y : Option D} {m : Nat} (hm : m ≤ 8) :
    ∃ e, forGo (.one 7) b_l_name_by_1 ((List.range m).map fun (k : Nat) => .int k) [some (.fz (dInts ns)), some k, some (.str "abcdefghijklmnopqrstuvwxyz"), some al, some (.int num), some (.int step), some (.str ""), none, x, y] = .nxt e ∧
      ∃ l z, e = [some (.fz (dInts ns)), some k, some (.str "abcdefghijklmnopqrstuvwxyz"), some al, some (.int num), some (.int step), some (.str (S l)), z, x, y] ∧ l.length = m ∧ ∀ c ∈ l, az c = true := by
  rw [empty_S]
  refine for_range (fun n e => ∃ l z, e = [some (.fz (dInts ns)), some k, some (.str "abcdefghijklmnopqrstuvwxyz"), some al, some (.int num), some (.int step), some (.str (S l)), z, x, y] ∧ l.length = n ∧ ∀ c ∈ l, az c = true) ⟨[], none, rfl, rfl, fun c h => by cases h⟩ fun j e hj h => ?_
  obtain ⟨l, z, rfl, h1, h2⟩ := h
  obtain ⟨c, hc, hix⟩ := ix_alpha (num / 208 + j * step)
  refine ⟨_, nb_step hix (by omega) (by omega), l ++ [c], _, rfl, by simp [h1], fun d hd => ?_⟩
  rcases List.mem_append.mp hd with q | q
  · exact h2 d q
  · rw [List.mem_singleton.mp q]; exact hc
theorem name_by_ok {ns : List Int} (hl : ns.length ≤ 63) (k : Nat) : ∃ l, nm l ∧ F_l_name_by [.fz (dInts ns), .int (k : Int)] = .ok (.str (S l)) := by
  have two : cellN ns 0 / 5 % 2 = 0 ∨ cellN ns 0 / 5 % 2 = 1 := by omega
  rcases two with h | h
  · have he : D.eq (.int (cellN ns (Int.toNat 0) / 5 % 2)) (.int 1) = .ok (.bl false) := by rw [eq_int]; show Res.ok (D.bl (cellN ns 0 / 5 % 2 == 1)) = _; rw [h]; rfl
    have hz := Int.emod_nonneg (numI ns (1 + 3 * k * 1)) (b := 8) (by decide)
    have hz2 := Int.emod_lt_of_pos (numI ns (1 + 3 * k * 1)) (b := 8) (by decide)
    obtain ⟨e, he1, l, z, rfl, hl1, hl2⟩ := nb_loop (ns := ns) (k := .int k) (al := .bl false) (num := numI ns (1 + 3 * k * 1)) (step := 1 + numI ns (1 + 3 * k * 1) / 5408 % 25) (x := none) (y := none) (m := (1 + numI ns (1 + 3 * k * 1) % 8).toNat) (by omega)
    refine ⟨l, ⟨by omega, by omega, hl2⟩, ?_⟩
    unfold F_l_name_by f_l_name_by
    walk_at "ev"
  · have he : D.eq (.int (cellN ns (Int.toNat 0) / 5 % 2)) (.int 1) = .ok (.bl true) := by rw [eq_int]; show Res.ok (D.bl (cellN ns 0 / 5 % 2 == 1)) = _; rw [h]; rfl
    have hz := Int.emod_nonneg (numI ns (1 + 3 * k * 0)) (b := 8) (by decide)
    have hz2 := Int.emod_lt_of_pos (numI ns (1 + 3 * k * 0)) (b := 8) (by decide)
    obtain ⟨e, he1, l, z, rfl, hl1, hl2⟩ := nb_loop (ns := ns) (k := .int k) (al := .bl true) (num := numI ns (1 + 3 * k * 0)) (step := 1 + numI ns (1 + 3 * k * 0) / 5408 % 25) (x := none) (y := none) (m := (1 + numI ns (1 + 3 * k * 0) % 8).toNat) (by omega)
    obtain ⟨c, hc, hix⟩ := ix_alpha (numI ns (1 + 3 * k * 0) / 64 + 5 * k)
    have hp0 := Int.emod_nonneg (numI ns (1 + 3 * k * 0) / 8) (b := l.length) (by omega)
    have hp1 := Int.emod_lt_of_pos (numI ns (1 + 3 * k * 0) / 8) (b := l.length) (by omega)
    have hlen : (l.take (numI ns (1 + 3 * k * 0) / 8 % l.length).toNat ++ [c] ++ l.drop (numI ns (1 + 3 * k * 0) / 8 % l.length + 1).toNat).length = l.length := by
      simp only [List.length_append, List.length_take, List.length_drop, List.length_cons, List.length_nil]; omega
    refine ⟨l.take (numI ns (1 + 3 * k * 0) / 8 % l.length).toNat ++ [c] ++ l.drop (numI ns (1 + 3 * k * 0) / 8 % l.length + 1).toNat, ⟨by rw [hlen]; omega, by rw [hlen]; omega, fun d hd => ?_⟩, ?_⟩
    · rcases List.mem_append.mp hd with q | q
      · rcases List.mem_append.mp q with q | q
        · exact hl2 d (List.mem_of_mem_take q)
        · rw [List.mem_singleton.mp q]; exact hc
      · exact hl2 d (List.mem_of_mem_drop q)
    have b1 : (l.take (numI ns (1 + 3 * k * 0) / 8 % l.length).toNat).length ≤ 8 := by rw [List.length_take]; omega
    have b2 : (l.drop (numI ns (1 + 3 * k * 0) / 8 % l.length + 1).toNat).length ≤ 8 := by rw [List.length_drop]; omega
    unfold F_l_name_by f_l_name_by
    walk_at "ev"
end My
set_option Elab.async false
set_option linter.all false
set_option maxRecDepth 100000
set_option maxHeartbeats 4000000
open PySem Dx in
local macro_rules | `(tactic| walk_at "evop") => `(tactic| ((with_reducible apply sl_from) <;> walk_at "size"))
open PySem Dx in
local macro_rules | `(tactic| walk_at "evop") => `(tactic| ((with_reducible apply sl_to) <;> walk_at "size"))
open PySem Dx in
local macro_rules | `(tactic| walk_at "evop") => `(tactic| ((with_reducible apply len_S); walk_at "size"))
open PySem Dx in
local macro_rules | `(tactic| walk_at "evop") => `(tactic| ((with_reducible apply add_S); walk_at "size"))
open PySem Dx in
local macro_rules | `(tactic| walk_at "evop") => `(tactic| ((with_reducible apply My.number_int) <;> first | with_reducible assumption | omega))
open PySem Dx in
local macro_rules | `(tactic| walk_at "evop") => `(tactic| ((with_reducible apply My.cell_int); omega))
open PySem Dx in
local macro_rules | `(tactic| walk_at "evop") => `(tactic| with_reducible assumption)
namespace My
open PySem Dx
def KD (ks : List (List Nat × Int)) : List D := ks.map fun p => .tup [.str (S p.1), .int p.2]
def ND (ks : List (List Nat × Int)) : List D := ks.map fun p => .str (S p.1)
structure Kok (ks : List (List Nat × Int)) : Prop where
  nm : ∀ p ∈ ks, Dx.nm p.1
  pr : ∀ p ∈ ks, 0 ≤ p.2 ∧ p.2 ≤ 100000
  nd : (ks.map (·.1)).Nodup
theorem ND_flat (ks : List (List Nat × Int)) : (ND ks).all D.flat = true := by simp [ND, List.all_map]
theorem dup_ND (l : List Nat) : ∀ ks : List (List Nat × Int), dupB (ND ks) (.str (S l)) = decide (l ∈ ks.map (·.1))
  | [] => by simp [ND, dupB]
  | p :: ks => by
    have ih := dup_ND l ks
    unfold dupB ND at ih ⊢
    rw [List.map_cons, List.any_cons, ih]
    show ((S p.1 == S l) || _) = _
    rw [S_eq, List.map_cons]
    by_cases h : p.1 = l
    · subst h; simp
    · simp [h, Ne.symm h]
theorem inn_ND (l : List Nat) (ks : List (List Nat × Int)) : D.inn (.str (S l)) (.lst (ND ks)) = .ok (.bl (decide (l ∈ ks.map (·.1)))) := by
  rw [inn_names (names := ND ks) rfl (ND_flat ks), dup_ND]
theorem nin_ND (l : List Nat) (ks : List (List Nat × Int)) : D.nin (.str (S l)) (.lst (ND ks)) = .ok (.bl (!decide (l ∈ ks.map (·.1)))) := by
  unfold D.nin; rw [mem_names (names := ND ks) rfl (ND_flat ks), dup_ND]; rfl
theorem ix_abcde {k : Nat} (h : k < 5) : ∃ c, az c = true ∧ D.ix (.str "abcde") (.int (k : Int)) = .ok (.str (S [c])) := by
  have e : ("abcde" : Str) = S [97, 98, 99, 100, 101] := by decide +kernel
  refine ⟨[97, 98, 99, 100, 101].getD k 0, ?_, by rw [e]; exact ix_S (by simpa using h) (by decide)⟩
  have : k = 0 ∨ k = 1 ∨ k = 2 ∨ k = 3 ∨ k = 4 := by omega
  rcases this with rfl | rfl | rfl | rfl | rfl <;> decide
theorem KD_add {ks : List (List Nat × Int)} {l : List Nat} {p : Int} : KD ks ++ [D.tup [.str (S l), .int p]] = KD (ks ++ [(l, p)]) := by simp [KD]
theorem ND_add {ks : List (List Nat × Int)} {l : List Nat} {p : Int} : ND ks ++ [D.str (S l)] = ND (ks ++ [(l, p)]) := by simp [ND]
theorem KD_len (ks : List (List Nat × Int)) : (KD ks).length = ks.length := by simp [KD]
theorem ND_len (ks : List (List Nat × Int)) : (ND ks).length = ks.length := by simp [ND]
theorem Kok.add {ks : List (List Nat × Int)} (h : Kok ks) {l : List Nat} {p : Int} (hl : Dx.nm l) (hp : 0 ≤ p ∧ p ≤ 100000) (hn : l ∉ ks.map (·.1)) : Kok (ks ++ [(l, p)]) := by
  refine ⟨fun q m => ?_, fun q m => ?_, ?_⟩
  · rcases List.mem_append.mp m with m | m
    · exact h.nm q m
    · rw [List.mem_singleton.mp m]; exact hl
  · rcases List.mem_append.mp m with m | m
    · exact h.pr q m
    · rw [List.mem_singleton.mp m]; exact hp
  · rw [List.map_append, List.nodup_append]
    refine ⟨h.nd, by simp, fun a ha b hb e => ?_⟩
    simp at hb
    subst hb; subst e
    exact hn ha
def kInv (sc : D) (k : Nat) (e : Sl) : Prop := ∃ ks x3 x4 x5 x6, e = [some sc, some (.lst (KD ks)), some (.lst (ND ks)), x3, x4, x5, x6] ∧ Kok ks ∧ ks.length ≤ k ∧ (1 ≤ k → 1 ≤ ks.length)
theorem kinds_step {ns : List Int} (hl : ns.length ≤ 63) {k : Nat} {e : Sl} (hk : k < 5) (h : kInv (.fz (dInts ns)) k e) : ∃ e1, b_l_kinds_1 (e.set 3 (some (.int (k : Int)))) = .nxt e1 ∧ kInv (.fz (dInts ns)) (k + 1) e1 := by
  obtain ⟨ks, x3, x4, x5, x6, rfl, hok, hlen, h1⟩ := h
  obtain ⟨l, hnm, hname⟩ := name_by_ok hl k
  obtain ⟨c, hc, hix⟩ := ix_abcde hk
  have hKl := KD_len ks
  have hNl := ND_len ks
  have hl8 := hnm.hi
  have ha0 : D.add (.str (S (l.take 7))) (.str (S [c])) = .ok (.str (S (l.take 7 ++ [c]))) := add_S (by rw [List.length_take, List.length_cons, List.length_nil]; omega)
  have hsl : D.sl (.str (S l)) none (some 7) = .ok (.str (S (l.take 7))) := sl_to (by omega) (by omega)
  have fin : ∀ (l' : List Nat) (p : Int), Dx.nm l' → (0 ≤ p ∧ p ≤ 100000) → l' ∉ ks.map (·.1) → kInv (.fz (dInts ns)) (k + 1) [some (.fz (dInts ns)), some (.lst (KD ks ++ [.tup [.str (S l'), .int p]])), some (.lst (ND ks ++ [.str (S l')])), some (.int k), some (.int (numI ns (3 * k + 2))), some (.str (S l')), some (.int p)] := fun l' p a b d =>
    ⟨ks ++ [(l', p)], _, _, _, _, by rw [KD_add, ND_add], hok.add a b d, by simp; omega, fun _ => by simp⟩
  have hnm2 : Dx.nm (l.take 7 ++ [c]) := ⟨by simp, by simp; omega, fun d m => by
    rcases List.mem_append.mp m with m | m
    · exact hnm.az d (List.mem_of_mem_take m)
    · rw [List.mem_singleton.mp m]; exact hc⟩
  have key : ∀ p : Int, (0 ≤ p ∧ p ≤ 100000) → ∃ e1, (sSeq (sIf (eTest (eBin D.inn (eVar 5) (eVar 2)))
      (sSet 5 (eBin D.add (eSl (eVar 5) (eNoPart) (ePart (eC (.int 7)))) (eBin D.ix (eC (.str "abcde")) (eVar 3))))
      (sNext))
      (sIf (eTest (eBin D.nin (eVar 5) (eVar 2)))
      (sSeq (sApp 2 (eVar 5))
      (sApp 1 (eTup (eCons (eVar 5) (eCons (eVar 6) (eNil))))))
      (sNext))) [some (.fz (dInts ns)), some (.lst (KD ks)), some (.lst (ND ks)), some (.int k), some (.int (numI ns (3 * k + 2))), some (.str (S l)), some (.int p)] = .nxt e1 ∧ kInv (.fz (dInts ns)) (k + 1) e1 := fun p hp => by
    by_cases hin : l ∈ ks.map (·.1)
    · have i1 := inn_ND l ks
      rw [decide_eq_true hin] at i1
      by_cases hin2 : (l.take 7 ++ [c]) ∈ ks.map (·.1)
      · have i2 := nin_ND (l.take 7 ++ [c]) ks
        rw [decide_eq_true hin2] at i2
        apply exN
        · walk_at "ev"
        · refine ⟨ks, _, _, _, _, rfl, hok, by omega, fun _ => ?_⟩
          cases ks with
          | nil => simp at hin
          | cons a b => simp
      · have i2 := nin_ND (l.take 7 ++ [c]) ks
        rw [decide_eq_false hin2] at i2
        apply exN
        · walk_at "ev"
        · exact fin (l.take 7 ++ [c]) p hnm2 hp hin2
    · have i1 := inn_ND l ks
      have i2 := nin_ND l ks
      rw [decide_eq_false hin] at i1 i2
      apply exN
      · walk_at "ev"
      · exact fin l p hnm hp hin
  have h3 := Int.emod_nonneg (numI ns (3 * k + 2)) (b := 3) (by decide)
  by_cases h0 : numI ns (3 * k + 2) % 3 = 0
  · obtain ⟨e1, q1, q2⟩ := key (numI ns (3 * k + 2) / 1009 % 100001) (by omega)
    refine ⟨e1, ?_, q2⟩
    unfold b_l_kinds_1
    simp only [List.set_cons_succ, List.set_cons_zero]
    walk_at "ev"
  · obtain ⟨e1, q1, q2⟩ := key (numI ns (3 * k + 2) / 1009 % 100) (by omega)
    refine ⟨e1, ?_, q2⟩
    unfold b_l_kinds_1
    simp only [List.set_cons_succ, List.set_cons_zero]
    walk_at "ev"
theorem kinds_ok {ns : List Int} (hl : ns.length ≤ 63) : ∃ ks, Kok ks ∧ 1 ≤ ks.length ∧ ks.length ≤ 5 ∧ F_l_kinds [.fz (dInts ns)] = .ok (.lst (KD ks)) := by
  have h1 := Int.emod_nonneg (cellN ns (Int.toNat 0)) (b := 5) (by decide)
  have h2 := Int.emod_lt_of_pos (cellN ns (Int.toNat 0)) (b := 5) (by decide)
  obtain ⟨e, he, ks, x3, x4, x5, x6, rfl, hok, hlen, hp⟩ := for_range (i := 3) (s := b_l_kinds_1) (kInv (.fz (dInts ns))) (m := (1 + cellN ns (Int.toNat 0) % 5).toNat) (env := [some (.fz (dInts ns)), some (.lst []), some (.lst []), none, none, none, none]) ⟨[], _, _, _, _, rfl, ⟨by simp, by simp, by simp⟩, by simp, by omega⟩ fun k e hk hi => kinds_step hl (by omega) hi
  refine ⟨ks, hok, hp (by omega), by omega, ?_⟩
  unfold F_l_kinds f_l_kinds
  walk_at "ev"
end My
set_option Elab.async false
set_option linter.all false
set_option maxRecDepth 100000
set_option maxHeartbeats 4000000
namespace My
open PySem Dx
theorem scan_of_KD : ∀ {ks ks0 : List (List Nat × Int)}, Kok (ks0 ++ ks) → scan (ND ks0) (KD ks) = .ok
  | [], _, _ => rfl
  | (l, i) :: ks, ks0, h => by
    have hn := h.nm (l, i) (by simp)
    have hp := h.pr (l, i) (by simp)
    have e1 : nmB (.str (S l)) = true := by
      show nameOk (S l) = true
      unfold nameOk
      rw [S_len, S_list, decide_eq_true hn.lo, decide_eq_true hn.hi, List.all_eq_true.mpr hn.az]
      rfl
    have e2 : dupB (ND ks0) (.str (S l)) = false := by
      rw [dup_ND, decide_eq_false]
      intro m
      have nd := h.nd
      rw [List.map_append, List.nodup_append] at nd
      exact nd.2.2 l m l (by simp) rfl
    have e3 : prB (.int i) = true := by
      show (decide (0 ≤ i) && decide (i ≤ 100000)) = true
      simp; exact hp
    show (match verd (ND ks0) (.tup [.str (S l), .int i]) with | .ok => scan (ND ks0 ++ [D.str (S l)]) (KD ks) | v => v) = .ok
    have ev : verd (ND ks0) (.tup [.str (S l), .int i]) = .ok := by
      unfold verd
      dsimp only
      rw [e1, e2, e3]
      rfl
    rw [ev, ND_add (p := i)]
    exact scan_of_KD (by simpa using h)
def PD (ks : List (List Nat × Int)) : List D := ks.map fun p => .int p.2
def shopK (ks : List (List Nat × Int)) : D := .obj "Shop" [("names", .lst (ND ks)), ("prices", .lst (PD ks))]
theorem shopD_KD (ks : List (List Nat × Int)) : shopD (KD ks) = shopK ks := by
  unfold shopD shopK KD ND PD
  rw [List.map_map, List.map_map]
  rfl
theorem findIdx_ND : ∀ {ks : List (List Nat × Int)} {i : Nat} {p : List Nat × Int}, (ks.map (·.1)).Nodup → ks[i]? = some p → (ND ks).findIdx? (fun y => D.eqF y (.str (S p.1))) = some i
  | [], _, _, _, h => by simp at h
  | q :: ks, 0, p, _, h => by
    simp at h
    subst h
    show List.findIdx? _ (D.str (S q.1) :: ND ks) = _
    rw [List.findIdx?_cons]
    have : D.eqF (.str (S q.1)) (.str (S q.1)) = true := by show (S q.1 == S q.1) = true; simp
    rw [if_pos this]
  | q :: ks, i + 1, p, nd, h => by
    simp at h
    rw [List.map_cons, List.nodup_cons] at nd
    have ih := findIdx_ND nd.2 h
    show List.findIdx? _ (D.str (S q.1) :: ND ks) = _
    rw [List.findIdx?_cons]
    have : ¬ D.eqF (.str (S q.1)) (.str (S p.1)) = true := by
      show ¬ (S q.1 == S p.1) = true
      rw [S_eq]
      intro e
      refine nd.1 ?_
      rw [of_decide_eq_true e]
      exact List.mem_map.mpr ⟨p, List.mem_of_getElem? h, rfl⟩
    rw [if_neg this, ih]
    rfl
theorem index_ND {ks : List (List Nat × Int)} {i : Nat} {p : List Nat × Int} (nd : (ks.map (·.1)).Nodup) (h : ks[i]? = some p) : D.index (.lst (ND ks)) (.str (S p.1)) = .ok (.int i) := by
  unfold D.index
  dsimp only
  rw [if_pos ⟨rfl, ND_flat ks⟩, findIdx_ND nd h]
end My
open PySem Dx in
local macro_rules | `(tactic| walk_at "evop") => `(tactic| ((with_reducible apply fld_ap); exact rfl))
open PySem Dx in
local macro_rules | `(tactic| walk_at "evop") => `(tactic| with_reducible assumption)
namespace My
open PySem Dx
theorem place_name {ks : List (List Nat × Int)} (hk : Kok ks) {i : Nat} {p : List Nat × Int} (h : ks[i]? = some p) : F_p_Shop_place [shopK ks, .str (S p.1)] = .ok (.int i) := by
  have m : p.1 ∈ ks.map (·.1) := List.mem_map.mpr ⟨p, List.mem_of_getElem? h, rfl⟩
  have a1 := nin_ND p.1 ks
  rw [decide_eq_true m] at a1
  have a2 := index_ND hk.nd h
  unfold F_p_Shop_place f_p_Shop_place shopK
  walk_at "ev"
end My
set_option Elab.async false
set_option linter.all false
set_option maxRecDepth 100000
set_option maxHeartbeats 4000000
namespace My
open PySem Dx
structure Bk (bs : List Int) : Prop where
  len : bs.length ≤ 5
  pos : ∀ b ∈ bs, 0 ≤ b ∧ b ≤ 9
def prodB : List Int → Int
  | [] => 1
  | b :: bs => (b + 1) * prodB bs
def countsB : List Int → Int → List Int
  | [], _ => []
  | b :: bs, n => n % (b + 1) :: countsB bs (n / (b + 1))
def numB : List Int → List Int → Int
  | b :: bs, c :: cs => c + (b + 1) * numB bs cs
  | _, _ => 0
theorem prodB_pos : ∀ {bs : List Int}, (∀ b ∈ bs, 0 ≤ b) → 1 ≤ prodB bs
  | [], _ => Int.le_refl _
  | b :: bs, h => by
    have h1 := h b List.mem_cons_self
    have h2 := prodB_pos (bs := bs) fun c m => h c (List.mem_cons_of_mem _ m)
    show 1 ≤ (b + 1) * prodB bs
    have : 0 ≤ b * prodB bs := Int.mul_nonneg h1 (by omega)
    rw [Int.add_mul]
    omega
theorem numB_counts : ∀ {bs : List Int} {n : Int}, (∀ b ∈ bs, 0 ≤ b) → 0 ≤ n → n < prodB bs → numB bs (countsB bs n) = n
  | [], n, _, h1, h2 => by
    have : n < 1 := h2
    show (0 : Int) = n
    omega
  | b :: bs, n, h, h1, h2 => by
    have hb := h b List.mem_cons_self
    have h2' : n < (b + 1) * prodB bs := h2
    show n % (b + 1) + (b + 1) * numB bs (countsB bs (n / (b + 1))) = n
    rw [numB_counts (fun c m => h c (List.mem_cons_of_mem _ m)) (Int.ediv_nonneg h1 (by omega)) (Int.ediv_lt_of_lt_mul (by omega) (by rw [Int.mul_comm]; exact h2'))]
    exact Int.emod_add_mul_ediv n (b + 1)
theorem countsB_len : ∀ {bs : List Int} {n : Int}, (countsB bs n).length = bs.length
  | [], _ => rfl
  | b :: bs, n => by simp [countsB, countsB_len]
theorem countsB_mem : ∀ {bs : List Int} {n : Int}, (∀ b ∈ bs, 0 ≤ b ∧ b ≤ 9) → ∀ c ∈ countsB bs n, 0 ≤ c ∧ c ≤ 9
  | [], _, _, c, m => by cases m
  | b :: bs, n, h, c, m => by
    have hb := h b List.mem_cons_self
    rcases List.mem_cons.mp m with e | m
    · have h1 := Int.emod_nonneg n (b := b + 1) (by omega)
      have h2 := Int.emod_lt_of_pos n (b := b + 1) (by omega)
      omega
    · exact countsB_mem (fun c m => h c (List.mem_cons_of_mem _ m)) c m
/-- a product so far and what is to come -/
def upto (m : Int) (bs : List Int) : Prop := 1 ≤ m ∧ m * prodB bs ≤ 100000
theorem upto.fits {m : Int} {bs : List Int} (h : upto m bs) (hb : ∀ b ∈ bs, 0 ≤ b) : D.fits m = true := by
  have h1 := prodB_pos hb
  have : m ≤ m * prodB bs := by
    have := Int.mul_le_mul_of_nonneg_left h1 (by have := h.1; omega : (0 : Int) ≤ m)
    omega
  have := h.1
  have := h.2
  exact fits_of (by omega) (by omega)
theorem upto.next {m b : Int} {bs : List Int} (h : upto m (b :: bs)) (hb : 0 ≤ b) : upto (m * (b + 1)) bs := by
  refine ⟨?_, by rw [Int.mul_assoc]; exact h.2⟩
  have : 0 ≤ m * b := Int.mul_nonneg (by have := h.1; omega) hb
  have := h.1
  rw [Int.mul_add]
  omega
theorem prodB_le : ∀ {bs : List Int}, (∀ b ∈ bs, 0 ≤ b ∧ b ≤ 9) → prodB bs ≤ 10 ^ bs.length
  | [], _ => Int.le_refl _
  | b :: bs, h => by
    have hb := h b List.mem_cons_self
    have ih := prodB_le fun c m => h c (List.mem_cons_of_mem _ m)
    show (b + 1) * prodB bs ≤ 10 ^ (bs.length + 1)
    have h1 : (b + 1) * prodB bs ≤ (b + 1) * 10 ^ bs.length := Int.mul_le_mul_of_nonneg_left ih (by omega)
    have h2 : (0 : Int) ≤ 10 ^ bs.length := Int.pow_nonneg (by decide)
    have h3 : (b + 1) * (10 : Int) ^ bs.length ≤ 10 * 10 ^ bs.length := Int.mul_le_mul_of_nonneg_right (by omega) h2
    rw [Int.pow_succ, Int.mul_comm _ 10]
    omega
theorem Bk.upto {bs : List Int} (h : Bk bs) : My.upto 1 bs := by
  refine ⟨Int.le_refl _, ?_⟩
  have h1 := prodB_le h.pos
  have h2 : (10 : Int) ^ bs.length ≤ 10 ^ 5 := by
    have := h.len
    have : ∀ n : Nat, n ≤ 5 → (10 : Int) ^ n ≤ 10 ^ 5 := by decide
    exact this _ h.len
  omega
theorem Bk.nn {bs : List Int} (h : Bk bs) : ∀ b ∈ bs, 0 ≤ b := fun b m => (h.pos b m).1
theorem within_loop (d : D) : ∀ (bs : List Int) (m : Int) (x : Option D), (∀ b ∈ bs, 0 ≤ b) → upto m bs →
    ∃ y, forGo (.one 2) b_p_within_1 (dInts bs) [some d, some (.int m), x] = .nxt [some d, some (.int (m * prodB bs)), y]
  | [], m, x, _, _ => ⟨x, by simp [prodB]⟩
  | b :: bs, m, x, hb, h => by
    have h1 := h.fits hb
    obtain ⟨y, hy⟩ := within_loop d bs (m * (b + 1)) (some (.int b)) (fun c q => hb c (List.mem_cons_of_mem _ q)) (h.next (hb b List.mem_cons_self))
    exact ⟨y, by unfold b_p_within_1 at hy ⊢; simp [forGo_one, h1, hy, prodB, Int.mul_assoc]⟩
theorem within_ok {bs : List Int} (h : Bk bs) : F_p_within [.lst (dInts bs)] = .ok (.int (prodB bs)) := by
  obtain ⟨y, hy⟩ := within_loop (.lst (dInts bs)) bs 1 none h.nn h.upto
  simp [F_p_within, fnSem_ap, f_p_within, hy]
theorem many_loop (d : D) : ∀ (bs : List Int) (m : Int) (x : Option D), (∀ b ∈ bs, 0 ≤ b) → upto m bs →
    ∃ y, forGo (.one 2) b_l_many_1 (dInts bs) [some d, some (.int m), x] = .nxt [some d, some (.int (m * prodB bs)), y]
  | [], m, x, _, _ => ⟨x, by simp [prodB]⟩
  | b :: bs, m, x, hb, h => by
    have h1 := h.fits hb
    obtain ⟨y, hy⟩ := many_loop d bs (m * (b + 1)) (some (.int b)) (fun c q => hb c (List.mem_cons_of_mem _ q)) (h.next (hb b List.mem_cons_self))
    exact ⟨y, by unfold b_l_many_1 at hy ⊢; simp [forGo_one, h1, hy, prodB, Int.mul_assoc]⟩
theorem many_ok {bs : List Int} (h : Bk bs) : F_l_many [.lst (dInts bs)] = .ok (.int (prodB bs)) := by
  obtain ⟨y, hy⟩ := many_loop (.lst (dInts bs)) bs 1 none h.nn h.upto
  simp [F_l_many, fnSem_ap, f_l_many, hy]
theorem div_step {b n : Int} (hb : 0 ≤ b ∧ b ≤ 9) : D.mod (.int n) (.int (b + 1)) = .ok (.int (n % (b + 1))) ∧ D.fdiv (.int n) (.int (b + 1)) = .ok (.int (n / (b + 1))) := ⟨mod_int (by omega), fdiv_int (by omega) (by omega)⟩
theorem counts_of_loop (d d1 : D) : ∀ (bs : List Int) (n : Int) (acc : List Int) (x : Option D), (∀ b ∈ bs, 0 ≤ b ∧ b ≤ 9) → acc.length + bs.length ≤ 100 →
    ∃ n' y, forGo (.one 4) b_p_counts_of_1 (dInts bs) [some d, some d1, some (.lst (dInts acc)), some (.int n), x] =
      .nxt [some d, some d1, some (.lst (dInts (acc ++ countsB bs n))), n', y]
  | [], n, acc, x, _, _ => ⟨_, x, by simp [countsB]; rfl⟩
  | b :: bs, n, acc, x, hb, hl => by
    obtain ⟨h1, h2⟩ := div_step (n := n) (hb b List.mem_cons_self)
    have hl' : acc.length + bs.length + 1 ≤ 100 := hl
    obtain ⟨n', y, hy⟩ := counts_of_loop d d1 bs (n / (b + 1)) (acc ++ [n % (b + 1)]) (some (.int b)) (fun c q => hb c (List.mem_cons_of_mem _ q)) (by simp; omega)
    have e : dInts acc ++ [D.int (n % (b + 1))] = dInts (acc ++ [n % (b + 1)]) := by simp [dInts_append]
    have hz : acc.length < 100000 := by omega
    refine ⟨n', y, ?_⟩
    unfold b_p_counts_of_1 at hy ⊢; simp [forGo_one, h1, h2, hz, e, hy, countsB]
theorem counts_of_ok {bs : List Int} (h : Bk bs) (n : Int) : F_p_counts_of [.lst (dInts bs), .int n] = .ok (.lst (dInts (countsB bs n))) := by
  obtain ⟨n', y, hy⟩ := counts_of_loop (.lst (dInts bs)) (.int n) bs n [] none h.pos (by have := h.len; simp; omega)
  simp at hy
  simp [F_p_counts_of, fnSem_ap, f_p_counts_of, hy]
theorem counts_loop (d : D) : ∀ (bs : List Int) (n : Int) (acc : List Int) (x : Option D), (∀ b ∈ bs, 0 ≤ b ∧ b ≤ 9) → acc.length + bs.length ≤ 100 →
    ∃ n' y, forGo (.one 3) b_l_counts_1 (dInts bs) [some d, some (.int n), some (.lst (dInts acc)), x] =
      .nxt [some d, n', some (.lst (dInts (acc ++ countsB bs n))), y]
  | [], n, acc, x, _, _ => ⟨_, x, by simp [countsB]; rfl⟩
  | b :: bs, n, acc, x, hb, hl => by
    obtain ⟨h1, h2⟩ := div_step (n := n) (hb b List.mem_cons_self)
    have hl' : acc.length + bs.length + 1 ≤ 100 := hl
    obtain ⟨n', y, hy⟩ := counts_loop d bs (n / (b + 1)) (acc ++ [n % (b + 1)]) (some (.int b)) (fun c q => hb c (List.mem_cons_of_mem _ q)) (by simp; omega)
    have e : dInts acc ++ [D.int (n % (b + 1))] = dInts (acc ++ [n % (b + 1)]) := by simp [dInts_append]
    have hz : acc.length < 100000 := by omega
    refine ⟨n', y, ?_⟩
    unfold b_l_counts_1 at hy ⊢; simp [forGo_one, h1, h2, hz, e, hy, countsB]
theorem counts_ok {bs : List Int} (h : Bk bs) (n : Int) : F_l_counts [.lst (dInts bs), .int n] = .ok (.lst (dInts (countsB bs n))) := by
  obtain ⟨n', y, hy⟩ := counts_loop (.lst (dInts bs)) bs n [] none h.pos (by have := h.len; simp; omega)
  simp at hy
  simp [F_l_counts, fnSem_ap, f_l_counts, hy]
theorem zipD_cons (a b : D) (as bs : List D) : zipD (a :: as) (b :: bs) = .tup [a, b] :: zipD as bs := rfl
theorem zipD_nil (bs : List D) : zipD [] bs = [] := by cases bs <;> rfl
theorem number_of_loop (d d1 : D) : ∀ (bs cs : List Int) (n s : Int) (x y : Option D), cs.length = bs.length → (∀ b ∈ bs, 0 ≤ b) → (∀ c ∈ cs, 0 ≤ c ∧ c ≤ 9) → upto s bs →
    ∃ s' x' y', forGo (.two 4 5) b_p_number_of_1 (zipD (dInts bs) (dInts cs)) [some d, some d1, some (.int n), some (.int s), x, y] =
      .nxt [some d, some d1, some (.int (n + s * numB bs cs)), s', x', y']
  | [], [], n, s, x, y, _, _, _, _ => ⟨_, x, y, by simp [zipD_nil, numB]; rfl⟩
  | b :: bs, c :: cs, n, s, x, y, hl, hb, hc, h => by
    have h1 := h.fits hb
    obtain ⟨s', x', y', hy⟩ := number_of_loop d d1 bs cs (n + c * s) (s * (b + 1)) (some (.int b)) (some (.int c)) (by simpa using hl) (fun c q => hb c (List.mem_cons_of_mem _ q)) (fun e q => hc e (List.mem_cons_of_mem _ q)) (h.next (hb b List.mem_cons_self))
    refine ⟨s', x', y', ?_⟩
    have e : n + c * s + s * (b + 1) * numB bs cs = n + s * (c + (b + 1) * numB bs cs) := by rw [Int.mul_add s c, Int.mul_assoc s (b + 1), Int.mul_comm c s, Int.add_assoc]
    unfold b_p_number_of_1 at hy ⊢; simp [zipD_cons, forGo_two, h1, hy, numB, e]
theorem zipM_lt (a b : List D) : D.zipM [.lst a, .tup b] = .ok (zipD a b) := rfl
theorem zipM_tl (a b : List D) : D.zipM [.tup a, .lst b] = .ok (zipD a b) := rfl
theorem number_of_any {bs cs : List Int} {d1 : D} (hz : D.zipM [.lst (dInts bs), d1] = .ok (zipD (dInts bs) (dInts cs))) (h : Bk bs) (hl : cs.length = bs.length) (hc : ∀ c ∈ cs, 0 ≤ c ∧ c ≤ 9) : F_p_number_of [.lst (dInts bs), d1] = .ok (.int (numB bs cs)) := by
  obtain ⟨s', x', y', hy⟩ := number_of_loop (.lst (dInts bs)) d1 bs cs 0 1 none none hl h.nn hc h.upto
  simp at hy
  simp [F_p_number_of, fnSem_ap, f_p_number_of, hy, hz]
theorem number_of_tup {bs cs : List Int} (h : Bk bs) (hl : cs.length = bs.length) (hc : ∀ c ∈ cs, 0 ≤ c ∧ c ≤ 9) : F_p_number_of [.lst (dInts bs), .tup (dInts cs)] = .ok (.int (numB bs cs)) := number_of_any (zipM_lt _ _) h hl hc
theorem step_loop (d d1 : D) : ∀ (bs cs : List Int) (n s : Int) (x y : Option D), cs.length = bs.length → (∀ b ∈ bs, 0 ≤ b) → (∀ c ∈ cs, 0 ≤ c ∧ c ≤ 9) → upto s bs →
    ∃ s' x' y', forGo (.two 4 5) b_l_step_1 (zipD (dInts bs) (dInts cs)) [some d, some d1, some (.int s), some (.int n), x, y] =
      .nxt [some d, some d1, s', some (.int (n + s * numB bs cs)), x', y']
  | [], [], n, s, x, y, _, _, _, _ => ⟨_, x, y, by simp [zipD_nil, numB]; rfl⟩
  | b :: bs, c :: cs, n, s, x, y, hl, hb, hc, h => by
    have h1 := h.fits hb
    obtain ⟨s', x', y', hy⟩ := step_loop d d1 bs cs (n + c * s) (s * (b + 1)) (some (.int b)) (some (.int c)) (by simpa using hl) (fun c q => hb c (List.mem_cons_of_mem _ q)) (fun e q => hc e (List.mem_cons_of_mem _ q)) (h.next (hb b List.mem_cons_self))
    refine ⟨s', x', y', ?_⟩
    have e : n + c * s + s * (b + 1) * numB bs cs = n + s * (c + (b + 1) * numB bs cs) := by rw [Int.mul_add s c, Int.mul_assoc s (b + 1), Int.mul_comm c s, Int.add_assoc]
    unfold b_l_step_1 at hy ⊢; simp [zipD_cons, forGo_two, h1, hy, numB, e]
theorem step_ok {bs cs : List Int} (h : Bk bs) (hl : cs.length = bs.length) (hc : ∀ c ∈ cs, 0 ≤ c ∧ c ≤ 9) : F_l_step [.lst (dInts bs), .tup (dInts cs)] = .ok (.int (numB bs cs)) := by
  obtain ⟨s', x', y', hy⟩ := step_loop (.lst (dInts bs)) (.tup (dInts cs)) bs cs 0 1 none none hl h.nn hc h.upto
  simp at hy
  simp [F_l_step, fnSem_ap, f_l_step, hy, zipM_lt]
end My
set_option Elab.async false
set_option linter.all false
set_option maxRecDepth 100000
set_option maxHeartbeats 4000000
namespace My
open PySem Dx
theorem whole_ii (x a b : Int) : F_p_is_whole [.int x, .int a, .int b] = .ok (.bl (decide (a ≤ x) && decide (x ≤ b))) := by
  by_cases h : a ≤ x <;> simp [F_p_is_whole, fnSem_ap, f_p_is_whole, h]
theorem whole_yes {x a b : Int} (h1 : a ≤ x) (h2 : x ≤ b) : F_p_is_whole [.int x, .int a, .int b] = .ok (.bl true) := by
  rw [whole_ii, decide_eq_true h1, decide_eq_true h2]; rfl
structure Gb (n : Nat) (bs : List Int) : Prop where
  bk : Bk bs
  len : bs.length = n
  few : prodB bs ≤ 300
theorem dInts_len (bs : List Int) : (dInts bs).length = bs.length := by simp [dInts]
theorem allW {bs : List Int} (h : ∀ b ∈ bs, 0 ≤ b ∧ b ≤ 9) : allGo h_p_is_basket_1 (dInts bs) = .ok true := by
  rw [allGo_all (p := fun _ => true)]
  · simp
  · intro d hd
    obtain ⟨x, hx, rfl⟩ := List.mem_map.mp (show d ∈ bs.map D.int from hd)
    have h2 := h x hx
    have hw := whole_yes h2.1 h2.2
    unfold h_p_is_basket_1
    walk_at "ev"
theorem is_basket_ok {ks : List (List Nat × Int)} {bs : List Int} (h : Bk bs) (hl : bs.length = ks.length) : F_p_is_basket [shopK ks, .lst (dInts bs)] = .ok (.bl true) := by
  have h1 := allW h.pos
  have h2 := ND_len ks
  have h3 := dInts_len bs
  have e : D.ne (.int ((dInts bs).length : Int)) (.int ((ND ks).length : Int)) = .ok (.bl false) := by
    rw [ne_int, h2, h3, hl]; simp
  have f : D.fld "Shop" "names" (shopK ks) = .ok (.lst (ND ks)) := rfl
  unfold F_p_is_basket f_p_is_basket
  walk_at "ev"
theorem need_basket_ok {ks : List (List Nat × Int)} {bs : List Int} (h : Gb ks.length bs) : F_p_need_basket [shopK ks, .lst (dInts bs)] = .ok .non := by
  have h1 := is_basket_ok h.bk h.len
  have h2 := within_ok h.bk
  have h3 := h.few
  unfold F_p_need_basket f_p_need_basket
  walk_at "ev"
end My
set_option Elab.async false
set_option linter.all false
set_option maxRecDepth 100000
set_option maxHeartbeats 4000000
open PySem Dx in
local macro_rules | `(tactic| walk_at "evop") => `(tactic| ((with_reducible apply sl_from) <;> walk_at "size"))
open PySem Dx in
local macro_rules | `(tactic| walk_at "evop") => `(tactic| ((with_reducible apply sl_to) <;> walk_at "size"))
open PySem Dx in
local macro_rules | `(tactic| walk_at "evop") => `(tactic| ((with_reducible apply len_S); walk_at "size"))
open PySem Dx in
local macro_rules | `(tactic| walk_at "evop") => `(tactic| ((with_reducible apply add_S); walk_at "size"))
open PySem Dx in
local macro_rules | `(tactic| walk_at "evop") => `(tactic| ((with_reducible apply My.number_int) <;> first | with_reducible assumption | omega))
open PySem Dx in
local macro_rules | `(tactic| walk_at "evop") => `(tactic| ((with_reducible apply My.cell_int); omega))
open PySem Dx in
local macro_rules | `(tactic| walk_at "evop") => `(tactic| with_reducible assumption)
namespace My
open PySem Dx
theorem prodB_snoc : ∀ (bs : List Int) (c : Int), prodB (bs ++ [c]) = prodB bs * (c + 1)
  | [], c => by simp [prodB]
  | b :: bs, c => by
    show (b + 1) * prodB (bs ++ [c]) = (b + 1) * prodB bs * (c + 1)
    rw [prodB_snoc bs c, Int.mul_assoc]
theorem dInts_snoc (bs : List Int) (c : Int) : dInts bs ++ [D.int c] = dInts (bs ++ [c]) := by simp [dInts]
def bInv (sc kd st : D) (k : Nat) (e : Sl) : Prop := ∃ bs room x5 x6, e = [some sc, some kd, some st, some (.int room), some (.lst (dInts bs)), x5, x6] ∧ bs.length = k ∧ (∀ b ∈ bs, 0 ≤ b ∧ b ≤ 9) ∧ 1 ≤ room ∧ prodB bs * room ≤ 300
theorem basket_step {ns : List Int} (hl : ns.length ≤ 63) {kd : D} {st : Int} (hst : 0 ≤ st) {k : Nat} {e : Sl} (hk : k < 5) (h : bInv (.fz (dInts ns)) kd (.int st) k e) : ∃ e1, b_l_basket_1 (e.set 5 (some (.int (k : Int)))) = .nxt e1 ∧ bInv (.fz (dInts ns)) kd (.int st) (k + 1) e1 := by
  obtain ⟨bs, room, x5, x6, rfl, hlen, hb, hr, hp⟩ := h
  obtain ⟨m, hm, m1, m2, m3⟩ : ∃ m : Int, D.min2 [.int 10, .int room] = .ok (.int m) ∧ 1 ≤ m ∧ m ≤ 10 ∧ m ≤ room := by
    by_cases q : room < 10
    · exact ⟨room, by rw [min2_int, if_pos q], hr, by omega, Int.le_refl _⟩
    · exact ⟨10, by rw [min2_int, if_neg q], by omega, by omega, by omega⟩
  have c0 := Int.emod_nonneg (numI ns (st + k) / 5) (b := m) (by omega)
  have c1 := Int.emod_lt_of_pos (numI ns (st + k) / 5) (b := m) (by omega)
  obtain ⟨c, hc⟩ : ∃ c, c = numI ns (st + k) / 5 % m := ⟨_, rfl⟩
  have hmod : D.mod (.int (numI ns (st + k) / 5)) (.int m) = .ok (.int c) := by rw [hc]; exact mod_int (by omega)
  have hl2 := dInts_len bs
  rw [← hc] at c0 c1
  simp only [List.set_cons_succ, List.set_cons_zero]
  apply exN
  · unfold b_l_basket_1
    walk_at "ev"
  · refine ⟨bs ++ [c], room / (c + 1), _, _, by rw [dInts_snoc], by simp [hlen], fun b m => ?_, ?_, ?_⟩
    · rcases List.mem_append.mp m with q | q
      · exact hb b q
      · rw [List.mem_singleton.mp q]; omega
    · exact Int.le_ediv_of_mul_le (by omega) (by omega)
    · rw [prodB_snoc, Int.mul_assoc]
      have q1 : (c + 1) * (room / (c + 1)) ≤ room := Int.mul_ediv_self_le (by omega)
      have q2 := prodB_pos fun b m => (hb b m).1
      exact Int.le_trans (Int.mul_le_mul_of_nonneg_left q1 (by omega)) hp
theorem basket_ok {ns : List Int} (hl : ns.length ≤ 63) {ks : List (List Nat × Int)} (hks : ks.length ≤ 5) {st : Int} (hst : 0 ≤ st) : ∃ bs, Gb ks.length bs ∧ F_l_basket [.fz (dInts ns), .lst (KD ks), .int st] = .ok (.lst (dInts bs)) := by
  have hkl := KD_len ks
  have h1 := Int.emod_nonneg (cellN ns (Int.toNat 1)) (b := 64) (by decide)
  have key : ∀ room : Int, (room = 24 ∨ room = 300) → ∃ e, (∃ bs, Gb ks.length bs ∧ e[4]? = some (some (.lst (dInts bs)))) ∧ forGo (.one 5) b_l_basket_1 ((List.range ks.length).map fun (k : Nat) => .int k) [some (.fz (dInts ns)), some (.lst (KD ks)), some (.int st), some (.int room), some (.lst []), none, none] = .nxt e := fun room hr => by
    obtain ⟨e, he, bs, room', x5, x6, rfl, g1, g2, g3, g4⟩ := for_range (i := 5) (s := b_l_basket_1) (bInv (.fz (dInts ns)) (.lst (KD ks)) (.int st)) (m := ks.length) (env := [some (.fz (dInts ns)), some (.lst (KD ks)), some (.int st), some (.int room), some (.lst []), none, none]) ⟨[], room, _, _, rfl, rfl, by simp, by omega, by show 1 * room ≤ 300; omega⟩ fun k e hk hi => basket_step hl hst (by omega) hi
    refine ⟨_, ⟨bs, ⟨⟨by omega, g2⟩, g1, ?_⟩, rfl⟩, he⟩
    have q2 := prodB_pos fun b m => (g2 b m).1
    have : prodB bs * 1 ≤ prodB bs * room' := Int.mul_le_mul_of_nonneg_left g3 (by omega)
    omega
  have hrng : D.rng1 [.int ((KD ks).length : Int)] = .ok ((List.range ks.length).map fun (k : Nat) => .int k) := by
    rw [rng1_ok (by omega) (by omega), hkl]; rfl
  by_cases h : cellN ns (Int.toNat 1) % 64 = 1
  · have he : D.eq (.int (cellN ns (Int.toNat 1) % 64)) (.int 1) = .ok (.bl true) := by rw [eq_int, h]; rfl
    obtain ⟨e, ⟨bs, hg, h4⟩, hf⟩ := key 300 (.inr rfl)
    refine ⟨bs, hg, ?_⟩
    have hv : eVar 4 e = .ok (.lst (dInts bs)) := eVar_ap h4
    unfold F_l_basket f_l_basket
    walk_at "ev"
  · have he : D.eq (.int (cellN ns (Int.toNat 1) % 64)) (.int 1) = .ok (.bl false) := by rw [eq_int, beq_eq_false_iff_ne.mpr h]
    obtain ⟨e, ⟨bs, hg, h4⟩, hf⟩ := key 24 (.inl rfl)
    refine ⟨bs, hg, ?_⟩
    have hv : eVar 4 e = .ok (.lst (dInts bs)) := eVar_ap h4
    unfold F_l_basket f_l_basket
    walk_at "ev"
end My
set_option Elab.async false
set_option linter.all false
set_option maxRecDepth 100000
set_option maxHeartbeats 4000000
namespace My
open PySem Dx
inductive Off (ks : List (List Nat × Int)) : D → Prop
  | slip {a b : List Nat} {x : Int} (ha : a ∈ ks.map (·.1)) (hb : b ∈ ks.map (·.1)) (hne : a ≠ b) (h1 : 1 ≤ x) (h2 : x ≤ 100000) : Off ks (.tup [.str "slip", .str (S a), .str (S b), .int x])
  | share {a : List Nat} {p : Int} (ha : a ∈ ks.map (·.1)) (h1 : 1 ≤ p) (h2 : p ≤ 100) : Off ks (.tup [.str "share", .str (S a), .int p])
  | more {a : List Nat} {m p : Int} (ha : a ∈ ks.map (·.1)) (h1 : 2 ≤ m) (h2 : m ≤ 9) (h3 : 1 ≤ p) (h4 : p ≤ m - 1) : Off ks (.tup [.str "more", .str (S a), .int m, .int p])
  | set {ws : List (List Nat × Int)} {p : Int} (hw : ws ≠ []) (sub : ∀ w ∈ ws, w.1 ∈ ks.map (·.1) ∧ 1 ≤ w.2 ∧ w.2 ≤ 9) (nd : (ws.map (·.1)).Nodup) (h1 : 0 ≤ p) (h2 : p ≤ 100000) : Off ks (.tup [.str "set", .tn (KD ws), .int p])
theorem ix_two {a b y : Int} : ∃ v, (v = a ∨ v = b) ∧ D.ix (.lst [.int a, .int b]) (.int (y % 2)) = .ok (.int v) := by
  have h : y % 2 = 0 ∨ y % 2 = 1 := by omega
  rcases h with h | h
  · exact ⟨a, .inl rfl, by rw [h]; rfl⟩
  · exact ⟨b, .inr rfl, by rw [h]; rfl⟩
theorem ix_three {a b c y : Int} : ∃ v, (v = a ∨ v = b ∨ v = c) ∧ D.ix (.lst [.int a, .int b, .int c]) (.int (y % 3)) = .ok (.int v) := by
  have h : y % 3 = 0 ∨ y % 3 = 1 ∨ y % 3 = 2 := by omega
  rcases h with h | h | h
  · exact ⟨a, .inl rfl, by rw [h]; rfl⟩
  · exact ⟨b, .inr (.inl rfl), by rw [h]; rfl⟩
  · exact ⟨c, .inr (.inr rfl), by rw [h]; rfl⟩
theorem ix_KD {ks : List (List Nat × Int)} (h0 : 1 ≤ ks.length) (y : Int) : ∃ p ∈ ks, D.ix (.lst (KD ks)) (.int (y % ((KD ks).length : Int))) = .ok (.tup [.str (S p.1), .int p.2]) := by
  have hl := KD_len ks
  have h1 := Int.emod_nonneg y (b := ((KD ks).length : Int)) (by omega)
  have h2 := Int.emod_lt_of_pos y (b := ((KD ks).length : Int)) (by omega)
  obtain ⟨i, hi⟩ := Int.eq_ofNat_of_zero_le h1
  have hlt : i < ks.length := by omega
  refine ⟨ks[i], List.getElem_mem hlt, ?_⟩
  rw [hi]
  exact ix_lst_at (by simp [KD, List.getElem?_eq_getElem hlt])
theorem ne_S (a b : List Nat) : D.ne (.str (S a)) (.str (S b)) = .ok (.bl (decide (a ≠ b))) := by
  rw [ne_str]
  by_cases h : a = b
  · subst h; simp
  · have : S a ≠ S b := fun e => h (S_inj e)
    simp [h, this]
/-- the wants so far -/
structure Wok (ks : List (List Nat × Int)) (a : List Nat) (k : Nat) (ws : List (List Nat × Int)) : Prop where
  ne : ws ≠ []
  few : ws.length ≤ k + 1
  num : ∀ w ∈ ws, 1 ≤ w.2 ∧ w.2 ≤ 9
  mem : ∀ w ∈ ws, w.1 = a ∨ w.1 ∈ (ks.take k).map (·.1)
  nd : (ws.map (·.1)).Nodup
def oInv (ks : List (List Nat × Int)) (a : List Nat) (x0 x1 x3 x5 : Option D) (k : Nat) (e : Sl) : Prop := ∃ ws mo x7, e = [x0, x1, some (.str (S a)), x3, some (.int mo), x5, some (.lst (KD ws)), x7] ∧ 0 ≤ mo ∧ Wok ks a k ws
theorem take_succ_mem {ks : List (List Nat × Int)} {k : Nat} {p : List Nat × Int} (h : ks[k]? = some p) {l : List Nat} : l ∈ (ks.take (k + 1)).map (·.1) ↔ l ∈ (ks.take k).map (·.1) ∨ l = p.1 := by
  rw [List.take_add_one, h]; simp
theorem offer_step {ks : List (List Nat × Int)} (hk : Kok ks) (h5 : ks.length ≤ 5) {a : List Nat} {x0 x1 x3 x5 : Option D} {k : Nat} {p : List Nat × Int} {e : Sl} (hp : ks[k]? = some p) (h : oInv ks a x0 x1 x3 x5 k e) : ∃ e1, b_l_offer_1 (e.set 7 (some (.tup [.str (S p.1), .int p.2]))) = .nxt e1 ∧ oInv ks a x0 x1 x3 x5 (k + 1) e1 := by
  obtain ⟨ws, mo, x7, rfl, hmo, hw⟩ := h
  have hne := ne_S p.1 a
  have hkl : k < ks.length := (List.getElem?_eq_some_iff.mp hp).1
  have hwl := KD_len ws
  have hfew := hw.few
  have same : Wok ks a (k + 1) ws := ⟨hw.ne, by have := hw.few; omega, hw.num, fun w m => (hw.mem w m).imp id fun q => (take_succ_mem hp).mpr (.inl q), hw.nd⟩
  simp only [List.set_cons_succ, List.set_cons_zero]
  by_cases c : p.1 ≠ a
  · rw [decide_eq_true c] at hne
    by_cases g : 0 < mo / 18 % 3
    · obtain ⟨v, hv, hix⟩ := ix_three (a := 1) (b := 2) (c := 9) (y := mo / 486)
      have v1 : 1 ≤ v ∧ v ≤ 9 := by omega
      have c0 := Int.emod_nonneg (mo / 54) (b := v) (by omega)
      have c1 := Int.emod_lt_of_pos (mo / 54) (b := v) (by omega)
      apply exN
      · unfold b_l_offer_1
        walk_at "ev"
      · refine ⟨ws ++ [(p.1, 1 + mo / 54 % v)], mo / 3, _, by rw [← KD_add], by omega, by simp, by simp; omega, fun w m => ?_, fun w m => ?_, ?_⟩
        · rcases List.mem_append.mp m with q | q
          · exact hw.num w q
          · rw [List.mem_singleton.mp q]; show 1 ≤ 1 + mo / 54 % v ∧ 1 + mo / 54 % v ≤ 9; omega
        · rcases List.mem_append.mp m with q | q
          · exact same.mem w q
          · rw [List.mem_singleton.mp q]; exact .inr ((take_succ_mem hp).mpr (.inr rfl))
        · rw [List.map_append, List.nodup_append]
          refine ⟨hw.nd, by simp, fun l hl m hm e => ?_⟩
          rw [List.mem_singleton.mp (show m ∈ [p.1] from hm)] at e
          subst e
          obtain ⟨w, hwm, hwe⟩ := List.mem_map.mp hl
          rcases hw.mem w hwm with q | q
          · exact c (hwe ▸ q)
          · rw [hwe] at q
            have nd := hk.nd
            rw [← List.take_append_drop k ks, List.map_append, List.nodup_append] at nd
            have hd : p.1 ∈ (ks.drop k).map (·.1) := List.mem_map.mpr ⟨p, List.mem_of_getElem? (i := 0) (by rw [List.getElem?_drop]; exact hp), rfl⟩
            exact nd.2.2 _ q _ hd rfl
    · apply exN
      · unfold b_l_offer_1
        walk_at "ev"
      · exact ⟨ws, mo / 3, _, rfl, by omega, same⟩
  · rw [decide_eq_false c] at hne
    apply exN
    · unfold b_l_offer_1
      walk_at "ev"
    · exact ⟨ws, mo / 3, _, rfl, by omega, same⟩
theorem offer_loop {ks : List (List Nat × Int)} (hk : Kok ks) (h5 : ks.length ≤ 5) {a : List Nat} (ha : a ∈ ks.map (·.1)) {x0 x1 x3 x5 : Option D} {mo c : Int} (hmo : 0 ≤ mo) (hc : 1 ≤ c ∧ c ≤ 9) :
    ∃ ws mo' x7, ws ≠ [] ∧ (∀ w ∈ ws, w.1 ∈ ks.map (·.1) ∧ 1 ≤ w.2 ∧ w.2 ≤ 9) ∧ (ws.map (·.1)).Nodup ∧ forGo (.one 7) b_l_offer_1 (KD ks) [x0, x1, some (.str (S a)), x3, some (.int mo), x5, some (.lst (KD [(a, c)])), none] = .nxt [x0, x1, some (.str (S a)), x3, some (.int mo'), x5, some (.lst (KD ws)), x7] := by
  obtain ⟨e, he, ws, mo', x7, rfl, h1, h2⟩ := for_inv (tg := .one 7) (s := b_l_offer_1) (oInv ks a x0 x1 x3 x5) (ds := KD ks) 0 (env := [x0, x1, some (.str (S a)), x3, some (.int mo), x5, some (.lst (KD [(a, c)])), none]) ⟨[(a, c)], mo, none, rfl, hmo, by simp, by simp, by simpa using hc, by simp, by simp⟩ fun k d e hd hi => by
    unfold KD at hd
    rw [List.getElem?_map] at hd
    cases hp : ks[k]? with
    | none => rw [hp] at hd; cases hd
    | some p =>
      rw [hp] at hd
      cases hd
      rw [Nat.zero_add] at hi ⊢
      obtain ⟨e1, q1, q2⟩ := offer_step hk h5 hp hi
      exact ⟨_, e1, rfl, q1, q2⟩
  refine ⟨ws, mo', x7, h2.ne, fun w m => ⟨?_, h2.num w m⟩, h2.nd, he⟩
  rcases h2.mem w m with q | q
  · rw [q]; exact ha
  · obtain ⟨v, hv, e⟩ := List.mem_map.mp q
    exact List.mem_map.mpr ⟨v, List.mem_of_mem_take hv, e⟩
end My
set_option Elab.async false
set_option linter.all false
set_option maxRecDepth 100000
set_option maxHeartbeats 4000000
namespace My
open PySem Dx
theorem eq_ii {i j : Int} {b : Bool} (h : decide (i = j) = b) : D.eq (.int i) (.int j) = .ok (.bl b) := by
  rw [eq_int]; subst h; by_cases q : i = j <;> simp [q]
theorem tupN_KD {ws : List (List Nat × Int)} (h : ws ≠ []) : D.tupN [.lst (KD ws)] = .ok (.tn (KD ws)) := by
  cases ws with
  | nil => exact absurd rfl h
  | cons a b => rfl
theorem KD_rev (ws : List (List Nat × Int)) : (KD ws).reverse = KD ws.reverse := by simp [KD]
theorem offer_ok {ks : List (List Nat × Int)} (hk : Kok ks) (h1 : 1 ≤ ks.length) (h5 : ks.length ≤ 5) {x : Int} (hx : 0 ≤ x) : ∃ o, Off ks o ∧ F_l_offer [.lst (KD ks), .int x] = .ok o := by
  obtain ⟨p, hp, ip⟩ := ix_KD h1 (x / 4)
  obtain ⟨q, hq, iq⟩ := ix_KD h1 (x / 20)
  have mp : p.1 ∈ ks.map (·.1) := List.mem_map.mpr ⟨p, hp, rfl⟩
  have mq : q.1 ∈ ks.map (·.1) := List.mem_map.mpr ⟨q, hq, rfl⟩
  have hl := KD_len ks
  have hne := ne_S q.1 p.1
  have m0 := Int.emod_nonneg x (b := 4) (by decide)
  have m1 := Int.emod_lt_of_pos x (b := 4) (by decide)
  have rest : ∀ b : Bool, D.eq (.int (x % 4)) (.int 1) = .ok (.bl b) → (b = true → q.1 = p.1) → ∃ o, Off ks o ∧ F_l_offer [.lst (KD ks), .int x] = .ok o := fun b e1 hb => by
    have e1' : b = true → D.ne (.str (S q.1)) (.str (S p.1)) = .ok (.bl false) := fun z => by rw [hne, decide_eq_false (by simpa using hb z)]
    by_cases c2 : x % 4 = 2
    · have e2 := eq_ii (decide_eq_true c2)
      have b1 : b = false := by
        have e1b := e1.symm.trans (eq_ii (decide_eq_false (show ¬ x % 4 = 1 by omega)))
        injection e1b with z; injection z
      subst b1
      have c0 := Int.emod_nonneg (x / 100) (b := 100) (by decide)
      have c1 := Int.emod_lt_of_pos (x / 100) (b := 100) (by decide)
      refine ⟨_, .share (a := p.1) (p := 1 + x / 100 % 100) mp (by omega) (by omega), ?_⟩
      unfold F_l_offer f_l_offer
      walk_at "ev"
    · have e2 := eq_ii (decide_eq_false c2)
      by_cases c3 : x % 4 = 3
      · have e3 := eq_ii (decide_eq_true c3)
        have b1 : b = false := by
          have e1b := e1.symm.trans (eq_ii (decide_eq_false (show ¬ x % 4 = 1 by omega)))
          injection e1b with z; injection z
        subst b1
        have c0 := Int.emod_nonneg (x / 100) (b := 8) (by decide)
        have c1 := Int.emod_lt_of_pos (x / 100) (b := 8) (by decide)
        have d0 := Int.emod_nonneg (x / 100 / 8) (b := 2 + x / 100 % 8 - 1) (by omega)
        have d1 := Int.emod_lt_of_pos (x / 100 / 8) (b := 2 + x / 100 % 8 - 1) (by omega)
        refine ⟨_, .more (a := p.1) (m := 2 + x / 100 % 8) (p := 1 + x / 100 / 8 % (2 + x / 100 % 8 - 1)) mp (by omega) (by omega) (by omega) (by omega), ?_⟩
        unfold F_l_offer f_l_offer
        walk_at "ev"
      · have e3 := eq_ii (decide_eq_false c3)
        obtain ⟨v, hv, hix⟩ := ix_two (a := 2) (b := 9) (y := x / 100 / 9)
        have v1 : 2 ≤ v ∧ v ≤ 9 := by omega
        have c0 := Int.emod_nonneg (x / 100) (b := v) (by omega)
        have c1 := Int.emod_lt_of_pos (x / 100) (b := v) (by omega)
        obtain ⟨u, hu, hiu⟩ := ix_two (a := 300) (b := 100001) (y := x / 11)
        have u1 : 300 ≤ u ∧ u ≤ 100001 := by omega
        have f0 := Int.emod_nonneg (x / 700) (b := u) (by omega)
        have f1 := Int.emod_lt_of_pos (x / 700) (b := u) (by omega)
        obtain ⟨ws, mo, x7, w1, w2, w3, hloop⟩ := offer_loop hk h5 mp (x0 := some (.lst (KD ks))) (x1 := some (.int x)) (x3 := some (.str (S q.1))) (x5 := none) (mo := x / 100) (c := 1 + x / 100 % v) (by omega) (by omega)
        have k1 : (KD [(p.1, 1 + x / 100 % v)]) = [.tup [.str (S p.1), .int (1 + x / 100 % v)]] := rfl
        rw [k1] at hloop
        by_cases c4 : x / 11 % 3 = 1
        · have e4 := eq_ii (decide_eq_true c4)
          have ht : D.tupN [.lst (KD ws).reverse] = .ok (.tn (KD ws.reverse)) := by rw [KD_rev]; exact tupN_KD (by simpa using w1)
          refine ⟨_, .set (ws := ws.reverse) (p := x / 700 % u) (by simpa using w1) (fun w m => w2 w (List.mem_reverse.mp m)) (by rw [List.map_reverse]; unfold List.Nodup; rw [List.pairwise_reverse]; exact w3.imp fun h => Ne.symm h) (by omega) (by omega), ?_⟩
          unfold F_l_offer f_l_offer
          cases b
          · walk_at "ev"
          · have e5 := e1' rfl
            walk_at "ev"
        · have e4 := eq_ii (decide_eq_false c4)
          have ht := tupN_KD w1
          refine ⟨_, .set (ws := ws) (p := x / 700 % u) w1 w2 w3 (by omega) (by omega), ?_⟩
          unfold F_l_offer f_l_offer
          cases b
          · walk_at "ev"
          · have e5 := e1' rfl
            walk_at "ev"
  by_cases c1 : x % 4 = 1
  · by_cases c : q.1 = p.1
    · exact rest true (eq_ii (decide_eq_true c1)) fun _ => c
    · have e1 := eq_ii (decide_eq_true c1)
      rw [decide_eq_true (by simpa using c)] at hne
      obtain ⟨v, hv, hix⟩ := ix_two (a := 100) (b := 100000) (y := x / 100 / 100)
      have v1 : 100 ≤ v ∧ v ≤ 100000 := by omega
      have c0 := Int.emod_nonneg (x / 100) (b := v) (by omega)
      have c1 := Int.emod_lt_of_pos (x / 100) (b := v) (by omega)
      refine ⟨_, .slip (a := q.1) (b := p.1) (x := 1 + x / 100 % v) mq mp c (by omega) (by omega), ?_⟩
      unfold F_l_offer f_l_offer
      walk_at "ev"
  · exact rest false (eq_ii (decide_eq_false c1)) fun z => by cases z
end My
set_option Elab.async false
set_option linter.all false
set_option maxRecDepth 100000
set_option maxHeartbeats 4000000
namespace My
open PySem Dx
theorem lc_ex {i : Nat} {f : EE} {base : Sl} {P : D → Prop} : ∀ {ds : List D}, (∀ d ∈ ds, ∃ y, f (base.set i (some d)) = .ok y ∧ P y) → ∃ ys, lcGo (.one i) eYes f base ds = .ok ys ∧ (∀ y ∈ ys, P y) ∧ ys.length = ds.length
  | [], _ => ⟨[], rfl, by simp, rfl⟩
  | d :: ds, h => by
    obtain ⟨y, h1, h2⟩ := h d List.mem_cons_self
    obtain ⟨ys, h3, h4, h5⟩ := lc_ex (ds := ds) fun c m => h c (List.mem_cons_of_mem _ m)
    refine ⟨y :: ys, ?_, by simpa using ⟨h2, h4⟩, by simp [h5]⟩
    rw [lcGo_one, h1, eYes_ap, consR_t, h3]; rfl
theorem numI_nn {ns : List Int} {i : Int} (h : 0 ≤ i) : 0 ≤ numI ns i := by
  unfold numI numN
  split
  · omega
  · exact Int.emod_nonneg _ (by decide)
theorem offers_ok {ns : List Int} (hn : ns.length ≤ 63) {ks : List (List Nat × Int)} (hk : Kok ks) (h1 : 1 ≤ ks.length) (h5 : ks.length ≤ 5) {st : Int} (hst : 0 ≤ st) : ∃ os, (∀ o ∈ os, Off ks o) ∧ os.length ≤ 12 ∧ F_l_offers [.fz (dInts ns), .lst (KD ks), .int st] = .ok (.lst os) := by
  have m0 := Int.emod_nonneg (cellN ns (Int.toNat 2)) (b := 7) (by decide)
  have m1 := Int.emod_lt_of_pos (cellN ns (Int.toNat 2)) (b := 7) (by decide)
  have key : ∀ m : Int, 0 ≤ m → m ≤ 12 → ∃ os, (∀ o ∈ os, Off ks o) ∧ os.length ≤ 12 ∧ lcGo (.one 4) eYes g_l_offers_1 [some (.fz (dInts ns)), some (.lst (KD ks)), some (.int st), some (.int m), none] ((List.range m.toNat).map fun (k : Nat) => .int k) = .ok os := fun m g0 g1 => by
    obtain ⟨os, a, b, c⟩ := lc_ex (i := 4) (f := g_l_offers_1) (base := [some (.fz (dInts ns)), some (.lst (KD ks)), some (.int st), some (.int m), none]) (P := Off ks) (ds := (List.range m.toNat).map fun (k : Nat) => .int k) fun d hd => by
      obtain ⟨k, _, rfl⟩ := List.mem_map.mp hd
      obtain ⟨o, ho, he⟩ := offer_ok hk h1 h5 (x := numI ns (st + k)) (numI_nn (by omega))
      refine ⟨o, ?_, ho⟩
      unfold g_l_offers_1
      simp only [List.set_cons_succ, List.set_cons_zero]
      walk_at "ev"
    exact ⟨os, b, by rw [c]; simp; omega, a⟩
  by_cases c : cellN ns (Int.toNat 2) / 7 % 8 = 1
  · have e1 := eq_ii (decide_eq_true c)
    obtain ⟨os, a, b, h⟩ := key (cellN ns (Int.toNat 2) % 7 + 6) (by omega) (by omega)
    refine ⟨os, a, b, ?_⟩
    unfold F_l_offers f_l_offers
    walk_at "ev"
  · have e1 := eq_ii (decide_eq_false c)
    obtain ⟨os, a, b, h⟩ := key (cellN ns (Int.toNat 2) % 7) (by omega) (by omega)
    refine ⟨os, a, b, ?_⟩
    unfold F_l_offers f_l_offers
    walk_at "ev"
end My
set_option Elab.async false
set_option linter.all false
set_option maxRecDepth 100000
set_option maxHeartbeats 4000000
namespace My
open PySem Dx
theorem eq_lit_t {a b : Str} (h : (a == b) = true) : D.eq (.str a) (.str b) = .ok (.bl true) := by rw [eq_str, h]
theorem eq_lit_f {a b : Str} (h : (a == b) = false) : D.eq (.str a) (.str b) = .ok (.bl false) := by rw [eq_str, h]
theorem in_slip : inG gdv_PARTS (.str "slip") = .ok (.bl true) := by kernel_rfl
theorem in_set : inG gdv_PARTS (.str "set") = .ok (.bl true) := by kernel_rfl
theorem in_more : inG gdv_PARTS (.str "more") = .ok (.bl true) := by kernel_rfl
theorem in_share : inG gdv_PARTS (.str "share") = .ok (.bl true) := by kernel_rfl
theorem ix_slip : ixG gdv_PARTS (.str "slip") = .ok (.int 4) := by kernel_rfl
theorem ix_set : ixG gdv_PARTS (.str "set") = .ok (.int 3) := by kernel_rfl
theorem ix_more : ixG gdv_PARTS (.str "more") = .ok (.int 4) := by kernel_rfl
theorem ix_share : ixG gdv_PARTS (.str "share") = .ok (.int 3) := by kernel_rfl
theorem hx_slip : ixG gdv_HOLDS (.str "slip") = .ok (.fn "slip_holds") := by kernel_rfl
theorem hx_set : ixG gdv_HOLDS (.str "set") = .ok (.fn "set_holds") := by kernel_rfl
theorem hx_more : ixG gdv_HOLDS (.str "more") = .ok (.fn "more_holds") := by kernel_rfl
theorem hx_share : ixG gdv_HOLDS (.str "share") = .ok (.fn "share_holds") := by kernel_rfl
end My
open PySem Dx in
local macro_rules | `(tactic| walk_at "evop") => `(tactic| with_reducible exact My.hx_share)
open PySem Dx in
local macro_rules | `(tactic| walk_at "evop") => `(tactic| with_reducible exact My.hx_more)
open PySem Dx in
local macro_rules | `(tactic| walk_at "evop") => `(tactic| with_reducible exact My.hx_set)
open PySem Dx in
local macro_rules | `(tactic| walk_at "evop") => `(tactic| with_reducible exact My.hx_slip)
open PySem Dx in
local macro_rules | `(tactic| walk_at "evop") => `(tactic| with_reducible exact My.ix_share)
open PySem Dx in
local macro_rules | `(tactic| walk_at "evop") => `(tactic| with_reducible exact My.ix_more)
open PySem Dx in
local macro_rules | `(tactic| walk_at "evop") => `(tactic| with_reducible exact My.ix_set)
open PySem Dx in
local macro_rules | `(tactic| walk_at "evop") => `(tactic| with_reducible exact My.ix_slip)
open PySem Dx in
local macro_rules | `(tactic| walk_at "evop") => `(tactic| with_reducible exact My.in_share)
open PySem Dx in
local macro_rules | `(tactic| walk_at "evop") => `(tactic| with_reducible exact My.in_more)
open PySem Dx in
local macro_rules | `(tactic| walk_at "evop") => `(tactic| with_reducible exact My.in_set)
open PySem Dx in
local macro_rules | `(tactic| walk_at "evop") => `(tactic| with_reducible exact My.in_slip)
open PySem Dx in
local macro_rules | `(tactic| walk_at "evop") => `(tactic| ((with_reducible apply gt_eq); first | with_reducible assumption | exact My.eq_lit_t (by decide +kernel) | exact My.eq_lit_f (by decide +kernel)))
open PySem Dx in
local macro_rules | `(tactic| walk_at "evop") => `(tactic| with_reducible assumption)
namespace My
open PySem Dx
theorem is_pair_ok (a b : D) : F_p_is_pair [.tup [a, b]] = .ok (.bl true) := by
  unfold F_p_is_pair f_p_is_pair
  walk_at "ev"
  exact rfl
theorem are_pairs_ok (ws : List (List Nat × Int)) : F_p_are_pairs [.tn (KD ws)] = .ok (.bl true) := by
  have h : allGo h_p_are_pairs_1 (KD ws) = .ok true := by
    rw [allGo_all (p := fun _ => true)]
    · simp
    · intro d hd
      obtain ⟨p, _, rfl⟩ := List.mem_map.mp (show d ∈ ws.map fun p => .tup [.str (S p.1), .int p.2] from hd)
      have := is_pair_ok (.str (S p.1)) (.int p.2)
      unfold h_p_are_pairs_1
      walk_at "ev"
  unfold F_p_are_pairs f_p_are_pairs
  walk_at "ev"
/-- the names in an offer -/
theorem names_set (ws : List (List Nat × Int)) (hw : ws.length ≤ 100) (p : D) : F_p_names_in [.tup [.str "set", .tn (KD ws), p]] = .ok (.lst (ND ws)) := by
  have h := are_pairs_ok ws
  have hl := KD_len ws
  have hc : lcGo (.one 1) eYes g_p_names_in_1 [some (.tup [.str "set", .tn (KD ws), p]), none] (KD ws) = .ok (ND ws) := by
    rw [lc_all (γ := fun d => match d with | .tup (a :: _) => a | d => d)]
    · simp [KD, ND]
    · intro d hd
      obtain ⟨q, _, rfl⟩ := List.mem_map.mp (show d ∈ ws.map fun p => .tup [.str (S p.1), .int p.2] from hd)
      unfold g_p_names_in_1
      simp only [List.set_cons_succ, List.set_cons_zero]
      walk_at "ev"
  unfold F_p_names_in f_p_names_in
  walk_at "ev"
theorem names_slip (a b c : D) : F_p_names_in [.tup [.str "slip", a, b, c]] = .ok (.lst [a, b]) := by
  unfold F_p_names_in f_p_names_in
  walk_at "ev"
theorem names_share (a b : D) : F_p_names_in [.tup [.str "share", a, b]] = .ok (.lst [a]) := by
  unfold F_p_names_in f_p_names_in
  walk_at "ev"
theorem names_more (a b c : D) : F_p_names_in [.tup [.str "more", a, b, c]] = .ok (.lst [a]) := by
  unfold F_p_names_in f_p_names_in
  walk_at "ev"
theorem formed_ok {ks : List (List Nat × Int)} {o : D} (h : Off ks o) : F_p_is_formed [o] = .ok (.bl true) := by
  cases h <;> (unfold F_p_is_formed f_p_is_formed; walk_at "ev"; exact rfl)
theorem nodup_sub_len {α : Type} [BEq α] [LawfulBEq α] : ∀ (l m : List α), l.Nodup → (∀ x ∈ l, x ∈ m) → l.length ≤ m.length
  | [], m, _, _ => Nat.zero_le _
  | x :: l, m, nd, h => by
    have hx := h x List.mem_cons_self
    have nd := List.nodup_cons.mp nd
    have ih := nodup_sub_len l (m.erase x) nd.2 fun y hy => (List.mem_erase_of_ne (fun (e : y = x) => nd.1 (e ▸ hy))).mpr (h y (List.mem_cons_of_mem _ hy))
    rw [List.length_erase_of_mem hx] at ih
    have : 0 < m.length := List.length_pos_of_mem hx
    rw [List.length_cons]; omega
theorem set_few {ks ws : List (List Nat × Int)} (sub : ∀ w ∈ ws, w.1 ∈ ks.map (·.1) ∧ 1 ≤ w.2 ∧ w.2 ≤ 9) (nd : (ws.map (·.1)).Nodup) : ws.length ≤ ks.length := by
  have := nodup_sub_len (ws.map (·.1)) (ks.map (·.1)) nd fun l hl => by
    obtain ⟨w, hw, rfl⟩ := List.mem_map.mp hl
    exact (sub w hw).1
  simpa using this
theorem place_mem {ks : List (List Nat × Int)} (hk : Kok ks) {l : List Nat} (h : l ∈ ks.map (·.1)) : ∃ (i : Nat) (p : List Nat × Int), ks[i]? = some p ∧ p.1 = l ∧ F_p_Shop_place [shopK ks, .str (S l)] = .ok (.int i) := by
  obtain ⟨p, hp, rfl⟩ := List.mem_map.mp h
  obtain ⟨i, hi, e⟩ := List.mem_iff_getElem.mp hp
  have e2 : ks[i]? = some p := by rw [List.getElem?_eq_getElem hi, e]
  exact ⟨i, p, e2, rfl, place_name hk e2⟩
theorem place_loop {ks : List (List Nat × Int)} (hk : Kok ks) {o : Option D} : ∀ (ls : List (List Nat)) (x : Option D), (∀ l ∈ ls, l ∈ ks.map (·.1)) → ∃ y, forGo (.one 2) b_p_need_offer_1 (ls.map fun l => .str (S l)) [some (shopK ks), o, x] = .nxt [some (shopK ks), o, y]
  | [], x, _ => ⟨x, rfl⟩
  | l :: ls, x, h => by
    obtain ⟨i, p, _, _, hp⟩ := place_mem hk (h l List.mem_cons_self)
    obtain ⟨y, hy⟩ := place_loop hk ls (some (.str (S l))) fun m hm => h m (List.mem_cons_of_mem _ hm)
    refine ⟨y, ?_⟩
    rw [List.map_cons]
    refine ev_for_one (e1 := [some (shopK ks), o, some (.str (S l))]) rfl (ev_loop_nxt (e1 := [some (shopK ks), o, some (.str (S l))]) ?_ hy)
    unfold b_p_need_offer_1
    unfold shopK at hp ⊢
    walk_at "ev"
theorem S_len (l : List Nat) : (S l).length = l.length := by simp [S, Str.length]
theorem setS_nodup : ∀ (xs acc : List Str), (acc ++ xs).Nodup → xs.foldl addS acc = acc ++ xs
  | [], acc, _ => by simp
  | x :: xs, acc, h => by
    have hx : x ∉ acc := fun m => by
      rw [List.nodup_append] at h
      exact h.2.2 _ m _ List.mem_cons_self rfl
    rw [List.foldl_cons, show addS acc x = acc ++ [x] from if_neg hx, setS_nodup xs (acc ++ [x]) (by simpa using h)]
    simp
theorem allStr_map (xs : List Str) : D.allStr (xs.map D.str) = some xs := by
  induction xs with
  | nil => rfl
  | cons x xs ih =>
    show (D.allStr (xs.map D.str)).map (x :: ·) = _
    rw [ih]; rfl
theorem lenSet_ND {ws : List (List Nat × Int)} (nd : (ws.map (·.1)).Nodup) (h : ws.length ≤ 50) : D.lenSet (.lst (ND ws)) = .ok (.int (ws.length : Int)) := by
  have e : ND ws = ((ws.map (·.1)).map S).map D.str := by simp [ND]
  have nd2 : ((ws.map (·.1)).map S).Nodup := by
    unfold List.Nodup at nd ⊢
    rw [List.pairwise_map]
    exact nd.imp fun h e => h (S_inj e)
  rw [e]
  show (match D.allStr (((ws.map (·.1)).map S).map D.str) with
    | some xs => if xs.length ≤ 50 then Res.ok (D.int (setS xs).length) else .stuck
    | none => .stuck) = _
  rw [allStr_map]
  dsimp only
  rw [if_pos (by simpa using h)]
  have := setS_nodup ((ws.map (·.1)).map S) [] (by rw [List.nil_append]; exact nd2)
  rw [List.nil_append] at this
  rw [show setS ((ws.map (·.1)).map S) = (ws.map (·.1)).map S from this]
  simp
theorem set_holds_ok {ks ws : List (List Nat × Int)} {p : Int} (h5 : ks.length ≤ 5) (hw : ws ≠ []) (sub : ∀ w ∈ ws, w.1 ∈ ks.map (·.1) ∧ 1 ≤ w.2 ∧ w.2 ≤ 9) (nd : (ws.map (·.1)).Nodup) (h1 : 0 ≤ p) (h2 : p ≤ 100000) : F_p_set_holds [.tup [.str "set", .tn (KD ws), .int p]] = .ok (.bl true) := by
  have hf := set_few sub nd
  have hpos : 0 < ws.length := List.length_pos_iff.mpr hw
  have hl := KD_len ws
  have hp := are_pairs_ok ws
  have hn := names_set ws (by omega) (.int p)
  have hs := lenSet_ND nd (by omega)
  have hr := whole_yes h1 h2
  have hall : allGo h_p_set_holds_1 (KD ws) = .ok true := by
    rw [allGo_all (p := fun _ => true)]
    · simp
    · intro d hd
      obtain ⟨q, hq, rfl⟩ := List.mem_map.mp (show d ∈ ws.map fun p => .tup [.str (S p.1), .int p.2] from hd)
      have := whole_yes (sub q hq).2.1 (sub q hq).2.2
      unfold h_p_set_holds_1
      walk_at "ev"
  have heq : D.eq (.int (ws.length : Int)) (.int ((KD ws).length : Int)) = .ok (.bl true) := eq_ii (decide_eq_true (by rw [hl]))
  unfold F_p_set_holds f_p_set_holds
  walk_at "ev"
theorem lk_more : List.lookup ("more_holds" : Str) [(("more_holds" : Str), F_p_more_holds), ("set_holds", F_p_set_holds), ("share_holds", F_p_share_holds), ("slip_holds", F_p_slip_holds)] = some F_p_more_holds := by kernel_rfl
theorem lk_set : List.lookup ("set_holds" : Str) [(("more_holds" : Str), F_p_more_holds), ("set_holds", F_p_set_holds), ("share_holds", F_p_share_holds), ("slip_holds", F_p_slip_holds)] = some F_p_set_holds := by kernel_rfl
theorem lk_share : List.lookup ("share_holds" : Str) [(("more_holds" : Str), F_p_more_holds), ("set_holds", F_p_set_holds), ("share_holds", F_p_share_holds), ("slip_holds", F_p_slip_holds)] = some F_p_share_holds := by kernel_rfl
theorem lk_slip : List.lookup ("slip_holds" : Str) [(("more_holds" : Str), F_p_more_holds), ("set_holds", F_p_set_holds), ("share_holds", F_p_share_holds), ("slip_holds", F_p_slip_holds)] = some F_p_slip_holds := by kernel_rfl
theorem holds_ok {ks : List (List Nat × Int)} (h5 : ks.length ≤ 5) {o : D} (h : Off ks o) : F_p_holds [o] = .ok (.bl true) := by
  cases h with
  | slip ha hb hne h1 h2 =>
    rename_i a b x
    have hr := whole_yes h1 h2
    have hn := ne_S a b
    rw [decide_eq_true hne] at hn
    have : F_p_slip_holds [.tup [.str "slip", .str (S a), .str (S b), .int x]] = .ok (.bl true) := by
      unfold F_p_slip_holds f_p_slip_holds
      walk_at "ev"
    have k1 := lk_more; have k2 := lk_set; have k3 := lk_share; have k4 := lk_slip
    unfold F_p_holds f_p_holds
    walk_at "ev"
  | share ha h1 h2 =>
    rename_i a p
    have hr := whole_yes h1 h2
    have : F_p_share_holds [.tup [.str "share", .str (S a), .int p]] = .ok (.bl true) := by
      unfold F_p_share_holds f_p_share_holds
      walk_at "ev"
    have k1 := lk_more; have k2 := lk_set; have k3 := lk_share; have k4 := lk_slip
    unfold F_p_holds f_p_holds
    walk_at "ev"
  | more ha h1 h2 h3 h4 =>
    rename_i a m p
    have hr := whole_yes h1 h2
    have hr2 := whole_yes h3 h4
    have : F_p_more_holds [.tup [.str "more", .str (S a), .int m, .int p]] = .ok (.bl true) := by
      unfold F_p_more_holds f_p_more_holds
      walk_at "ev"
    have k1 := lk_more; have k2 := lk_set; have k3 := lk_share; have k4 := lk_slip
    unfold F_p_holds f_p_holds
    walk_at "ev"
  | set hw sub nd h1 h2 =>
    have := set_holds_ok h5 hw sub nd h1 h2
    have k1 := lk_more; have k2 := lk_set; have k3 := lk_share; have k4 := lk_slip
    unfold F_p_holds f_p_holds
    walk_at "ev"
end My
set_option Elab.async false
set_option linter.all false
set_option maxRecDepth 100000
set_option maxHeartbeats 4000000
namespace My
open PySem Dx
theorem ev_setI_nat {i j : Nat} {f fe : EE} {d : D} {ds : List D} {env e1 : Sl} (h4 : env[i]? = some (some (.lst ds))) (h1 : f env = .ok d) (h3 : fe env = .ok (.int (j : Nat))) (h5 : j < ds.length) (h6 : env.set i (some (.lst (ds.set j d))) = e1) : sSetI i fe f (fun _ => true) env = .nxt e1 :=
  ev_setI (kk := (j : Int)) (jj := j) h1 rfl h3 h4 (by unfold L2.ixN; simp; omega) h6
theorem need_offer_ok {ks : List (List Nat × Int)} (hk : Kok ks) (h5 : ks.length ≤ 5) {o : D} (h : Off ks o) : F_p_need_offer [shopK ks, o] = .ok .non := by
  have hf := formed_ok h
  have hh := holds_ok h5 h
  obtain ⟨ls, hn, hsub⟩ : ∃ ls : List (List Nat), F_p_names_in [o] = .ok (.lst (ls.map fun l => .str (S l))) ∧ ∀ l ∈ ls, l ∈ ks.map (·.1) := by
    cases h with
    | slip ha hb hne h1 h2 => exact ⟨[_, _], names_slip _ _ _, by simpa using ⟨by simpa using ha, by simpa using hb⟩⟩
    | share ha h1 h2 => exact ⟨[_], names_share _ _, by simpa using ha⟩
    | more ha h1 h2 h3 h4 => exact ⟨[_], names_more _ _ _, by simpa using ha⟩
    | set hw sub nd h1 h2 =>
      rename_i ws p
      refine ⟨ws.map (·.1), ?_, fun l hl => ?_⟩
      · rw [names_set ws (by have := set_few sub nd; omega)]
        simp [ND]
      · obtain ⟨w, hw, rfl⟩ := List.mem_map.mp hl
        exact (sub w hw).1
  obtain ⟨y, hy⟩ := place_loop hk (o := some o) ls none hsub
  unfold F_p_need_offer f_p_need_offer
  walk_at "ev"
structure Wn (ks ws : List (List Nat × Int)) : Prop where
  ne : ws ≠ []
  sub : ∀ w ∈ ws, w.1 ∈ ks.map (·.1) ∧ 1 ≤ w.2 ∧ w.2 ≤ 9
  nd : (ws.map (·.1)).Nodup
def GD (ws : List (List Nat × Int)) : List (Str × D) := ws.map fun p => (S p.1, .int p.2)
def wantW (ks ws : List (List Nat × Int)) : List Int := ks.map fun p => (ws.lookup p.1).getD 0
theorem wantW_len (ks ws : List (List Nat × Int)) : (wantW ks ws).length = ks.length := by simp [wantW]
theorem lookup_GD (l : List Nat) : ∀ ws : List (List Nat × Int), (GD ws).lookup (S l) = (ws.lookup l).map D.int
  | [] => rfl
  | (m, c) :: ws => by
    have ih := lookup_GD l ws
    show List.lookup (S l) ((S m, D.int c) :: GD ws) = _
    rw [List.lookup_cons, List.lookup_cons, S_eq]
    by_cases e : l = m
    · subst e; simp
    · rw [decide_eq_false e, beq_eq_false_iff_ne.mpr e]
      exact ih
theorem dget_GD (ws : List (List Nat × Int)) (l : List Nat) : D.dget (GD ws) (.str (S l)) (.int 0) = .ok (.int ((ws.lookup l).getD 0)) := by
  show Res.ok (((GD ws).lookup (S l)).getD (.int 0)) = _
  rw [lookup_GD]
  cases ws.lookup l <;> rfl
theorem lookup_none_of {l : List Nat} : ∀ {ws : List (List Nat × Int)}, l ∉ ws.map (·.1) → ws.lookup l = none
  | [], _ => rfl
  | (m, c) :: ws, h => by
    rw [List.lookup_cons, beq_eq_false_iff_ne.mpr fun e => h (by rw [e]; simp)]
    exact lookup_none_of fun q => h (by rw [List.map_cons]; exact List.mem_cons_of_mem _ q)
theorem pairsG_KD : ∀ (ws acc : List (List Nat × Int)), ((acc ++ ws).map (·.1)).Nodup → D.pairsG (GD acc) (KD ws) = .ok (GD (acc ++ ws))
  | [], acc, _ => by rw [List.append_nil]; rfl
  | (l, c) :: ws, acc, nd => by
    have hl : l ∉ acc.map (·.1) := fun m => by
      rw [List.map_append, List.nodup_append] at nd
      exact nd.2.2 _ m _ (List.mem_map.mpr ⟨(l, c), List.mem_cons_self, rfl⟩) rfl
    have ih := pairsG_KD ws (acc ++ [(l, c)]) (by simpa using nd)
    show ((D.pairOf (.tup [.str (S l), .int c])).bind fun p => (D.putN (GD acc) p.1 p.2).bind fun acc2 => D.pairsG acc2 (KD ws)) = _
    show ((D.putN (GD acc) (S l) (.int c)).bind fun acc2 => D.pairsG acc2 (KD ws)) = _
    have hp : D.putN (GD acc) (S l) (.int c) = .ok (GD (acc ++ [(l, c)])) := by
      unfold D.putN
      rw [lookup_GD, lookup_none_of hl]
      simp [GD]
    rw [hp, bind_ok, ih]
    simp
theorem dictOf_KD {ws : List (List Nat × Int)} (nd : (ws.map (·.1)).Nodup) : D.dictOf [.tn (KD ws)] = .ok (.dct (GD ws)) := by
  show ((D.pairsG [] (KD ws)).map D.dct) = _
  rw [show ([] : List (Str × D)) = GD [] from rfl, pairsG_KD ws [] (by simpa using nd)]
  rfl
theorem gets_ok {shop o : Option D} (ws ks : List (List Nat × Int)) : lcGo (.one 3) eYes g_p_deal_of_1 [shop, o, some (.dct (GD ws)), none] (ND ks) = .ok (dInts (wantW ks ws)) := by
  have h : ∀ d ∈ ND ks, g_p_deal_of_1 ([shop, o, some (.dct (GD ws)), none].set 3 (some d)) = .ok (match d with | .str z => .int ((ws.lookup z.cps.toList).getD 0) | d => d) := fun d hd => by
    obtain ⟨p, _, rfl⟩ := List.mem_map.mp (show d ∈ ks.map fun p => .str (S p.1) from hd)
    have := dget_GD ws p.1
    show _ = Res.ok (D.int ((ws.lookup (S p.1).cps.toList).getD 0))
    rw [S_list]
    unfold g_p_deal_of_1
    simp only [List.set_cons_succ, List.set_cons_zero]
    walk_at "ev"
  rw [lc_all h]
  unfold ND dInts wantW
  rw [List.map_map, List.map_map]
  refine congrArg Res.ok (List.map_congr_left fun p _ => ?_)
  show D.int ((ws.lookup (S p.1).cps.toList).getD 0) = D.int ((ws.lookup p.1).getD 0)
  rw [S_list]
/-- the prices -/
theorem ix_PD {ks : List (List Nat × Int)} {i : Nat} {p : List Nat × Int} (h : ks[i]? = some p) : D.ix (.lst (PD ks)) (.int (i : Int)) = .ok (.int p.2) := ix_lst_at (by simp [PD, h])
theorem ix_KDn {ks : List (List Nat × Int)} {i : Nat} {p : List Nat × Int} (h : ks[i]? = some p) : D.ix (.lst (KD ks)) (.int (i : Int)) = .ok (.tup [.str (S p.1), .int p.2]) := ix_lst_at (by simp [KD, h])
theorem dc_one (x : Option D) (l : List Nat) : dcGo (.one 1) (eVar 1) (eC (.int 1)) [x, none] [] [.str (S l)] = .ok (GD [(l, 1)]) := by
  have h := dc_gen (tg := .one 1) (fk := eVar 1) (fv := eC (.int 1)) (base := [x, none]) (κ := fun d => match d with | .str z => z | _ => "") (γ := fun _ => .int 1) (ds := [.str (S l)]) (acc := []) (fun d hd => by
    rw [List.mem_singleton.mp hd]
    exact ⟨_, rfl, rfl, rfl⟩) (by simp)
  rw [h]; rfl
theorem dc_two (x : Option D) {a b : List Nat} (hne : a ≠ b) : dcGo (.one 1) (eVar 1) (eC (.int 1)) [x, none] [] [.str (S a), .str (S b)] = .ok (GD [(a, 1), (b, 1)]) := by
  have h := dc_gen (tg := .one 1) (fk := eVar 1) (fv := eC (.int 1)) (base := [x, none]) (κ := fun d => match d with | .str z => z | _ => "") (γ := fun _ => .int 1) (ds := [.str (S a), .str (S b)]) (acc := []) (fun d hd => by
    rcases List.mem_cons.mp hd with e | e
    · rw [e]; exact ⟨_, rfl, rfl, rfl⟩
    · rw [List.mem_singleton.mp e]; exact ⟨_, rfl, rfl, rfl⟩) (by
      simp only [List.map_nil, List.nil_append, List.map_cons, List.nodup_cons, List.mem_singleton, List.not_mem_nil, not_false_eq_true, List.nodup_nil, and_true]
      exact fun e => hne (S_inj e))
  rw [h]; rfl
theorem deal_of_prog {ks : List (List Nat × Int)} (hk : Kok ks) (h5 : ks.length ≤ 5) {o : D} (h : Off ks o) {ws : List (List Nat × Int)} {pr : Int} (hw : F_p_wanted_by [o] = .ok (.dct (GD ws))) (hp : F_p_price_of [shopK ks, o] = .ok (.int pr)) : F_p_deal_of [shopK ks, o] = .ok (.tup [.tup (dInts (wantW ks ws)), .int pr]) := by
  have hn := need_offer_ok hk h5 h
  have hg := gets_ok (shop := some (shopK ks)) (o := some o) ws ks
  have f : D.fld "Shop" "names" (shopK ks) = .ok (.lst (ND ks)) := rfl
  have hl := ND_len ks
  unfold F_p_deal_of f_p_deal_of
  walk_at "ev"
end My
set_option Elab.async false
set_option linter.all false
set_option maxRecDepth 100000
set_option maxHeartbeats 4000000
open PySem Dx in
local macro_rules | `(tactic| walk_at "ev1") => `(tactic| ((with_reducible apply My.ev_setI_nat); focus exact rfl))
namespace My
open PySem Dx
theorem want_set {ks : List (List Nat × Int)} (nd : (ks.map (·.1)).Nodup) {done : List (List Nat × Int)} {i : Nat} {p : List Nat × Int} (h : ks[i]? = some p) (hn : p.1 ∉ done.map (·.1)) (c : Int) : (wantW ks done).set i c = wantW ks (done ++ [(p.1, c)]) := by
  have hi : i < ks.length := (List.getElem?_eq_some_iff.mp h).1
  apply List.ext_getElem?
  intro j
  unfold wantW
  rw [List.getElem?_set, List.getElem?_map, List.getElem?_map, List.length_map]
  by_cases e : i = j
  · subst e
    rw [if_pos rfl, if_pos hi, h]
    simp only [Option.map_some, Option.some.injEq]
    rw [List.lookup_append, lookup_none_of hn]
    simp
  · rw [if_neg e]
    cases hj : ks[j]? with
    | none => rfl
    | some q =>
      simp only [Option.map_some, Option.some.injEq]
      rw [List.lookup_append]
      have hq : q.1 ≠ p.1 := fun z => by
        obtain ⟨hj1, hj2⟩ := List.getElem?_eq_some_iff.mp hj
        obtain ⟨hi1, hi2⟩ := List.getElem?_eq_some_iff.mp h
        have pw := List.pairwise_iff_getElem.mp nd
        rcases Nat.lt_or_gt_of_ne e with l | l
        · exact pw i j (by simpa using hi) (by simpa using hj1) l (by rw [List.getElem_map, List.getElem_map, hi2, hj2, z])
        · exact pw j i (by simpa using hj1) (by simpa using hi) l (by rw [List.getElem_map, List.getElem_map, hi2, hj2, z])
      have : List.lookup q.1 [(p.1, c)] = none := by rw [List.lookup_cons, beq_eq_false_iff_ne.mpr hq]; rfl
      rw [this]
      cases done.lookup q.1 <;> rfl
theorem dInts_set (vs : List Int) (i : Nat) (c : Int) : (dInts vs).set i (.int c) = dInts (vs.set i c) := by simp [dInts, List.map_set]
theorem deal_loop {ks : List (List Nat × Int)} (hk : Kok ks) {k o x7 : Option D} : ∀ (ws done : List (List Nat × Int)) (x5 x6 : Option D), ((done ++ ws).map (·.1)).Nodup → (∀ w ∈ ws, w.1 ∈ ks.map (·.1)) →
    ∃ y5 y6, forGo (.two 5 6) b_l_deal_1 (KD ws) [k, o, some (.lst (ND ks)), none, some (.lst (dInts (wantW ks done))), x5, x6, x7] = .nxt [k, o, some (.lst (ND ks)), none, some (.lst (dInts (wantW ks (done ++ ws)))), y5, y6, x7]
  | [], done, x5, x6, _, _ => ⟨x5, x6, by rw [List.append_nil]; rfl⟩
  | (l, c) :: ws, done, x5, x6, nd, hm => by
    obtain ⟨p, hp, e⟩ := List.mem_map.mp (hm (l, c) List.mem_cons_self)
    obtain ⟨i, hi, e2⟩ := List.mem_iff_getElem.mp hp
    have hip : ks[i]? = some p := by rw [List.getElem?_eq_getElem hi, e2]
    have hix := index_ND hk.nd hip
    have el : p.1 = l := e
    have hnot : p.1 ∉ done.map (·.1) := fun m => by
      rw [List.map_append, List.nodup_append] at nd
      exact nd.2.2 _ m _ (List.mem_map.mpr ⟨(l, c), List.mem_cons_self, rfl⟩) el
    have hlen : i < (dInts (wantW ks done)).length := by rw [dInts_len, wantW_len]; exact hi
    obtain ⟨y5, y6, hy⟩ := deal_loop hk ws (done ++ [(l, c)]) (some (.str (S l))) (some (.int c)) (by simpa using nd) fun w m => hm w (List.mem_cons_of_mem _ m)
    refine ⟨y5, y6, ?_⟩
    rw [show done ++ (l, c) :: ws = done ++ [(l, c)] ++ ws by simp]
    refine ev_for_two (e := [k, o, some (.lst (ND ks)), none, some (.lst (dInts (wantW ks done))), some (.str (S l)), x6, x7]) (e1 := [k, o, some (.lst (ND ks)), none, some (.lst (dInts (wantW ks done))), some (.str (S l)), some (.int c), x7]) rfl rfl (ev_loop_nxt (e1 := [k, o, some (.lst (ND ks)), none, some (.lst (dInts (wantW ks (done ++ [(l, c)])))), some (.str (S l)), some (.int c), x7]) ?_ hy)
    rw [el] at hix
    rw [← el, ← want_set hk.nd hip hnot c, ← dInts_set, el]
    unfold b_l_deal_1
    walk_at "ev"
theorem l_names {ks : List (List Nat × Int)} (x0 x1 : Option D) : lcGo (.one 3) eYes g_l_deal_1 [x0, x1, none, none, none, none, none, none] (KD ks) = .ok (ND ks) := by
  rw [lc_all (γ := fun d => match d with | .tup (a :: _) => a | d => d)]
  · simp [KD, ND]
  · intro d hd
    obtain ⟨q, _, rfl⟩ := List.mem_map.mp (show d ∈ ks.map fun p => .tup [.str (S p.1), .int p.2] from hd)
    unfold g_l_deal_1
    simp only [List.set_cons_succ, List.set_cons_zero]
    walk_at "ev"
theorem l_zeros {ks : List (List Nat × Int)} (x0 x1 x2 : Option D) : lcGo (.one 3) eYes g_l_deal_2 [x0, x1, x2, none, none, none, none, none] (KD ks) = .ok (dInts (wantW ks [])) := by
  rw [lc_all (γ := fun _ => .int 0)]
  · simp [KD, dInts, wantW]
  · intro d _
    rfl
/-- a deal, by the program and by the law -/
theorem deal_ok {ks : List (List Nat × Int)} (hk : Kok ks) (h5 : ks.length ≤ 5) {o : D} (h : Off ks o) : ∃ ws pr, Wn ks ws ∧ 0 ≤ pr ∧ F_p_deal_of [shopK ks, o] = .ok (.tup [.tup (dInts (wantW ks ws)), .int pr]) ∧ F_l_deal [.lst (KD ks), o] = .ok (.tup [.tup (dInts (wantW ks ws)), .int pr]) := by
  have hkl := KD_len ks
  have f1 : D.fld "Shop" "prices" (shopK ks) = .ok (.lst (PD ks)) := rfl
  have ln := fun x0 x1 => l_names (ks := ks) x0 x1
  have lz := fun x0 x1 x2 => l_zeros (ks := ks) x0 x1 x2
  cases h with
  | slip ha hb hne h1 h2 =>
    rename_i a b c
    obtain ⟨i, p, hi, hpa, _⟩ := place_mem hk ha
    obtain ⟨j, q, hj, hqb, hpl⟩ := place_mem hk hb
    have hqq := hk.pr q (List.mem_of_getElem? hj)
    have hix := index_ND hk.nd hi
    have hjx := index_ND hk.nd hj
    rw [hpa] at hix
    rw [hqb] at hjx
    have hlen : i < (dInts (wantW ks [])).length := by rw [dInts_len, wantW_len]; exact (List.getElem?_eq_some_iff.mp hi).1
    have hlen2 : j < (dInts (wantW ks [(a, 1)])).length := by rw [dInts_len, wantW_len]; exact (List.getElem?_eq_some_iff.mp hj).1
    have q1 := ix_PD hj
    have q2 := ix_KDn hj
    have hn := names_slip (.str (S a)) (.str (S b)) (.int c)
    have hd := dc_two (some (.tup [.str "slip", .str (S a), .str (S b), .int c])) hne
    have hset : (dInts (wantW ks [])).set i (.int 1) = dInts (wantW ks [(a, 1)]) := by
      rw [dInts_set, want_set hk.nd hi (by simp), hpa]; rfl
    have hset2 : (dInts (wantW ks [(a, 1)])).set j (.int 1) = dInts (wantW ks [(a, 1), (b, 1)]) := by
      rw [dInts_set, want_set hk.nd hj (by rw [hqb]; simpa using fun e => hne e.symm), hqb]; rfl
    have hneg : D.ix (.lst [.str (S a), .str (S b)]) (.int (-1)) = .ok (.str (S b)) := rfl
    obtain ⟨m, hm, hm0⟩ : ∃ m : Int, D.max2 [.int 0, .int (q.2 - c)] = .ok (.int m) ∧ 0 ≤ m := by
      by_cases g : q.2 - c > 0
      · exact ⟨q.2 - c, by rw [max2_int, if_pos g], by omega⟩
      · exact ⟨0, by rw [max2_int, if_neg g], by omega⟩
    have hw : F_p_wanted_by [.tup [.str "slip", .str (S a), .str (S b), .int c]] = .ok (.dct (GD [(a, 1), (b, 1)])) := by
      unfold F_p_wanted_by f_p_wanted_by
      walk_at "ev"
    have hp : F_p_price_of [shopK ks, .tup [.str "slip", .str (S a), .str (S b), .int c]] = .ok (.int m) := by
      unfold F_p_price_of f_p_price_of
      unfold shopK at hpl f1 ⊢
      walk_at "ev"
    refine ⟨[(a, 1), (b, 1)], m, ⟨by simp, by simpa using ⟨by simpa using ha, by simpa using hb⟩, by simpa using hne⟩, hm0, deal_of_prog hk h5 (.slip ha hb hne h1 h2) hw hp, ?_⟩
    have lna := ln (some (.lst (KD ks))) (some (.tup [.str "slip", .str (S a), .str (S b), .int c]))
    have lza := lz (some (.lst (KD ks))) (some (.tup [.str "slip", .str (S a), .str (S b), .int c])) (some (.lst (ND ks)))
    rw [← hset] at hset2 hlen2
    rw [← hset2]
    unfold F_l_deal f_l_deal
    walk_at "ev"
  | share ha h1 h2 =>
    rename_i a c
    obtain ⟨i, p, hi, hpa, hpl⟩ := place_mem hk ha
    have hpp := hk.pr p (List.mem_of_getElem? hi)
    have hix := index_ND hk.nd hi
    rw [hpa] at hix
    have hlen : i < (dInts (wantW ks [])).length := by rw [dInts_len, wantW_len]; exact (List.getElem?_eq_some_iff.mp hi).1
    have q1 := ix_PD hi
    have q2 := ix_KDn hi
    have hn := names_share (.str (S a)) (.int c)
    have hd := dc_one (some (.tup [.str "share", .str (S a), .int c])) a
    have hset : (dInts (wantW ks [])).set i (.int 1) = dInts (wantW ks [(a, 1)]) := by
      rw [dInts_set, want_set hk.nd hi (by simp), hpa]; rfl
    have hneg : D.ix (.lst [.str (S a)]) (.int (-1)) = .ok (.str (S a)) := rfl
    have hm0 : 0 ≤ p.2 * c := Int.mul_nonneg hpp.1 (by omega)
    have hm1 : p.2 * c ≤ p.2 * 100 := Int.mul_le_mul_of_nonneg_left h2 hpp.1
    have hw : F_p_wanted_by [.tup [.str "share", .str (S a), .int c]] = .ok (.dct (GD [(a, 1)])) := by
      unfold F_p_wanted_by f_p_wanted_by
      walk_at "ev"
    have hp : F_p_price_of [shopK ks, .tup [.str "share", .str (S a), .int c]] = .ok (.int (p.2 - p.2 * c / 100)) := by
      unfold F_p_price_of f_p_price_of
      unfold shopK at hpl f1 ⊢
      walk_at "ev"
    refine ⟨[(a, 1)], p.2 - p.2 * c / 100, ⟨by simp, by simpa using ha, by simp⟩, by omega, deal_of_prog hk h5 (.share ha h1 h2) hw hp, ?_⟩
    have lna := ln (some (.lst (KD ks))) (some (.tup [.str "share", .str (S a), .int c]))
    have lza := lz (some (.lst (KD ks))) (some (.tup [.str "share", .str (S a), .int c])) (some (.lst (ND ks)))
    rw [← hset]
    unfold F_l_deal f_l_deal
    walk_at "ev"
  | more ha h1 h2 h3 h4 =>
    rename_i a m c
    obtain ⟨i, p, hi, hpa, hpl⟩ := place_mem hk ha
    have hpp := hk.pr p (List.mem_of_getElem? hi)
    have hix := index_ND hk.nd hi
    rw [hpa] at hix
    have hlen : i < (dInts (wantW ks [])).length := by rw [dInts_len, wantW_len]; exact (List.getElem?_eq_some_iff.mp hi).1
    have q1 := ix_PD hi
    have q2 := ix_KDn hi
    have hn := names_more (.str (S a)) (.int m) (.int c)
    have hset : (dInts (wantW ks [])).set i (.int m) = dInts (wantW ks [(a, m)]) := by
      rw [dInts_set, want_set hk.nd hi (by simp), hpa]; rfl
    have hneg : D.ix (.lst [.str (S a)]) (.int (-1)) = .ok (.str (S a)) := rfl
    have hm0 : 0 ≤ p.2 * c := Int.mul_nonneg hpp.1 (by omega)
    have hmul : D.mul (.int c) (.int p.2) = .ok (.int (p.2 * c)) := by rw [Int.mul_comm]; exact mul_l (fits_of (by omega) (by omega))
    have hw : F_p_wanted_by [.tup [.str "more", .str (S a), .int m, .int c]] = .ok (.dct [(S a, .int m)]) := by
      unfold F_p_wanted_by f_p_wanted_by
      walk_at "ev"
    have hp : F_p_price_of [shopK ks, .tup [.str "more", .str (S a), .int m, .int c]] = .ok (.int (p.2 * c)) := by
      unfold F_p_price_of f_p_price_of
      unfold shopK at hpl f1 ⊢
      walk_at "ev"
    refine ⟨[(a, m)], p.2 * c, ⟨by simp, by simpa using ⟨by simpa using ha, by omega, h2⟩, by simp⟩, hm0, deal_of_prog hk h5 (.more ha h1 h2 h3 h4) (ws := [(a, m)]) hw hp, ?_⟩
    have lna := ln (some (.lst (KD ks))) (some (.tup [.str "more", .str (S a), .int m, .int c]))
    have lza := lz (some (.lst (KD ks))) (some (.tup [.str "more", .str (S a), .int m, .int c])) (some (.lst (ND ks)))
    rw [← hset]
    unfold F_l_deal f_l_deal
    walk_at "ev"
  | set hw sub nd h1 h2 =>
    rename_i ws c
    have hf := set_few sub nd
    have hwl := KD_len ws
    have hdd := dictOf_KD nd
    have hwb : F_p_wanted_by [.tup [.str "set", .tn (KD ws), .int c]] = .ok (.dct (GD ws)) := by
      unfold F_p_wanted_by f_p_wanted_by
      walk_at "ev"
    have hp : F_p_price_of [shopK ks, .tup [.str "set", .tn (KD ws), .int c]] = .ok (.int c) := by
      unfold F_p_price_of f_p_price_of
      walk_at "ev"
    refine ⟨ws, c, ⟨hw, sub, nd⟩, h1, deal_of_prog hk h5 (.set hw sub nd h1 h2) hwb hp, ?_⟩
    have lna := ln (some (.lst (KD ks))) (some (.tup [.str "set", .tn (KD ws), .int c]))
    have lza := lz (some (.lst (KD ks))) (some (.tup [.str "set", .tn (KD ws), .int c])) (some (.lst (ND ks)))
    obtain ⟨y5, y6, hy⟩ := deal_loop hk (k := some (.lst (KD ks))) (o := some (.tup [.str "set", .tn (KD ws), .int c])) (x7 := none) ws [] none none (by simpa using nd) fun w m => (sub w m).1
    rw [List.nil_append] at hy
    unfold F_l_deal f_l_deal
    walk_at "ev"
end My
set_option Elab.async false
set_option linter.all false
set_option maxRecDepth 100000
set_option maxHeartbeats 4000000
namespace My
open PySem Dx
structure Dl (n : Nat) (d : List Int × Int) : Prop where
  len : d.1.length = n
  num : ∀ w ∈ d.1, 0 ≤ w ∧ w ≤ 9
  pos : ∃ w ∈ d.1, 1 ≤ w
  pr : 0 ≤ d.2
def DD (ds : List (List Int × Int)) : List D := ds.map fun d => .tup [.tup (dInts d.1), .int d.2]
theorem DD_len (ds : List (List Int × Int)) : (DD ds).length = ds.length := by simp [DD]
theorem DD_app (a b : List (List Int × Int)) : DD a ++ DD b = DD (a ++ b) := by simp [DD]
def uW (n i : Nat) : List Int := (List.range n).map fun j => if j = i then 1 else 0
def plainD (ks : List (List Nat × Int)) : List (List Int × Int) := (List.range ks.length).map fun i => (uW ks.length i, ((ks[i]?).map (·.2)).getD 0)
theorem lookup_mem {l : List Nat} {c : Int} : ∀ {ws : List (List Nat × Int)}, ws.lookup l = some c → (l, c) ∈ ws
  | [], h => by cases h
  | (m, x) :: ws, h => by
    rw [List.lookup_cons] at h
    by_cases e : l = m
    · subst e; rw [beq_self_eq_true] at h; cases h; exact List.mem_cons_self
    · rw [beq_eq_false_iff_ne.mpr e] at h; exact List.mem_cons_of_mem _ (lookup_mem h)
theorem lookup_of_mem {l : List Nat} {c : Int} : ∀ {ws : List (List Nat × Int)}, (ws.map (·.1)).Nodup → (l, c) ∈ ws → ws.lookup l = some c
  | (m, x) :: ws, nd, h => by
    rw [List.lookup_cons]
    have nd2 := List.nodup_cons.mp (by simpa using nd : (m :: ws.map (·.1)).Nodup)
    rcases List.mem_cons.mp h with e | h
    · cases e; rw [beq_self_eq_true]
    · have : l ≠ m := fun e => nd2.1 (e ▸ List.mem_map.mpr ⟨_, h, rfl⟩)
      rw [beq_eq_false_iff_ne.mpr this]
      exact lookup_of_mem nd2.2 h
theorem wn_dl {ks ws : List (List Nat × Int)} {pr : Int} (h : Wn ks ws) (hp : 0 ≤ pr) : Dl ks.length (wantW ks ws, pr) := by
  refine ⟨wantW_len ks ws, fun w m => ?_, ?_, hp⟩
  · obtain ⟨p, _, rfl⟩ := List.mem_map.mp (show w ∈ ks.map fun p => (ws.lookup p.1).getD 0 from m)
    cases q : ws.lookup p.1 with
    | none => simp
    | some c =>
      have := (h.sub _ (lookup_mem q)).2
      show 0 ≤ c ∧ c ≤ 9
      omega
  · obtain ⟨w, hw⟩ := List.exists_mem_of_ne_nil _ h.ne
    obtain ⟨p, hp, e⟩ := List.mem_map.mp (h.sub w hw).1
    refine ⟨w.2, List.mem_map.mpr ⟨p, hp, ?_⟩, (h.sub w hw).2.1⟩
    rw [show p.1 = w.1 from e, lookup_of_mem h.nd hw]
    rfl
theorem uW_dl {n i : Nat} {pr : Int} (hi : i < n) (hp : 0 ≤ pr) : Dl n (uW n i, pr) := by
  refine ⟨by simp [uW], fun w m => ?_, ⟨1, List.mem_map.mpr ⟨i, List.mem_range.mpr hi, if_pos rfl⟩, by omega⟩, hp⟩
  obtain ⟨j, _, rfl⟩ := List.mem_map.mp (show w ∈ (List.range n).map fun j => if j = i then 1 else 0 from m)
  split <;> omega
theorem eq_nat {i j : Nat} : D.eq (.int (i : Int)) (.int (j : Int)) = .ok (.bl (decide (i = j))) := eq_ii (by rw [decide_eq_decide]; omega)
theorem plain_list {f : EE} {base : Sl} {n i k : Nat} (h : ∀ j : Nat, j < n → f (base.set k (some (.int (j : Int)))) = .ok (.int (if j = i then 1 else 0))) : lcGo (.one k) eYes f base ((List.range n).map fun (k : Nat) => .int k) = .ok (dInts (uW n i)) := by
  rw [lc_all (γ := fun d => match d with | .int x => .int (if x = i then 1 else 0) | d => d)]
  · unfold dInts uW
    rw [List.map_map, List.map_map]
    refine congrArg Res.ok (List.map_congr_left fun j _ => ?_)
    show D.int (if (j : Int) = (i : Int) then 1 else 0) = D.int (if j = i then 1 else 0)
    by_cases e : j = i <;> simp [e] <;> omega
  · intro d hd
    obtain ⟨j, hj, rfl⟩ := List.mem_map.mp hd
    rw [h j (List.mem_range.mp hj)]
    by_cases e : j = i
    · simp [e]
    · have : ¬ (j : Int) = (i : Int) := by omega
      simp [e, this]
theorem plain_prog {ks : List (List Nat × Int)} (h5 : ks.length ≤ 5) {i : Nat} {p : List Nat × Int} (hi : ks[i]? = some p) : F_p_plain_deal [shopK ks, .int (i : Int)] = .ok (.tup [.tup (dInts (uW ks.length i)), .int p.2]) := by
  have hl := ND_len ks
  have f1 : D.fld "Shop" "names" (shopK ks) = .ok (.lst (ND ks)) := rfl
  have f2 : D.fld "Shop" "prices" (shopK ks) = .ok (.lst (PD ks)) := rfl
  have hp := ix_PD hi
  have hrng : D.rng1 [.int ((ND ks).length : Int)] = .ok ((List.range ks.length).map fun (k : Nat) => .int k) := by rw [hl]; exact rng1_nat (by omega)
  have hc := plain_list (f := g_p_plain_deal_1) (base := [some (shopK ks), some (.int (i : Int)), none]) (n := ks.length) (i := i) (k := 2) fun j _ => by
    have e := eq_nat (i := j) (j := i)
    unfold g_p_plain_deal_1
    simp only [List.set_cons_succ, List.set_cons_zero]
    by_cases h : j = i
    · rw [decide_eq_true h] at e; rw [if_pos h]; walk_at "ev"
    · rw [decide_eq_false h] at e; rw [if_neg h]; walk_at "ev"
  unfold F_p_plain_deal f_p_plain_deal
  walk_at "ev"
theorem offs_ok {ks : List (List Nat × Int)} (hk : Kok ks) (h5 : ks.length ≤ 5) {xs : D} : ∀ os : List D, (∀ o ∈ os, Off ks o) → ∃ ds, (∀ x2, lcGo (.one 4) eYes g_p_deals_2 [some (shopK ks), some xs, x2, none, none] os = .ok (DD ds)) ∧ (∀ y2 y3 y4, lcGo (.one 5) eYes g_l_deals_2 [some (.lst (KD ks)), some xs, y2, y3, y4, none] os = .ok (DD ds)) ∧ (∀ d ∈ ds, Dl ks.length d) ∧ ds.length = os.length
  | [], _ => ⟨[], fun _ => rfl, fun _ _ _ => rfl, by simp, rfl⟩
  | o :: os, h => by
    obtain ⟨ws, pr, w1, w2, w3, w4⟩ := deal_ok hk h5 (h o List.mem_cons_self)
    obtain ⟨ds, h1, h2, h3, h4⟩ := offs_ok hk h5 (xs := xs) os fun c m => h c (List.mem_cons_of_mem _ m)
    refine ⟨(wantW ks ws, pr) :: ds, fun x2 => ?_, fun y2 y3 y4 => ?_, by simpa using ⟨wn_dl w1 w2, fun a b m => h3 (a, b) m⟩, by simp [h4]⟩
    · refine ev_lc_yes (e1 := [some (shopK ks), some xs, x2, none, some o]) rfl ?_ (h1 x2)
      unfold g_p_deals_2
      walk_at "ev"
    · refine ev_lc_yes (e1 := [some (.lst (KD ks)), some xs, y2, y3, y4, some o]) rfl ?_ (h2 y2 y3 y4)
      unfold g_l_deals_2
      walk_at "ev"
theorem plainD_len (ks : List (List Nat × Int)) : (plainD ks).length = ks.length := by simp [plainD]
theorem plainD_at {ks : List (List Nat × Int)} {i : Nat} {p : List Nat × Int} (h : ks[i]? = some p) : (plainD ks)[i]? = some (uW ks.length i, p.2) := by
  have hi := (List.getElem?_eq_some_iff.mp h).1
  unfold plainD
  rw [List.getElem?_map, List.getElem?_range hi]
  simp [h]
theorem plainD_dl {ks : List (List Nat × Int)} (hk : Kok ks) : ∀ d ∈ plainD ks, Dl ks.length d := fun d hd => by
  obtain ⟨i, hi, rfl⟩ := List.mem_map.mp (show d ∈ (List.range ks.length).map fun i => (uW ks.length i, ((ks[i]?).map (·.2)).getD 0) from hd)
  have hi := List.mem_range.mp hi
  refine uW_dl hi ?_
  rw [List.getElem?_eq_getElem hi]
  exact (hk.pr _ (List.getElem_mem hi)).1
theorem deals_prog {ks : List (List Nat × Int)} (h5 : ks.length ≤ 5) {os : List D} {ds : List (List Int × Int)} (ho : os.length ≤ 50) (h : ∀ x2, lcGo (.one 4) eYes g_p_deals_2 [some (shopK ks), some (.lst os), x2, none, none] os = .ok (DD ds)) (hd : ds.length = os.length) : F_p_deals [shopK ks, .lst os] = .ok (.lst (DD (plainD ks ++ ds))) := by
  have hl := ND_len ks
  have f1 : D.fld "Shop" "names" (shopK ks) = .ok (.lst (ND ks)) := rfl
  have hrng : D.rng1 [.int ((ND ks).length : Int)] = .ok ((List.range ks.length).map fun (k : Nat) => .int k) := by rw [hl]; exact rng1_nat (by omega)
  have hp : lcGo (.one 3) eYes g_p_deals_1 [some (shopK ks), some (.lst os), none, none, none] ((List.range ks.length).map fun (k : Nat) => .int k) = .ok (DD (plainD ks)) := by
    rw [lc_all (γ := fun d => match d with | .int x => .tup [.tup (dInts (uW ks.length x.toNat)), .int (((ks[x.toNat]?).map (·.2)).getD 0)] | d => d)]
    · unfold DD plainD
      rw [List.map_map, List.map_map]
      rfl
    · intro d hd
      obtain ⟨j, hj, rfl⟩ := List.mem_map.mp hd
      have hj := List.mem_range.mp hj
      have e : ks[j]? = some ks[j] := List.getElem?_eq_getElem hj
      have hpl := plain_prog h5 e
      show g_p_deals_1 _ = Res.ok (.tup [.tup (dInts (uW ks.length j)), .int (((ks[j]?).map (·.2)).getD 0)])
      rw [show ((ks[j]?).map (·.2)).getD 0 = (ks[j]).2 by rw [e]; rfl]
      unfold g_p_deals_1
      simp only [List.set_cons_succ, List.set_cons_zero]
      walk_at "ev"
  have h2 := h (some (.lst (DD (plainD ks))))
  have l1 := DD_len (plainD ks)
  have l2 := DD_len ds
  have l3 := plainD_len ks
  have ha : D.add (.lst (DD (plainD ks))) (.lst (DD ds)) = .ok (.lst (DD (plainD ks ++ ds))) := by rw [← DD_app]; exact add_lst_ok (by omega)
  unfold F_p_deals f_p_deals
  walk_at "ev"
def lInv (ks : List (List Nat × Int)) (os : List D) (k : Nat) (e : Sl) : Prop := ∃ x3, e = [some (.lst (KD ks)), some (.lst os), some (.lst (DD ((plainD ks).take k))), x3, none, none]
theorem ldeal_step {ks : List (List Nat × Int)} (h5 : ks.length ≤ 5) {os : List D} {k : Nat} {e : Sl} (hk : k < ks.length) (h : lInv ks os k e) : ∃ e1, b_l_deals_1 (e.set 3 (some (.int (k : Int)))) = .nxt e1 ∧ lInv ks os (k + 1) e1 := by
  obtain ⟨x3, rfl⟩ := h
  have e : ks[k]? = some ks[k] := List.getElem?_eq_getElem hk
  have hl := KD_len ks
  have hrng : D.rng1 [.int ((KD ks).length : Int)] = .ok ((List.range ks.length).map fun (k : Nat) => .int k) := by rw [hl]; exact rng1_nat (by omega)
  have hkd := ix_KDn e
  have hc := plain_list (f := g_l_deals_1) (base := [some (.lst (KD ks)), some (.lst os), some (.lst (DD ((plainD ks).take k))), some (.int (k : Int)), none, none]) (n := ks.length) (i := k) (k := 4) fun j _ => by
    have e := eq_nat (i := k) (j := j)
    unfold g_l_deals_1
    simp only [List.set_cons_succ, List.set_cons_zero]
    by_cases h : j = k
    · rw [decide_eq_true h.symm] at e; rw [if_pos h]; walk_at "ev"
    · rw [decide_eq_false (Ne.symm h)] at e; rw [if_neg h]; walk_at "ev"
  have hlen : (DD ((plainD ks).take k)).length ≤ 5 := by rw [DD_len, List.length_take, plainD_len]; omega
  have hnew : DD ((plainD ks).take k) ++ [.tup [.tup (dInts (uW ks.length k)), .int (ks[k]).2]] = DD ((plainD ks).take (k + 1)) := by
    rw [List.take_add_one, plainD_at e, ← DD_app]; rfl
  simp only [List.set_cons_succ, List.set_cons_zero]
  refine ⟨[some (.lst (KD ks)), some (.lst os), some (.lst (DD ((plainD ks).take (k + 1)))), some (.int (k : Int)), none, none], ?_, _, rfl⟩
  rw [← hnew]
  unfold b_l_deals_1
  walk_at "ev"
theorem deals_law {ks : List (List Nat × Int)} (h5 : ks.length ≤ 5) {os : List D} {ds : List (List Int × Int)} (ho : os.length ≤ 50) (h : ∀ y2 y3 y4, lcGo (.one 5) eYes g_l_deals_2 [some (.lst (KD ks)), some (.lst os), y2, y3, y4, none] os = .ok (DD ds)) (hd : ds.length = os.length) : F_l_deals [.lst (KD ks), .lst os] = .ok (.lst (DD (plainD ks ++ ds))) := by
  obtain ⟨e, he, x3, rfl⟩ := for_range (i := 3) (s := b_l_deals_1) (lInv ks os) (m := ks.length) (env := [some (.lst (KD ks)), some (.lst os), some (.lst []), none, none, none]) ⟨none, by rw [List.take_zero]; rfl⟩ fun k e hk hi => ldeal_step h5 hk hi
  rw [← plainD_len ks, List.take_length] at he
  rw [plainD_len ks] at he
  have hl := KD_len ks
  have hrng : D.rng1 [.int ((KD ks).length : Int)] = .ok ((List.range ks.length).map fun (k : Nat) => .int k) := by rw [hl]; exact rng1_nat (by omega)
  have h2 := h (some (.lst (DD (plainD ks)))) x3 none
  have l1 := DD_len (plainD ks)
  have l2 := DD_len ds
  have l3 := plainD_len ks
  have ha : D.add (.lst (DD (plainD ks))) (.lst (DD ds)) = .ok (.lst (DD (plainD ks ++ ds))) := by rw [← DD_app]; exact add_lst_ok (by omega)
  unfold F_l_deals f_l_deals
  walk_at "ev"
/-- the deals of the shop and the offers, by the program and by the law -/
theorem deals_ok {ks : List (List Nat × Int)} (hk : Kok ks) (h5 : ks.length ≤ 5) {os : List D} (ho : os.length ≤ 50) (h : ∀ o ∈ os, Off ks o) : ∃ ds, (∀ d ∈ ds, Dl ks.length d) ∧ ds.length = os.length ∧ F_p_deals [shopK ks, .lst os] = .ok (.lst (DD (plainD ks ++ ds))) ∧ F_l_deals [.lst (KD ks), .lst os] = .ok (.lst (DD (plainD ks ++ ds))) := by
  obtain ⟨ds, a, b, h3, h4⟩ := offs_ok hk h5 (xs := .lst os) os h
  exact ⟨ds, h3, h4, deals_prog h5 ho a h4, deals_law h5 ho b h4⟩
end My
set_option Elab.async false
set_option linter.all false
set_option maxRecDepth 100000
set_option maxHeartbeats 4000000
namespace My
open PySem Dx
def leB : List Int → List Int → Bool
  | w :: ws, c :: cs => decide (w ≤ c) && leB ws cs
  | _, _ => true
theorem numB_nn : ∀ {bs cs : List Int}, (∀ b ∈ bs, 0 ≤ b) → (∀ c ∈ cs, 0 ≤ c) → 0 ≤ numB bs cs
  | [], _, _, _ => by simp [numB]
  | _ :: _, [], _, _ => by simp [numB]
  | b :: bs, c :: cs, hb, hc => by
    have h1 := hb b List.mem_cons_self
    have h2 := hc c List.mem_cons_self
    have h3 := numB_nn (fun x m => hb x (List.mem_cons_of_mem _ m)) fun x m => hc x (List.mem_cons_of_mem _ m)
    have : 0 ≤ (b + 1) * numB bs cs := Int.mul_nonneg (by omega) h3
    show 0 ≤ c + (b + 1) * numB bs cs
    omega
theorem numB_mono : ∀ {bs ws cs : List Int}, (∀ b ∈ bs, 0 ≤ b) → (∀ c ∈ cs, 0 ≤ c) → ws.length = cs.length → leB ws cs = true → numB bs ws ≤ numB bs cs
  | [], ws, cs, _, _, _, _ => by simp [numB]
  | b :: bs, [], [], _, _, _, _ => by simp [numB]
  | b :: bs, w :: ws, c :: cs, hb, hc, hl, h => by
    unfold leB at h
    rw [Bool.and_eq_true] at h
    have h1 := hb b List.mem_cons_self
    have h2 := of_decide_eq_true h.1
    have h3 := numB_mono (bs := bs) (fun x m => hb x (List.mem_cons_of_mem _ m)) (fun x m => hc x (List.mem_cons_of_mem _ m)) (by simpa using hl) h.2
    have : (b + 1) * numB bs ws ≤ (b + 1) * numB bs cs := Int.mul_le_mul_of_nonneg_left h3 (by omega)
    show w + (b + 1) * numB bs ws ≤ c + (b + 1) * numB bs cs
    omega
theorem numB_pos : ∀ {bs ws : List Int}, (∀ b ∈ bs, 0 ≤ b) → (∀ w ∈ ws, 0 ≤ w) → bs.length = ws.length → (∃ w ∈ ws, 1 ≤ w) → 1 ≤ numB bs ws
  | [], [], _, _, _, h => by obtain ⟨w, m, _⟩ := h; cases m
  | b :: bs, w :: ws, hb, hw, hl, h => by
    have h1 := hb b List.mem_cons_self
    have h2 := hw w List.mem_cons_self
    show 1 ≤ w + (b + 1) * numB bs ws
    obtain ⟨x, m, hx⟩ := h
    rcases List.mem_cons.mp m with e | m
    · subst e
      have h3 := numB_nn (bs := bs) (cs := ws) (fun x m => hb x (List.mem_cons_of_mem _ m)) fun x m => hw x (List.mem_cons_of_mem _ m)
      have : 0 ≤ (b + 1) * numB bs ws := Int.mul_nonneg (by omega) h3
      omega
    · have h3 := numB_pos (bs := bs) (fun x m => hb x (List.mem_cons_of_mem _ m)) (fun x m => hw x (List.mem_cons_of_mem _ m)) (by simpa using hl) ⟨x, m, hx⟩
      have : (b + 1) * 1 ≤ (b + 1) * numB bs ws := Int.mul_le_mul_of_nonneg_left h3 (by omega)
      omega
theorem countsB_le : ∀ {bs : List Int} {n : Int}, (∀ b ∈ bs, 0 ≤ b) → leB (countsB bs n) bs = true
  | [], _, _ => rfl
  | b :: bs, n, hb => by
    have h1 := hb b List.mem_cons_self
    have h2 := Int.emod_lt_of_pos n (b := b + 1) (by omega)
    show (decide (n % (b + 1) ≤ b) && leB (countsB bs (n / (b + 1))) bs) = true
    rw [countsB_le fun x m => hb x (List.mem_cons_of_mem _ m), decide_eq_true (by omega)]
    rfl
theorem leB_trans : ∀ {a b c : List Int}, a.length = b.length → b.length = c.length → leB a b = true → leB b c = true → leB a c = true
  | [], _, _, _, _, _, _ => rfl
  | x :: a, [], c, h1, _, _, _ => by simp at h1
  | x :: a, y :: b, [], _, _, _, _ => rfl
  | x :: a, y :: b, z :: c, h1, h2, p, q => by
    unfold leB at p q ⊢
    rw [Bool.and_eq_true] at p q ⊢
    have p1 := of_decide_eq_true p.1
    have q1 := of_decide_eq_true q.1
    exact ⟨decide_eq_true (by omega), leB_trans (by simpa using h1) (by simpa using h2) p.2 q.2⟩
theorem allBl_map (bs : List Bool) : D.allBl (bs.map D.bl) = some bs := by
  induction bs with
  | nil => rfl
  | cons x xs ih =>
    show (D.allBl (xs.map D.bl)).map (x :: ·) = _
    rw [ih]; rfl
def cmpL : List Int → List Int → List Bool
  | w :: ws, c :: cs => decide (w ≤ c) :: cmpL ws cs
  | _, _ => []
theorem cmpL_all : ∀ ws cs : List Int, (cmpL ws cs).all id = leB ws cs
  | [], _ => rfl
  | _ :: _, [] => rfl
  | w :: ws, c :: cs => by
    show (decide (w ≤ c) && (cmpL ws cs).all id) = _
    rw [cmpL_all ws cs]; rfl
theorem cmp_list (x0 x1 : Option D) : ∀ ws cs : List Int, lcGo (.two 2 3) eYes g_p_has_pieces_1 [x0, x1, none, none] (zipD (dInts ws) (dInts cs)) = .ok ((cmpL ws cs).map D.bl)
  | [], cs => by rw [show dInts [] = [] from rfl, zipD_nil]; rfl
  | _ :: _, [] => rfl
  | w :: ws, c :: cs => by
    have ih := cmp_list x0 x1 ws cs
    show lcGo (.two 2 3) eYes g_p_has_pieces_1 [x0, x1, none, none] (.tup [.int w, .int c] :: zipD (dInts ws) (dInts cs)) = _
    have h : g_p_has_pieces_1 (([x0, x1, none, none].set 2 (some (.int w))).set 3 (some (.int c))) = .ok (.bl (decide (w ≤ c))) := by
      unfold g_p_has_pieces_1
      simp only [List.set_cons_succ, List.set_cons_zero]
      walk_at "ev"
    rw [lcGo_two, eYes_ap, h, consR_t, ih]; rfl
theorem has_ok {ws cs : List Int} (hl : cs.length ≤ 10) (hw : ws.length ≤ 10) : F_p_has_pieces [.lst (dInts cs), .tup (dInts ws)] = .ok (.bl (leB ws cs)) := by
  have h := cmp_list (some (.lst (dInts cs))) (some (.tup (dInts ws))) ws cs
  have hz := zipM_tl (dInts ws) (dInts cs)
  have ha : D.allBs [.lst ((cmpL ws cs).map D.bl)] = .ok (.bl (leB ws cs)) := by
    show (match D.allBl ((cmpL ws cs).map D.bl) with | some bs => Res.ok (D.bl (bs.all id)) | _ => .stuck) = _
    rw [allBl_map, ← cmpL_all]
  have l1 := dInts_len ws
  have l2 := dInts_len cs
  have hlen : (zipD (dInts ws) (dInts cs)).length ≤ 10 := by rw [zipD_len]; omega
  unfold F_p_has_pieces f_p_has_pieces
  walk_at "ev"
def ixs : Nat → List (List Int × Int) → List (Nat × (List Int × Int))
  | _, [] => []
  | k, d :: ds => (k, d) :: ixs (k + 1) ds
def qD (q : Nat × (List Int × Int)) : D := .tup [.int (q.1 : Int), .tup [.tup (dInts q.2.1), .int q.2.2]]
theorem enum_DD : ∀ (ds : List (List Int × Int)) (k : Nat), enumD k (DD ds) = (ixs k ds).map qD
  | [], _ => rfl
  | d :: ds, k => by
    show D.tup [.int (k : Int), .tup [.tup (dInts d.1), .int d.2]] :: enumD (k + 1) (DD ds) = _
    rw [enum_DD ds (k + 1)]; rfl
theorem ixs_len : ∀ (ds : List (List Int × Int)) (k : Nat), (ixs k ds).length = ds.length
  | [], _ => rfl
  | d :: ds, k => by simp [ixs, ixs_len ds]
theorem ixs_mem : ∀ {ds : List (List Int × Int)} {k : Nat} {q : Nat × (List Int × Int)}, q ∈ ixs k ds → q.2 ∈ ds ∧ k ≤ q.1 ∧ ds[q.1 - k]? = some q.2
  | d :: ds, k, q, h => by
    rcases List.mem_cons.mp h with e | h
    · subst e; exact ⟨List.mem_cons_self, Nat.le_refl _, by simp⟩
    · obtain ⟨a, b, c⟩ := ixs_mem h
      refine ⟨List.mem_cons_of_mem _ a, by omega, ?_⟩
      rw [show q.1 - k = (q.1 - (k + 1)) + 1 by omega]
      simpa using c
theorem ixs_of : ∀ {ds : List (List Int × Int)} {k i : Nat} {d : List Int × Int}, ds[i]? = some d → (k + i, d) ∈ ixs k ds
  | [], k, i, d, h => by simp at h
  | e :: ds, k, 0, d, h => by
    simp at h; subst h; exact List.mem_cons_self
  | e :: ds, k, i + 1, d, h => by
    have := ixs_of (ds := ds) (k := k + 1) (i := i) (d := d) (by simpa using h)
    rw [show k + (i + 1) = k + 1 + i by omega]
    exact List.mem_cons_of_mem _ this
def usL (b : List Int) (ds : List (List Int × Int)) : List (Nat × (List Int × Int)) := (ixs 0 ds).filter fun q => leB q.2.1 b
def uD (b : List Int) (q : Nat × (List Int × Int)) : D := .tup [.int (q.1 : Int), .tup (dInts q.2.1), .int q.2.2, .int (numB b q.2.1)]
/-- lcGo over things told by a function -/
theorem lc_map {α : Type} {tg : Tgt} {t : EB} {f : EE} {base : Sl} {ι : α → D} {γ : α → D} {p : α → Bool} : ∀ {l : List α}, (∀ a ∈ l, ∃ ps, parts tg (ι a) = .ok ps ∧ t (setAll tg.slots ps base) = .ok (p a) ∧ (p a = true → f (setAll tg.slots ps base) = .ok (γ a))) → lcGo tg t f base (l.map ι) = .ok ((l.filter p).map γ)
  | [], _ => rfl
  | a :: l, h => by
    obtain ⟨ps, h1, h2, h3⟩ := h a List.mem_cons_self
    have ih := lc_map (l := l) fun c m => h c (List.mem_cons_of_mem _ m)
    rw [List.map_cons, lcGo_cons, h1, bind_ok, h2, noErr_ok, bind_ok]
    cases q : p a with
    | true => rw [if_pos rfl, h3 q, noErr_ok, bind_ok, ih, List.filter_cons_of_pos q]; rfl
    | false => rw [if_neg (by decide), ih, List.filter_cons_of_neg (by simp [q])]
theorem usable_ok {n : Nat} {b : List Int} (hb : Bk b) (hn : b.length = n) {ds : List (List Int × Int)} (hd : ∀ d ∈ ds, Dl n d) (hl : ds.length ≤ 100) : F_p_usable_deals [.lst (dInts b), .lst (DD ds)] = .ok (.lst ((usL b ds).map (uD b))) := by
  have h : lcGo (.nest 2 3 4) t_p_usable_deals_1 g_p_usable_deals_1 [some (.lst (dInts b)), some (.lst (DD ds)), none, none, none] ((ixs 0 ds).map qD) = .ok ((usL b ds).map (uD b)) := by
    refine lc_map (p := fun q => leB q.2.1 b) (γ := uD b) fun q hq => ?_
    obtain ⟨h1, _, _⟩ := ixs_mem hq
    have hq := hd _ h1
    have hb5 := hb.len
    have hp := has_ok (ws := q.2.1) (cs := b) (by omega) (by have := hq.len; omega)
    have hnum := number_of_tup hb (by rw [hq.len, hn]) hq.num
    refine ⟨[.int (q.1 : Int), .tup (dInts q.2.1), .int q.2.2], rfl, ?_, fun _ => ?_⟩
    · show t_p_usable_deals_1 [some (.lst (dInts b)), some (.lst (DD ds)), some (.int (q.1 : Int)), some (.tup (dInts q.2.1)), some (.int q.2.2)] = _
      unfold t_p_usable_deals_1
      walk_at "ev"
    · show g_p_usable_deals_1 [some (.lst (dInts b)), some (.lst (DD ds)), some (.int (q.1 : Int)), some (.tup (dInts q.2.1)), some (.int q.2.2)] = .ok (.tup [.int (q.1 : Int), .tup (dInts q.2.1), .int q.2.2, .int (numB b q.2.1)])
      unfold g_p_usable_deals_1
      walk_at "ev"
  have he : D.enm [.lst (DD ds)] = .ok ((ixs 0 ds).map qD) := by
    show Res.ok (enumD 0 (DD ds)) = _
    rw [enum_DD]
  have hlen : ((ixs 0 ds).map qD).length ≤ 100 := by rw [List.length_map, ixs_len]; exact hl
  unfold F_p_usable_deals f_p_usable_deals
  walk_at "ev"
end My
set_option Elab.async false
set_option linter.all false
set_option maxRecDepth 100000
set_option maxHeartbeats 4000000
namespace My
open PySem Dx
abbrev Rt := List (Int × Option Nat)
def plD : Option Nat → D
  | none => .non
  | some i => .int (i : Int)
def rD (r : Int × Option Nat) : D := .tup [.int r.1, plD r.2]
def Tn (rs : Rt) (j : Nat) : Int := ((rs[j]?).map (·.1)).getD 0
def cand (b : List Int) (us : List (Nat × (List Int × Int))) (rs : Rt) (number : Int) : List (Int × Int) := (us.filter fun q => leB q.2.1 (countsB b number)).map fun q => (Tn rs (number - numB b q.2.1).toNat + q.2.2, (q.1 : Int))
def bestOf : List (Int × Int) → Int × Option Nat
  | [] => (0, none)
  | c :: cs => ((minP c cs).1, some (minP c cs).2.toNat)
def Rr (b : List Int) (us : List (Nat × (List Int × Int))) : Nat → Rt
  | 0 => [(0, none)]
  | k + 1 => Rr b us k ++ [bestOf (cand b us (Rr b us k) ((k + 1 : Nat) : Int))]
theorem Rr_len (b : List Int) (us : List (Nat × (List Int × Int))) : ∀ k, (Rr b us k).length = k + 1
  | 0 => rfl
  | k + 1 => by rw [Rr, List.length_append, Rr_len b us k]; rfl
theorem Rr_pre (b : List Int) (us : List (Nat × (List Int × Int))) {j : Nat} : ∀ {k m : Nat}, j ≤ k → k ≤ m → (Rr b us m)[j]? = (Rr b us k)[j]?
  | k, 0, h, h2 => by rw [Nat.le_zero.mp h2]
  | k, m + 1, h, h2 => by
    by_cases e : k = m + 1
    · rw [e]
    · have ih := Rr_pre b us (j := j) (k := k) (m := m) h (by omega)
      rw [Rr, List.getElem?_append_left (by rw [Rr_len]; omega)]
      exact ih
theorem minP_mem : ∀ (cs : List (Int × Int)) (c : Int × Int), minP c cs ∈ c :: cs
  | [], c => List.mem_cons_self
  | d :: cs, c => by
    have ih := minP_mem cs (if ltP d c then d else c)
    rcases List.mem_cons.mp ih with e | m
    · show minP (if ltP d c then d else c) cs ∈ _
      rw [e]
      split
      · exact List.mem_cons_of_mem _ List.mem_cons_self
      · exact List.mem_cons_self
    · exact List.mem_cons_of_mem _ (List.mem_cons_of_mem _ m)
theorem minP_fst : ∀ (cs : List (Int × Int)) (c : Int × Int), (minP c cs).1 = D.minI c.1 (cs.map (·.1))
  | [], c => rfl
  | d :: cs, c => by
    have ih := minP_fst cs (if ltP d c then d else c)
    show (minP (if ltP d c then d else c) cs).1 = D.minI (if d.1 < c.1 then d.1 else c.1) (cs.map (·.1))
    rw [ih]
    congr 1
    unfold ltP
    by_cases h : d.1 < c.1
    · rw [if_pos h, if_pos (decide_eq_true (.inl h))]
    · rw [if_neg h]
      by_cases h2 : d.1 = c.1 ∧ d.2 < c.2
      · rw [if_pos (decide_eq_true (.inr h2))]; exact h2.1
      · rw [if_neg (by simp; omega)]
theorem prs_dP (l : List (Int × Int)) : D.prs (l.map dP) = some l := by
  induction l with
  | nil => rfl
  | cons a l ih =>
    show (D.prs (l.map dP)).map ((a.1, a.2) :: ·) = _
    rw [ih]; rfl
/-- what the deals must keep for the table -/
structure Us (b : List Int) (us : List (Nat × (List Int × Int))) : Prop where
  len : ∀ q ∈ us, q.2.1.length = b.length
  num : ∀ q ∈ us, ∀ w ∈ q.2.1, 0 ≤ w ∧ w ≤ 9
  pos : ∀ q ∈ us, ∃ w ∈ q.2.1, 1 ≤ w
  some : ∀ k : Nat, ((k + 1 : Nat) : Int) < prodB b → ∃ q ∈ us, leB q.2.1 (countsB b ((k + 1 : Nat) : Int)) = true
  few : us.length ≤ 100
theorem step_le {b : List Int} (hb : Bk b) {us : List (Nat × (List Int × Int))} (hu : Us b us) {q : Nat × (List Int × Int)} (hq : q ∈ us) {n : Int} (h0 : 0 ≤ n) (hn : n < prodB b) (hle : leB q.2.1 (countsB b n) = true) : 1 ≤ numB b q.2.1 ∧ numB b q.2.1 ≤ n := by
  have hc := countsB_mem (n := n) hb.pos
  refine ⟨numB_pos hb.nn (fun w m => (hu.num q hq w m).1) (hu.len q hq).symm (hu.pos q hq), ?_⟩
  have := numB_mono (bs := b) (ws := q.2.1) (cs := countsB b n) hb.nn (fun c m => (hc c m).1) (by rw [countsB_len, hu.len q hq]) hle
  rw [numB_counts hb.nn h0 hn] at this
  exact this
def rInv (b : List Int) (ch : D) (us : List (Nat × (List Int × Int))) (k : Nat) (e : Sl) : Prop := ∃ x4 x5, e = [some (.lst (dInts b)), some ch, some (.lst (us.map (uD b))), some (.lst ((Rr b us k).map rD)), x4, x5, none, none, none, none]
theorem reach_step {b : List Int} (hb : Gb b.length b) {ch : D} {us : List (Nat × (List Int × Int))} (hu : Us b us) {k : Nat} (hk : ((k + 1 : Nat) : Int) < prodB b) {e : Sl} (h : rInv b ch us k e) : ∃ e1, b_p_reach_1 (e.set 4 (some (.int ((k + 1 : Nat) : Int)))) = .nxt e1 ∧ rInv b ch us (k + 1) e1 := by
  obtain ⟨x4, x5, rfl⟩ := h
  have hN := hb.few
  have hb5 := hb.bk.len
  have hcnt := counts_of_ok hb.bk ((k + 1 : Nat) : Int)
  obtain ⟨number, hnum⟩ : ∃ number : Int, number = ((k + 1 : Nat) : Int) := ⟨_, rfl⟩
  have hsome := hu.some k hk
  rw [← hnum] at hcnt hk hsome ⊢
  have hcl : (countsB b number).length = b.length := countsB_len
  have hlc : lcGo (.many [6, 7, 8, 9]) t_p_reach_1 g_p_reach_1 [some (.lst (dInts b)), some ch, some (.lst (us.map (uD b))), some (.lst ((Rr b us k).map rD)), some (.int number), some (.lst (dInts (countsB b number))), none, none, none, none] (us.map (uD b)) = .ok ((cand b us (Rr b us k) number).map dP) := by
    rw [lc_map (ι := uD b) (p := fun q => leB q.2.1 (countsB b number)) (γ := fun q => dP (Tn (Rr b us k) (number - numB b q.2.1).toNat + q.2.2, (q.1 : Int)))]
    · unfold cand
      rw [List.map_map]; rfl
    · intro q hq
      have hql := hu.len q hq
      have hp := has_ok (ws := q.2.1) (cs := countsB b number) (by omega) (by omega)
      refine ⟨[.int (q.1 : Int), .tup (dInts q.2.1), .int q.2.2, .int (numB b q.2.1)], rfl, ?_, fun hle => ?_⟩
      · show t_p_reach_1 [some (.lst (dInts b)), some ch, some (.lst (us.map (uD b))), some (.lst ((Rr b us k).map rD)), some (.int number), some (.lst (dInts (countsB b number))), some (.int (q.1 : Int)), some (.tup (dInts q.2.1)), some (.int q.2.2), some (.int (numB b q.2.1))] = _
        unfold t_p_reach_1
        walk_at "ev"
      · obtain ⟨s1, s2⟩ := step_le hb.bk hu hq (n := number) (by omega) hk hle
        have hj : (number - numB b q.2.1).toNat < (Rr b us k).length := by rw [Rr_len]; omega
        have hix : D.ix (.lst ((Rr b us k).map rD)) (.int (number - numB b q.2.1)) = .ok (.tup [.int (Tn (Rr b us k) (number - numB b q.2.1).toNat), plD ((Rr b us k)[(number - numB b q.2.1).toNat]).2]) := by
          refine ix_lst_int (by omega) ?_
          rw [List.getElem?_map, List.getElem?_eq_getElem hj]
          unfold Tn
          rw [List.getElem?_eq_getElem hj]
          rfl
        show g_p_reach_1 [some (.lst (dInts b)), some ch, some (.lst (us.map (uD b))), some (.lst ((Rr b us k).map rD)), some (.int number), some (.lst (dInts (countsB b number))), some (.int (q.1 : Int)), some (.tup (dInts q.2.1)), some (.int q.2.2), some (.int (numB b q.2.1))] = .ok (.tup [.int (Tn (Rr b us k) (number - numB b q.2.1).toNat + q.2.2), .int (q.1 : Int)])
        unfold g_p_reach_1
        walk_at "ev"
  obtain ⟨c, cs, hcs⟩ : ∃ c cs, cand b us (Rr b us k) number = c :: cs := by
    obtain ⟨q, hq, hle⟩ := hsome
    have : (Tn (Rr b us k) (number - numB b q.2.1).toNat + q.2.2, (q.1 : Int)) ∈ cand b us (Rr b us k) number := List.mem_map.mpr ⟨q, List.mem_filter.mpr ⟨hq, hle⟩, rfl⟩
    cases hc : cand b us (Rr b us k) number with
    | nil => rw [hc] at this; cases this
    | cons c cs => exact ⟨c, cs, rfl⟩
  have hm2 : ((minP c cs).2.toNat : Int) = (minP c cs).2 := by
    have hm := minP_mem cs c
    rw [← hcs] at hm
    obtain ⟨q, _, e⟩ := List.mem_map.mp hm
    have : (minP c cs).2 = (q.1 : Int) := by rw [← e]
    omega
  have hmin : D.minPs [.lst ((cand b us (Rr b us k) number).map dP)] = .ok (.tup [.int (minP c cs).1, .int (minP c cs).2]) := by
    show (match D.prs ((cand b us (Rr b us k) number).map dP) with
      | some (p :: ps) => Res.ok (D.tup [.int (minP p ps).1, .int (minP p ps).2])
      | _ => .stuck) = _
    rw [prs_dP, hcs]
  have hnew : (Rr b us k).map rD ++ [.tup [.int (minP c cs).1, .int (minP c cs).2]] = (Rr b us (k + 1)).map rD := by
    rw [Rr, List.map_append, ← hnum, hcs]
    show _ = _ ++ [D.tup [.int (minP c cs).1, .int ((minP c cs).2.toNat : Int)]]
    rw [hm2]
  have hrl : ((Rr b us k).map rD).length ≤ 300 := by rw [List.length_map, Rr_len]; omega
  have hul : (us.map (uD b)).length ≤ 100 := by rw [List.length_map]; exact hu.few
  simp only [List.set_cons_succ, List.set_cons_zero]
  refine ⟨[some (.lst (dInts b)), some ch, some (.lst (us.map (uD b))), some (.lst ((Rr b us (k + 1)).map rD)), some (.int number), some (.lst (dInts (countsB b number))), none, none, none, none], ?_, _, _, rfl⟩
  rw [← hnew]
  unfold b_p_reach_1
  walk_at "ev"
  exact rfl
  walk_at "ev"
end My
set_option Elab.async false
set_option linter.all false
set_option maxRecDepth 100000
set_option maxHeartbeats 4000000
namespace My
open PySem Dx
theorem leB_iff : ∀ {ws cs : List Int}, leB ws cs = true ↔ ∀ (j : Nat) (w c : Int), ws[j]? = some w → cs[j]? = some c → w ≤ c
  | [], cs => by simp [leB]
  | _ :: _, [] => by simp [leB]
  | w :: ws, c :: cs => by
    have ih := leB_iff (ws := ws) (cs := cs)
    unfold leB
    rw [Bool.and_eq_true, decide_eq_true_eq, ih]
    constructor
    · rintro ⟨h1, h2⟩ j x y hx hy
      cases j with
      | zero => simp at hx hy; omega
      | succ j => exact h2 j x y (by simpa using hx) (by simpa using hy)
    · intro h
      exact ⟨h 0 w c rfl rfl, fun j x y hx hy => h (j + 1) x y (by simpa using hx) (by simpa using hy)⟩
theorem uW_at {n i j : Nat} {w : Int} (h : (uW n i)[j]? = some w) : w = if j = i then 1 else 0 := by
  unfold uW at h
  rw [List.getElem?_map] at h
  by_cases hj : j < n
  · rw [List.getElem?_range hj] at h
    simpa using h.symm
  · rw [List.getElem?_eq_none (by simpa using hj)] at h; cases h
theorem leB_uW {n i : Nat} {cs : List Int} {c : Int} (hi : cs[i]? = some c) (h1 : 1 ≤ c) (h0 : ∀ x ∈ cs, 0 ≤ x) : leB (uW n i) cs = true := leB_iff.mpr fun j w x hw hx => by
  rw [uW_at hw]
  split
  · rename_i e
    subst e
    rw [hi] at hx; cases hx; exact h1
  · exact h0 x (List.mem_of_getElem? hx)
theorem numB_zero : ∀ {bs cs : List Int}, (∀ c ∈ cs, c = 0) → numB bs cs = 0
  | [], _, _ => by simp [numB]
  | _ :: _, [], _ => by simp [numB]
  | b :: bs, c :: cs, h => by
    show c + (b + 1) * numB bs cs = 0
    rw [numB_zero fun x m => h x (List.mem_cons_of_mem _ m), h c List.mem_cons_self]; simp
theorem usL_us {ks : List (List Nat × Int)} (hk : Kok ks) {b : List Int} (hb : Gb ks.length b) {ds : List (List Int × Int)} (hd : ∀ d ∈ ds, Dl ks.length d) (hl : ds.length ≤ 90) : Us b (usL b (plainD ks ++ ds)) := by
  have h5 : ks.length ≤ 5 := by rw [← hb.len]; exact hb.bk.len
  have all : ∀ d ∈ plainD ks ++ ds, Dl ks.length d := fun d m => (List.mem_append.mp m).elim (plainD_dl hk d) (hd d)
  have qd : ∀ q ∈ usL b (plainD ks ++ ds), Dl ks.length q.2 := fun q m => all _ (ixs_mem (List.mem_filter.mp m).1).1
  refine ⟨fun q m => by rw [(qd q m).len, hb.len], fun q m => (qd q m).num, fun q m => (qd q m).pos, fun k hk2 => ?_, ?_⟩
  · have hc := countsB_mem (n := ((k + 1 : Nat) : Int)) hb.bk.pos
    have hn := numB_counts (n := ((k + 1 : Nat) : Int)) hb.bk.nn (by omega) hk2
    obtain ⟨c, hcm, hc1⟩ : ∃ c ∈ countsB b ((k + 1 : Nat) : Int), 1 ≤ c := by
      by_cases h : ∃ c ∈ countsB b ((k + 1 : Nat) : Int), 1 ≤ c
      · exact h
      · exfalso
        have hz : ∀ c ∈ countsB b ((k + 1 : Nat) : Int), c = 0 := fun c m => by
          have h1 := (hc c m).1
          by_cases h2 : 1 ≤ c
          · exact absurd ⟨c, m, h2⟩ h
          · omega
        rw [numB_zero hz] at hn
        omega
    obtain ⟨i, hi, e⟩ := List.mem_iff_getElem.mp hcm
    have hi2 : i < ks.length := by rw [countsB_len, hb.len] at hi; exact hi
    have hei : (countsB b ((k + 1 : Nat) : Int))[i]? = some c := by rw [List.getElem?_eq_getElem hi, e]
    have hle := leB_uW (n := ks.length) hei hc1 fun x m => (hc x m).1
    have hat := plainD_at (ks := ks) (List.getElem?_eq_getElem hi2)
    have hin : (plainD ks ++ ds)[i]? = some (uW ks.length i, (ks[i]).2) := by
      rw [List.getElem?_append_left (by rw [plainD_len]; exact hi2)]; exact hat
    refine ⟨_, List.mem_filter.mpr ⟨ixs_of (k := 0) hin, ?_⟩, hle⟩
    exact leB_trans (by simp [uW, countsB_len, hb.len]) countsB_len hle (countsB_le hb.bk.nn)
  · have : (usL b (plainD ks ++ ds)).length ≤ (ixs 0 (plainD ks ++ ds)).length := List.length_filter_le _ _
    rw [ixs_len, List.length_append, plainD_len] at this
    omega
theorem rng2_one {N : Int} (h1 : 1 ≤ N) (h2 : N ≤ 300) : D.rng2 [.int 1, .int N] = .ok ((List.range (N - 1).toNat).map fun (k : Nat) => .int (1 + k)) := by
  show (if (-100000 ≤ (1 : Int) ∧ (1 : Int) ≤ 100000) ∧ -100000 ≤ N ∧ N ≤ 100000 then _ else _) = _
  rw [if_pos (by omega)]
theorem reach_ok {ks : List (List Nat × Int)} (hk : Kok ks) {b : List Int} (hb : Gb ks.length b) {ds : List (List Int × Int)} (hd : ∀ d ∈ ds, Dl ks.length d) (hl : ds.length ≤ 90) : F_p_reach [.lst (dInts b), .lst (DD (plainD ks ++ ds))] = .ok (.lst ((Rr b (usL b (plainD ks ++ ds)) (prodB b - 1).toNat).map rD)) := by
  have h5 : ks.length ≤ 5 := by rw [← hb.len]; exact hb.bk.len
  have hu := usL_us hk hb hd hl
  have all : ∀ d ∈ plainD ks ++ ds, Dl ks.length d := fun d m => (List.mem_append.mp m).elim (plainD_dl hk d) (hd d)
  have husable := usable_ok hb.bk hb.len all (by rw [List.length_append, plainD_len]; omega)
  have hN := hb.few
  have hN1 := prodB_pos hb.bk.nn
  have hwithin := within_ok hb.bk
  have hrng := rng2_one hN1 hN
  have hb' : Gb b.length b := ⟨hb.bk, rfl, hb.few⟩
  obtain ⟨e, he, x4, x5, rfl⟩ := for_inv (tg := .one 4) (s := b_p_reach_1) (rInv b (.lst (DD (plainD ks ++ ds))) (usL b (plainD ks ++ ds))) (ds := (List.range (prodB b - 1).toNat).map fun (k : Nat) => .int (1 + k)) 0 (env := [some (.lst (dInts b)), some (.lst (DD (plainD ks ++ ds))), some (.lst ((usL b (plainD ks ++ ds)).map (uD b))), some (.lst [.tup [.int 0, .non]]), none, none, none, none, none, none]) ⟨none, none, rfl⟩ fun k d e hd hi => by
    rw [List.getElem?_map] at hd
    by_cases hk2 : k < (prodB b - 1).toNat
    · rw [List.getElem?_range hk2] at hd
      cases hd
      rw [Nat.zero_add] at hi ⊢
      obtain ⟨e1, q1, q2⟩ := reach_step hb' hu (k := k) (by omega) hi
      refine ⟨_, e1, rfl, ?_, q2⟩
      rw [← q1]
      show b_p_reach_1 (e.set 4 (some (.int (1 + (k : Int))))) = _
      rw [show (1 + (k : Int)) = ((k + 1 : Nat) : Int) by omega]
    · rw [List.getElem?_eq_none (by simpa using hk2)] at hd; cases hd
  rw [Nat.zero_add, List.length_map, List.length_range] at he
  unfold F_p_reach f_p_reach
  walk_at "ev"
end My
set_option Elab.async false
set_option linter.all false
set_option maxRecDepth 100000
set_option maxHeartbeats 4000000
namespace My
open PySem Dx
def Tl (b : List Int) (ds : List (List Int × Int)) : List Int := (Rr b (usL b ds) (prodB b - 1).toNat).map (·.1)
theorem Tl_len {b : List Int} (hb : ∀ x ∈ b, 0 ≤ x) (ds : List (List Int × Int)) : ((Tl b ds).length : Int) = prodB b := by
  have := prodB_pos hb
  unfold Tl
  rw [List.length_map, Rr_len]; omega
theorem Tl_zero (b : List Int) (ds : List (List Int × Int)) : (Tl b ds)[0]? = some 0 := by
  unfold Tl
  rw [List.getElem?_map, Rr_pre b (usL b ds) (j := 0) (k := 0) (Nat.le_refl _) (Nat.zero_le _)]
  rfl
/-- what the ways cost, deal by deal -/
def waysL (ds : List (List Int × Int)) (b T : List Int) (number : Int) : List Int := (ds.filter fun d => leB d.1 (countsB b number)).map fun d => (T[(number - numB b d.1).toNat]?).getD 0 + d.2
theorem ixs_filter (p : List Int × Int → Bool) : ∀ (ds : List (List Int × Int)) (k : Nat), ((ixs k ds).filter fun q => p q.2).map (·.2) = ds.filter p
  | [], _ => rfl
  | d :: ds, k => by
    have ih := ixs_filter p ds (k + 1)
    show (((k, d) :: ixs (k + 1) ds).filter fun q => p q.2).map (·.2) = _
    rw [List.filter_cons, List.filter_cons]
    cases h : p d with
    | true =>
      rw [if_pos rfl, if_pos rfl, List.map_cons, ih]
    | false =>
      rw [if_neg (by decide), if_neg (by decide), ih]
theorem usL_filter {b : List Int} (hb : Bk b) {n : Nat} (hn : b.length = n) {ds : List (List Int × Int)} (hd : ∀ d ∈ ds, Dl n d) (number : Int) : (usL b ds).filter (fun q => leB q.2.1 (countsB b number)) = (ixs 0 ds).filter fun q => leB q.2.1 (countsB b number) := by
  unfold usL
  rw [List.filter_filter]
  refine List.filter_congr fun q hq => ?_
  have hq := hd _ (ixs_mem hq).1
  cases h : leB q.2.1 (countsB b number) with
  | false => rfl
  | true =>
    rw [leB_trans (by rw [hq.len, countsB_len, hn]) countsB_len h (countsB_le hb.nn)]
    rfl
theorem Tl_step {ks : List (List Nat × Int)} (hk : Kok ks) {b : List Int} (hb : Gb ks.length b) {ds : List (List Int × Int)} (hd : ∀ d ∈ ds, Dl ks.length d) (hl : ds.length ≤ 90) {k : Nat} (hk2 : ((k + 1 : Nat) : Int) < prodB b) :
    ∃ w ws, waysL (plainD ks ++ ds) b (Tl b (plainD ks ++ ds)) ((k + 1 : Nat) : Int) = w :: ws ∧ (Tl b (plainD ks ++ ds))[k + 1]? = some (D.minI w ws) := by
  have hu := usL_us hk hb hd hl
  have all : ∀ d ∈ plainD ks ++ ds, Dl ks.length d := fun d m => (List.mem_append.mp m).elim (plainD_dl hk d) (hd d)
  obtain ⟨us, hus⟩ : ∃ us, us = usL b (plainD ks ++ ds) := ⟨_, rfl⟩
  have hfil := usL_filter hb.bk hb.len all ((k + 1 : Nat) : Int)
  rw [← hus] at hu hfil
  have hway : (cand b us (Rr b us k) ((k + 1 : Nat) : Int)).map (·.1) = waysL (plainD ks ++ ds) b (Tl b (plainD ks ++ ds)) ((k + 1 : Nat) : Int) := by
    unfold cand waysL
    rw [List.map_map, ← ixs_filter (fun d => leB d.1 (countsB b ((k + 1 : Nat) : Int))) _ 0, ← hfil, List.map_map]
    refine List.map_congr_left fun q hq => ?_
    obtain ⟨hq1, hq2⟩ := List.mem_filter.mp hq
    obtain ⟨s1, s2⟩ := step_le hb.bk hu hq1 (n := ((k + 1 : Nat) : Int)) (by omega) hk2 hq2
    show Tn (Rr b us k) (((k + 1 : Nat) : Int) - numB b q.2.1).toNat + q.2.2 = ((Tl b (plainD ks ++ ds))[(((k + 1 : Nat) : Int) - numB b q.2.1).toNat]?).getD 0 + q.2.2
    unfold Tn Tl
    rw [List.getElem?_map, ← hus, Rr_pre b us (j := (((k + 1 : Nat) : Int) - numB b q.2.1).toNat) (k := k) (m := (prodB b - 1).toNat) (by omega) (by omega)]
  obtain ⟨q, hq, hle⟩ := hu.some k hk2
  have hm : (Tn (Rr b us k) (((k + 1 : Nat) : Int) - numB b q.2.1).toNat + q.2.2, (q.1 : Int)) ∈ cand b us (Rr b us k) ((k + 1 : Nat) : Int) := List.mem_map.mpr ⟨q, List.mem_filter.mpr ⟨hq, hle⟩, rfl⟩
  have hat : (Tl b (plainD ks ++ ds))[k + 1]? = some (bestOf (cand b us (Rr b us k) ((k + 1 : Nat) : Int))).1 := by
    unfold Tl
    rw [List.getElem?_map, ← hus, Rr_pre b us (j := k + 1) (k := k + 1) (m := (prodB b - 1).toNat) (Nat.le_refl _) (by omega), Rr, List.getElem?_append_right (by rw [Rr_len]; omega), Rr_len]
    simp
  cases hc : cand b us (Rr b us k) ((k + 1 : Nat) : Int) with
  | nil => rw [hc] at hm; cases hm
  | cons c cs =>
    rw [hc] at hat hway
    refine ⟨c.1, cs.map (fun p : Int × Int => p.1), hway.symm, ?_⟩
    rw [hat]
    show some (minP c cs).1 = _
    rw [minP_fst]
theorem table_list (b ch : D) (x1 : Option D) : ∀ rs : Rt, lcGo (.two 3 4) eYes g_p_table_1 [some b, x1, some ch, none, none] (rs.map rD) = .ok (dInts (rs.map (·.1)))
  | [] => rfl
  | r :: rs => by
    have ih := table_list b ch x1 rs
    show lcGo (.two 3 4) eYes g_p_table_1 [some b, x1, some ch, none, none] (.tup [.int r.1, plD r.2] :: rs.map rD) = _
    have h : g_p_table_1 (([some b, x1, some ch, none, none].set 3 (some (.int r.1))).set 4 (some (plD r.2))) = .ok (.int r.1) := rfl
    rw [lcGo_two, eYes_ap, h, consR_t, ih]; rfl
/-- the table, by the program -/
theorem table_prog {ks : List (List Nat × Int)} (hk : Kok ks) {b : List Int} (hb : Gb ks.length b) {os : List D} {ds : List (List Int × Int)} (hd : ∀ d ∈ ds, Dl ks.length d) (hl : ds.length ≤ 90) (hp : F_p_deals [shopK ks, .lst os] = .ok (.lst (DD (plainD ks ++ ds)))) : F_p_table [shopK ks, .lst os, .lst (dInts b)] = .ok (.lst (dInts (Tl b (plainD ks ++ ds)))) := by
  have h1 := need_basket_ok hb
  have h2 := reach_ok hk hb hd hl
  have h3 := table_list (shopK ks) (.lst (dInts b)) (some (.lst os)) (Rr b (usL b (plainD ks ++ ds)) (prodB b - 1).toNat)
  have hN := hb.few
  have h4 : ((Rr b (usL b (plainD ks ++ ds)) (prodB b - 1).toNat).map rD).length ≤ 300 := by
    have := prodB_pos hb.bk.nn
    rw [List.length_map, Rr_len]; omega
  unfold F_p_table f_p_table
  walk_at "ev"
  exact rfl
theorem ix_last {ds : List D} {d : D} (h : ds.getLast? = some d) : D.ix (.lst ds) (.int (-1)) = .ok d := by
  rw [List.getLast?_eq_getElem?] at h
  have hl : 0 < ds.length := by
    by_cases z : ds.length = 0
    · rw [List.length_eq_zero_iff.mp z] at h; simp at h
    · omega
  show (match L2.atI ds (-1) with | some d => Res.ok d | none => .stuck) = _
  have e : L2.atI ds (-1) = some d := by
    unfold L2.atI L2.ixN
    rw [if_neg (by omega), if_pos (by omega)]
    show ds[(-1 + (ds.length : Int)).toNat]? = some d
    rw [show (-1 + (ds.length : Int)).toNat = ds.length - 1 by omega]
    exact h
  rw [e]
end My
set_option Elab.async false
set_option linter.all false
set_option maxRecDepth 100000
set_option maxHeartbeats 4000000
namespace My
open PySem PySem.Spec PyProof.Rows L2 Dx
theorem cost_prog {ks : List (List Nat × Int)} {b : List Int} {os : List D} {T : List Int} {t : Int} (h : F_p_table [shopK ks, .lst os, .lst (dInts b)] = .ok (.lst (dInts T))) (hne : T.getLast? = some t) : F_p_cost [shopK ks, .lst os, .lst (dInts b)] = .ok (.int t) := by
  have hix : D.ix (.lst (dInts T)) (.int (-1)) = .ok (.int t) := ix_last (by rw [dInts, List.getLast?_map, hne]; rfl)
  unfold F_p_cost f_p_cost
  walk_at "ev"
end My
set_option Elab.async false
set_option linter.all false
set_option maxRecDepth 100000
set_option maxHeartbeats 4000000
namespace My
open PySem Dx
theorem whole_int (n : Int) : F_l_whole [.int n] = .ok (.bl true) := by simp [F_l_whole, fnSem_ap, f_l_whole]
theorem leB_range {ws cs : List Int} (hl : ws.length = cs.length) : leB ws cs = true ↔ ((List.range cs.length).filter fun k => decide (cs.getD k 0 < ws.getD k 0)) = [] := by
  rw [leB_iff, List.filter_eq_nil_iff]
  constructor
  · intro h k hk
    have hk := List.mem_range.mp hk
    rw [decide_eq_true_eq, List.getD_eq_getElem?_getD, List.getD_eq_getElem?_getD, List.getElem?_eq_getElem hk, List.getElem?_eq_getElem (by omega)]
    have := h k _ _ (List.getElem?_eq_getElem (l := ws) (by omega)) (List.getElem?_eq_getElem hk)
    simpa using this
  · intro h j w c hw hc
    have hj := (List.getElem?_eq_some_iff.mp hc).1
    have := h j (List.mem_range.mpr hj)
    rw [decide_eq_true_eq, List.getD_eq_getElem?_getD, List.getD_eq_getElem?_getD, hw, hc] at this
    simpa using this
theorem l_has_ok {ws cs : List Int} (hl : ws.length = cs.length) (h5 : cs.length ≤ 10) : F_l_has [.lst (dInts cs), .tup (dInts ws)] = .ok (.bl (leB ws cs)) := by
  have l2 := dInts_len cs
  have l1 := dInts_len ws
  have hrng : D.rng1 [.int ((dInts cs).length : Int)] = .ok ((List.range cs.length).map fun (k : Nat) => .int k) := by rw [l2]; exact rng1_nat (by omega)
  have hc : lcGo (.one 2) t_l_has_1 g_l_has_1 [some (.lst (dInts cs)), some (.tup (dInts ws)), none] ((List.range cs.length).map fun (k : Nat) => .int k) = .ok (((List.range cs.length).filter fun k => decide (cs.getD k 0 < ws.getD k 0)).map fun (k : Nat) => .int k) := by
    refine lc_map (ι := fun (k : Nat) => D.int k) (γ := fun (k : Nat) => D.int k) (p := fun k => decide (cs.getD k 0 < ws.getD k 0)) fun k hk => ?_
    have hk := List.mem_range.mp hk
    have i1 : D.ix (.lst (dInts cs)) (.int (k : Int)) = .ok (.int (cs.getD k 0)) := ix_lst_at (by simp [dInts, List.getD_eq_getElem?_getD, List.getElem?_eq_getElem hk])
    have i2 : D.ix (.tup (dInts ws)) (.int (k : Int)) = .ok (.int (ws.getD k 0)) := ix_tup_at (by simp [dInts, List.getD_eq_getElem?_getD, List.getElem?_eq_getElem (show k < ws.length by omega)])
    refine ⟨[.int (k : Int)], rfl, ?_, fun _ => rfl⟩
    show t_l_has_1 [some (.lst (dInts cs)), some (.tup (dInts ws)), some (.int (k : Int))] = _
    unfold t_l_has_1
    walk_at "ev"
  have he : D.eq (.int ((((List.range cs.length).filter fun k => decide (cs.getD k 0 < ws.getD k 0)).map fun (k : Nat) => D.int k).length : Int)) (.int 0) = .ok (.bl (leB ws cs)) := by
    refine eq_ii ?_
    rw [List.length_map]
    cases h : leB ws cs with
    | true => rw [leB_range hl] at h; rw [h]; rfl
    | false =>
      rw [decide_eq_false_iff_not]
      intro z
      have z2 := List.length_eq_zero_iff.mp (by omega : ((List.range cs.length).filter fun k => decide (cs.getD k 0 < ws.getD k 0)).length = 0)
      rw [← leB_range hl, h] at z2
      cases z2
  have hr2 : ((List.range cs.length).map fun (k : Nat) => D.int k).length ≤ 10 := by simpa using h5
  unfold F_l_has f_l_has
  walk_at "ev"
theorem dl_step {b : List Int} (hb : Bk b) {d : List Int × Int} (hd : Dl b.length d) {n : Int} (h0 : 0 ≤ n) (hn : n < prodB b) (hle : leB d.1 (countsB b n) = true) : 1 ≤ numB b d.1 ∧ numB b d.1 ≤ n := by
  have hc := countsB_mem (n := n) hb.pos
  refine ⟨numB_pos hb.nn (fun w m => (hd.num w m).1) hd.len.symm hd.pos, ?_⟩
  have := numB_mono (bs := b) (ws := d.1) (cs := countsB b n) hb.nn (fun c m => (hc c m).1) (by rw [countsB_len, hd.len]) hle
  rw [numB_counts hb.nn h0 hn] at this
  exact this
/-- the law's inner loop -/
theorem law_inner {b : List Int} (hb : Bk b) {T : List Int} (hT : (T.length : Int) = prodB b) {n : Int} (h0 : 0 ≤ n) (hn : n < prodB b) {x0 x1 x3 x4 x5 x6 x7 x8 x9 x11 x16 : Option D} : ∀ (ds : List (List Int × Int)) (acc : List Int) (y : Option D), (∀ d ∈ ds, Dl b.length d) → acc.length + ds.length ≤ 100 →
    ∃ y2, forGo (.one 15) b_p_law_1 (DD ds) [x0, x1, some (.lst (dInts b)), x3, x4, x5, x6, x7, x8, x9, some (.lst (dInts T)), x11, some (.int n), some (.lst (dInts (countsB b n))), some (.lst (dInts acc)), y, x16] = .nxt [x0, x1, some (.lst (dInts b)), x3, x4, x5, x6, x7, x8, x9, some (.lst (dInts T)), x11, some (.int n), some (.lst (dInts (countsB b n))), some (.lst (dInts (acc ++ waysL ds b T n))), y2, x16]
  | [], acc, y, _, _ => ⟨y, by simp [waysL]; rfl⟩
  | d :: ds, acc, y, hd, hl => by
    have hd1 := hd d List.mem_cons_self
    have hb5 := hb.len
    have hcl : (countsB b n).length = b.length := countsB_len
    have hh := l_has_ok (ws := d.1) (cs := countsB b n) (by rw [hcl, hd1.len]) (by omega)
    have hl' : acc.length + (ds.length + 1) ≤ 100 := by simpa using hl
    have hal := dInts_len acc
    cases hle : leB d.1 (countsB b n) with
    | true =>
      obtain ⟨s1, s2⟩ := dl_step hb hd1 h0 hn hle
      rw [hle] at hh
      have hj : (n - numB b d.1).toNat < T.length := by omega
      have hst := step_ok hb hd1.len hd1.num
      have hix : D.ix (.lst (dInts T)) (.int (n - numB b d.1)) = .ok (.int ((T[(n - numB b d.1).toNat]?).getD 0)) := by
        refine ix_lst_int (by omega) ?_
        rw [List.getElem?_eq_getElem hj]
        simp [dInts, List.getElem?_eq_getElem hj]
      obtain ⟨y2, hy⟩ := law_inner hb hT h0 hn ds (acc ++ [(T[(n - numB b d.1).toNat]?).getD 0 + d.2]) (some (.tup [.tup (dInts d.1), .int d.2])) (fun c m => hd c (List.mem_cons_of_mem _ m)) (by simp; omega)
      refine ⟨y2, ?_⟩
      have hw : waysL (d :: ds) b T n = ((T[(n - numB b d.1).toNat]?).getD 0 + d.2) :: waysL ds b T n := by
        unfold waysL
        rw [List.filter_cons, if_pos hle, List.map_cons]
      rw [hw, show acc ++ ((T[(n - numB b d.1).toNat]?).getD 0 + d.2) :: waysL ds b T n = acc ++ [(T[(n - numB b d.1).toNat]?).getD 0 + d.2] ++ waysL ds b T n by simp]
      refine ev_for_one (e1 := [x0, x1, some (.lst (dInts b)), x3, x4, x5, x6, x7, x8, x9, some (.lst (dInts T)), x11, some (.int n), some (.lst (dInts (countsB b n))), some (.lst (dInts acc)), some (.tup [.tup (dInts d.1), .int d.2]), x16]) rfl (ev_loop_nxt (e1 := [x0, x1, some (.lst (dInts b)), x3, x4, x5, x6, x7, x8, x9, some (.lst (dInts T)), x11, some (.int n), some (.lst (dInts (countsB b n))), some (.lst (dInts (acc ++ [(T[(n - numB b d.1).toNat]?).getD 0 + d.2]))), some (.tup [.tup (dInts d.1), .int d.2]), x16]) ?_ hy)
      rw [← dInts_snoc]
      unfold b_p_law_1
      walk_at "ev"
    | false =>
      rw [hle] at hh
      obtain ⟨y2, hy⟩ := law_inner hb hT h0 hn ds acc (some (.tup [.tup (dInts d.1), .int d.2])) (fun c m => hd c (List.mem_cons_of_mem _ m)) (by omega)
      refine ⟨y2, ?_⟩
      have hw : waysL (d :: ds) b T n = waysL ds b T n := by
        unfold waysL
        rw [List.filter_cons, if_neg (by rw [hle]; decide)]
      rw [hw]
      refine ev_for_one (e1 := [x0, x1, some (.lst (dInts b)), x3, x4, x5, x6, x7, x8, x9, some (.lst (dInts T)), x11, some (.int n), some (.lst (dInts (countsB b n))), some (.lst (dInts acc)), some (.tup [.tup (dInts d.1), .int d.2]), x16]) rfl (ev_loop_nxt (e1 := [x0, x1, some (.lst (dInts b)), x3, x4, x5, x6, x7, x8, x9, some (.lst (dInts T)), x11, some (.int n), some (.lst (dInts (countsB b n))), some (.lst (dInts acc)), some (.tup [.tup (dInts d.1), .int d.2]), x16]) ?_ hy)
      unfold b_p_law_1
      walk_at "ev"
end My
set_option Elab.async false
set_option linter.all false
set_option maxRecDepth 100000
set_option maxHeartbeats 4000000
namespace My
open PySem Dx
theorem flatL_all {l : List D} (h : l.all D.flat = true) : flatL l = .ok l := by unfold flatL; rw [if_pos h]
theorem KD_item {ks : List (List Nat × Int)} (hk : Kok ks) : ∀ d ∈ KD ks, ItemOk d := fun d hd => by
  obtain ⟨p, hp, rfl⟩ := List.mem_map.mp (show d ∈ ks.map fun p => .tup [.str (S p.1), .int p.2] from hd)
  exact .pair (.inl ⟨_, rfl, by have := (hk.nm p hp).hi; rw [S_len]; omega⟩) (.inl ⟨_, rfl⟩)
theorem init_ok {ks : List (List Nat × Int)} (hk : Kok ks) (h1 : 1 ≤ ks.length) (h5 : ks.length ≤ 5) : F_p_Shop_init [.lst (KD ks)] = .ok [("names", .lst (ND ks)), ("prices", .lst (PD ks))] := by
  have hl := KD_len ks
  have hn := need_ok (KD_item hk) (by omega) (by omega)
  have hsc : scan [] (KD ks) = .ok := scan_of_KD (ks0 := []) (by simpa using hk)
  rw [hsc] at hn
  have hal := scan_all (KD_item hk) hsc
  obtain ⟨f0, f1, f2, f3⟩ := fst0 hal
  have sh := shopD_KD ks
  have e1 : (KD ks).map firstD = ND ks := by simp [KD, ND, firstD]
  have e2 : (KD ks).map secondD = PD ks := by simp [KD, PD, secondD]
  rw [e1] at f0 f2
  rw [e2] at f1 f3
  rw [← hF_p_Shop_init 0, init_cons]
  unfold initRes
  rw [hn]
  show (((lim (KD ks).length (fstAll 0 (KD ks))).bind flatL).bind fun l1 => ((lim (KD ks).length (fstAll 1 (KD ks))).bind flatL).bind fun l2 => (Res.ok [(("names" : Str), D.lst l1), ("prices", D.lst l2)])) = _
  rw [lim_ok (by omega), lim_ok (by omega), f0, f1, bind_ok, bind_ok, flatL_all f2, flatL_all f3]
  rfl
/-- the table of good offers -/
theorem tab_ex {ks : List (List Nat × Int)} (hk : Kok ks) (h5 : ks.length ≤ 5) {os : List D} (ho : os.length ≤ 50) (hoff : ∀ o ∈ os, Off ks o) : ∃ ds, (∀ d ∈ ds, Dl ks.length d) ∧ ds.length = os.length ∧ F_l_deals [.lst (KD ks), .lst os] = .ok (.lst (DD (plainD ks ++ ds))) ∧ ∀ b, Gb ks.length b → F_p_table [shopK ks, .lst os, .lst (dInts b)] = .ok (.lst (dInts (Tl b (plainD ks ++ ds)))) := by
  obtain ⟨ds, h1, h2, h3, h4⟩ := deals_ok hk h5 ho hoff
  exact ⟨ds, h1, h2, h4, fun b hb => table_prog hk hb h1 (by omega) h3⟩
theorem off_names {ks ks2 : List (List Nat × Int)} (h : ks2.map (·.1) = ks.map (·.1)) {o : D} (ho : Off ks o) : Off ks2 o := by
  cases ho with
  | slip ha hb hne h1 h2 => exact .slip (h ▸ ha) (h ▸ hb) hne h1 h2
  | share ha h1 h2 => exact .share (h ▸ ha) h1 h2
  | more ha h1 h2 h3 h4 => exact .more (h ▸ ha) h1 h2 h3 h4
  | set hw sub nd h1 h2 => exact .set hw (fun w m => ⟨h ▸ (sub w m).1, (sub w m).2⟩) nd h1 h2
theorem prodB_rev : ∀ (b : List Int), prodB b.reverse = prodB b
  | [] => rfl
  | c :: b => by rw [List.reverse_cons, prodB_snoc, prodB_rev b, Int.mul_comm]; rfl
theorem gb_rev {n : Nat} {b : List Int} (h : Gb n b) : Gb n b.reverse := ⟨⟨by simpa using h.bk.len, fun c m => h.bk.pos c (List.mem_reverse.mp m)⟩, by simpa using h.len, by rw [prodB_rev]; exact h.few⟩
theorem prodB_mono : ∀ {a b : List Int}, a.length = b.length → (∀ x ∈ a, 0 ≤ x) → (∀ x ∈ b, 0 ≤ x) → leB a b = true → prodB a ≤ prodB b
  | [], [], _, _, _, _ => Int.le_refl _
  | x :: a, y :: b, hl, ha, hb, h => by
    unfold leB at h
    rw [Bool.and_eq_true] at h
    have h1 := of_decide_eq_true h.1
    have hx := ha x List.mem_cons_self
    have h2 := prodB_mono (a := a) (b := b) (by simpa using hl) (fun z m => ha z (List.mem_cons_of_mem _ m)) (fun z m => hb z (List.mem_cons_of_mem _ m)) h.2
    have h3 := prodB_pos (bs := a) fun z m => ha z (List.mem_cons_of_mem _ m)
    have e1 : (x + 1) * prodB a ≤ (y + 1) * prodB a := Int.mul_le_mul_of_nonneg_right (by omega) (by omega)
    have e2 : (y + 1) * prodB a ≤ (y + 1) * prodB b := Int.mul_le_mul_of_nonneg_left h2 (by omega)
    exact Int.le_trans e1 e2
theorem gb_min {n : Nat} {b : List Int} (h : Gb n b) : Gb n (b.map fun c => if c < 1 then c else 1) := by
  have hp : ∀ x ∈ b.map (fun c => if c < 1 then c else 1), 0 ≤ x ∧ x ≤ 9 := fun x m => by
    obtain ⟨c, hc, rfl⟩ := List.mem_map.mp m
    have := h.bk.pos c hc
    split <;> omega
  refine ⟨⟨by simpa using h.bk.len, hp⟩, by simpa using h.len, ?_⟩
  refine Int.le_trans (prodB_mono (by simp) (fun x m => (hp x m).1) h.bk.nn (leB_iff.mpr fun j w c hw hc => ?_)) h.few
  rw [List.getElem?_map, hc] at hw
  simp at hw
  have := h.bk.pos c (List.mem_of_getElem? hc)
  split at hw <;> omega
theorem prodB_zeros : ∀ {b : List Int}, (∀ x ∈ b, x = 0) → prodB b = 1
  | [], _ => rfl
  | x :: b, h => by
    show (x + 1) * prodB b = 1
    rw [prodB_zeros fun y m => h y (List.mem_cons_of_mem _ m), h x List.mem_cons_self]; rfl
theorem gb_zero (ks : List (List Nat × Int)) (h5 : ks.length ≤ 5) : Gb ks.length (ks.map fun _ => 0) := ⟨⟨by simpa using h5, fun x m => by obtain ⟨_, _, rfl⟩ := List.mem_map.mp m; omega⟩, by simp, by rw [prodB_zeros fun x m => by obtain ⟨_, _, rfl⟩ := List.mem_map.mp m; rfl]; omega⟩
end My
set_option Elab.async false
set_option linter.all false
set_option maxRecDepth 100000
set_option maxHeartbeats 4000000
namespace My
open PySem Dx
theorem nums_map (l : List Int) : D.nums (dInts l) = some l := by
  induction l with
  | nil => rfl
  | cons x l ih =>
    show (D.nums (dInts l)).map (x :: ·) = _
    rw [ih]; rfl
theorem minNs_ok (w : Int) (ws : List Int) : D.minNs [.lst (dInts (w :: ws))] = .ok (.int (D.minI w ws)) := by
  show (match D.nums (dInts (w :: ws)) with | some (p :: ps) => Res.ok (D.int (D.minI p ps)) | _ => .stuck) = _
  rw [nums_map]
def wInv (b T : List Int) (x0 x1 x3 x4 x5 x6 x7 x8 x9 x11 x16 : Option D) (k : Nat) (e : Sl) : Prop := ∃ x12 x13 x14 x15, e = [x0, x1, some (.lst (dInts b)), x3, x4, x5, x6, x7, x8, x9, some (.lst (dInts T)), x11, x12, x13, x14, x15, x16]
theorem law_turn {b : List Int} (hb : Bk b) {T : List Int} (hT : (T.length : Int) = prodB b) {all : List (List Int × Int)} (hd : ∀ d ∈ all, Dl b.length d) (hl : all.length ≤ 95) (hst : ∀ k : Nat, ((k + 1 : Nat) : Int) < prodB b → ∃ w ws, waysL all b T ((k + 1 : Nat) : Int) = w :: ws ∧ T[k + 1]? = some (D.minI w ws))
    {x0 x1 x3 x4 x5 x6 x7 x8 x9 x16 : Option D} {k : Nat} (hk : k < T.length) {e : Sl} (h : wInv b T x0 x1 x3 x4 x5 x6 x7 x8 x9 (some (.lst (DD all))) x16 k e) : ∃ e1, b_p_law_2 (e.set 12 (some (.int (k : Int)))) = .nxt e1 ∧ wInv b T x0 x1 x3 x4 x5 x6 x7 x8 x9 (some (.lst (DD all))) x16 (k + 1) e1 := by
  obtain ⟨x12, x13, x14, x15, rfl⟩ := h
  have hn : (k : Int) < prodB b := by omega
  have hcnt := counts_ok hb (k : Int)
  obtain ⟨y2, hin⟩ := law_inner hb hT (n := (k : Int)) (by omega) hn (x0 := x0) (x1 := x1) (x3 := x3) (x4 := x4) (x5 := x5) (x6 := x6) (x7 := x7) (x8 := x8) (x9 := x9) (x11 := some (.lst (DD all))) (x16 := x16) all [] x15 hd (by simp; omega)
  rw [List.nil_append] at hin
  have hin : forGo (.one 15) b_p_law_1 (DD all) [x0, x1, some (.lst (dInts b)), x3, x4, x5, x6, x7, x8, x9, some (.lst (dInts T)), some (.lst (DD all)), some (.int (k : Int)), some (.lst (dInts (countsB b (k : Int)))), some (.lst []), x15, x16] = _ := hin
  have hix : D.ix (.lst (dInts T)) (.int (k : Int)) = .ok (.int (T[k])) := ix_lst_at (by simp [dInts, List.getElem?_eq_getElem hk])
  have hw := whole_int (T[k])
  simp only [List.set_cons_succ, List.set_cons_zero]
  cases k with
  | zero =>
    apply exN
    · unfold b_p_law_2
      walk_at "ev"
    · exact ⟨_, _, _, _, rfl⟩
  | succ k =>
    obtain ⟨w, ws, h1, h2⟩ := hst k hn
    rw [h1] at hin
    have hm := minNs_ok w ws
    have hne : D.ne (.int (T[k + 1])) (.int (D.minI w ws)) = .ok (.bl false) := by
      rw [List.getElem?_eq_getElem hk] at h2
      rw [Option.some.inj h2, ne_int]
      simp
    apply exN
    · unfold b_p_law_2
      walk_at "ev"
    · exact ⟨_, _, _, _, rfl⟩
end My
set_option Elab.async false
set_option linter.all false
set_option maxRecDepth 100000
set_option maxHeartbeats 4000000
namespace My
open PySem Dx
theorem ne_self {d : D} (h : D.okd 8 d = true) : D.ne d d = .ok (.bl false) := by
  unfold D.ne D.okq
  rw [h, eqv_self h]
  simp
theorem okd_tn {n : Nat} {xs : List D} (h : ∀ x ∈ xs, D.okd n x = true) : D.okd (n + 1) (.tn xs) = true := by
  rw [D.okd, okdA_all]; exact List.all_eq_true.mpr h
theorem okd_lit {n : Nat} {z : Str} (h : (z.cps.all fun x => decide (x < 1114112)) = true) : D.okd n (.str z) = true := by cases n <;> exact h
theorem okd_dI {n : Nat} (l : List Int) : ∀ x ∈ dInts l, D.okd n x = true := fun x m => by
  obtain ⟨i, _, rfl⟩ := List.mem_map.mp (show x ∈ l.map D.int from m)
  exact okd_int
theorem okS_mem {ks : List (List Nat × Int)} (hk : Kok ks) {a : List Nat} (h : a ∈ ks.map (·.1)) : okS a := by
  obtain ⟨p, hp, rfl⟩ := List.mem_map.mp h
  exact (hk.nm p hp).okS
theorem okd_off {ks : List (List Nat × Int)} (hk : Kok ks) {o : D} (h : Off ks o) {n : Nat} : D.okd (n + 4) o = true := by
  cases h with
  | slip ha hb hne h1 h2 =>
    refine okd_tup (n := n + 3) fun x m => ?_
    simp only [List.mem_cons, List.not_mem_nil, or_false] at m
    rcases m with rfl | rfl | rfl | rfl
    · exact okd_lit (by decide +kernel)
    · exact okd_S (okS_mem hk ha)
    · exact okd_S (okS_mem hk hb)
    · exact okd_int
  | share ha h1 h2 =>
    refine okd_tup (n := n + 3) fun x m => ?_
    simp only [List.mem_cons, List.not_mem_nil, or_false] at m
    rcases m with rfl | rfl | rfl
    · exact okd_lit (by decide +kernel)
    · exact okd_S (okS_mem hk ha)
    · exact okd_int
  | more ha h1 h2 h3 h4 =>
    refine okd_tup (n := n + 3) fun x m => ?_
    simp only [List.mem_cons, List.not_mem_nil, or_false] at m
    rcases m with rfl | rfl | rfl | rfl
    · exact okd_lit (by decide +kernel)
    · exact okd_S (okS_mem hk ha)
    · exact okd_int
    · exact okd_int
  | set hw sub nd h1 h2 =>
    rename_i ws p
    refine okd_tup (n := n + 3) fun x m => ?_
    simp only [List.mem_cons, List.not_mem_nil, or_false] at m
    rcases m with rfl | rfl | rfl
    · exact okd_lit (by decide +kernel)
    · refine okd_tn (n := n + 2) fun x m => ?_
      obtain ⟨q, hq, rfl⟩ := List.mem_map.mp (show x ∈ ws.map fun p => .tup [.str (S p.1), .int p.2] from m)
      refine okd_tup (n := n + 1) fun x m => ?_
      simp only [List.mem_cons, List.not_mem_nil, or_false] at m
      rcases m with rfl | rfl
      · exact okd_S (okS_mem hk (sub q hq).1)
      · exact okd_int
    · exact okd_int
def ks2 (ks : List (List Nat × Int)) : List (List Nat × Int) := ks.map fun p => (p.1, p.2 / 2 + 1)
theorem ks2_names (ks : List (List Nat × Int)) : (ks2 ks).map (·.1) = ks.map (·.1) := by simp [ks2]
theorem ks2_ok {ks : List (List Nat × Int)} (hk : Kok ks) : Kok (ks2 ks) := by
  refine ⟨fun p hp => ?_, fun p hp => ?_, by rw [ks2_names]; exact hk.nd⟩
  · obtain ⟨q, hq, rfl⟩ := List.mem_map.mp hp
    exact hk.nm q hq
  · obtain ⟨q, hq, rfl⟩ := List.mem_map.mp hp
    have := hk.pr q hq
    show 0 ≤ q.2 / 2 + 1 ∧ q.2 / 2 + 1 ≤ 100000
    omega
theorem last_of {T : List Int} {n : Int} (h : (T.length : Int) = n) (h1 : 1 ≤ n) : ∃ t, T.getLast? = some t ∧ T[T.length - 1]? = some t := by
  have hl : T.length - 1 < T.length := by omega
  exact ⟨T[T.length - 1], by rw [List.getLast?_eq_getElem?, List.getElem?_eq_getElem hl], List.getElem?_eq_getElem hl⟩
theorem min_list (base : Sl) (h : 6 < base.length) (b : List Int) : lcGo (.one 6) eYes g_p_law_1 base (dInts b) = .ok (dInts (b.map fun c => if c < 1 then c else 1)) := by
  have := lc_map (tg := .one 6) (t := eYes) (f := g_p_law_1) (base := base) (ι := D.int) (γ := fun c => D.int (if c < 1 then c else 1)) (p := fun _ => true) (l := b) fun c _ => by
    refine ⟨[.int c], rfl, rfl, fun _ => ?_⟩
    show g_p_law_1 (base.set 6 (some (.int c))) = _
    have hv : eVar 6 (base.set 6 (some (.int c))) = .ok (.int c) := eVar_ap (List.getElem?_set_self h)
    have hm : D.min2 [.int 1, .int c] = .ok (.int (if c < 1 then c else 1)) := min2_int
    unfold g_p_law_1
    walk_at "ev"
  rw [List.filter_eq_self.mpr (fun _ _ => rfl)] at this
  unfold dInts
  rw [this, List.map_map]
  rfl
theorem zero_list (base : Sl) (ks : List (List Nat × Int)) : lcGo (.one 7) eYes g_p_law_2 base (KD ks) = .ok (dInts (ks.map fun _ => 0)) := by
  rw [lc_all (γ := fun _ => .int 0)]
  · simp [KD, dInts]
  · intro d _; rfl
theorem ks2_list (base : Sl) (h : 7 < base.length) {ks : List (List Nat × Int)} (hk : Kok ks) : lcGo (.one 7) eYes g_p_law_3 base (KD ks) = .ok (KD (ks2 ks)) := by
  have := lc_map (tg := .one 7) (t := eYes) (f := g_p_law_3) (base := base) (ι := fun p : List Nat × Int => D.tup [.str (S p.1), .int p.2]) (γ := fun p => D.tup [.str (S p.1), .int (p.2 / 2 + 1)]) (p := fun _ => true) (l := ks) fun p _ => by
    refine ⟨[.tup [.str (S p.1), .int p.2]], rfl, rfl, fun _ => ?_⟩
    show g_p_law_3 (base.set 7 (some (.tup [.str (S p.1), .int p.2]))) = _
    have hv : eVar 7 (base.set 7 (some (.tup [.str (S p.1), .int p.2]))) = .ok (.tup [.str (S p.1), .int p.2]) := eVar_ap (List.getElem?_set_self h)
    unfold g_p_law_3
    walk_at "ev"
  rw [List.filter_eq_self.mpr (fun _ _ => rfl)] at this
  unfold KD ks2
  rw [this, List.map_map]
  rfl
theorem law_ok (ns : List Int) (hl : ns.length ≤ 63) : F_p_law [.fz (dInts ns)] = .ok (.bl true) := by
  obtain ⟨ks, hk, h1, h5, hkinds⟩ := kinds_ok hl
  obtain ⟨b, hb, hbasket⟩ := basket_ok hl h5 (st := 30) (by decide)
  obtain ⟨os, hoff, ho, hoffers⟩ := offers_ok hl hk h1 h5 (st := 20) (by decide)
  have hinit := init_ok hk h1 h5
  have hinit2 := init_ok (ks2_ok hk) (by simpa [ks2] using h1) (by simpa [ks2] using h5)
  have k2l : (ks2 ks).length = ks.length := by simp [ks2]
  obtain ⟨ds, hdl, hdn, hldeals, htab⟩ := tab_ex hk h5 (os := os) (by omega) hoff
  obtain ⟨ds0, hdl0, hdn0, _, htab0⟩ := tab_ex hk h5 (os := []) (by simp) (by simp)
  obtain ⟨ds1, hdl1, hdn1, _, htab1⟩ := tab_ex hk h5 (os := os.take 1) (by simp; omega) fun o m => hoff o (List.mem_of_mem_take m)
  obtain ⟨ds2, hdl2, hdn2, _, htab2⟩ := tab_ex (ks2_ok hk) (by rw [k2l]; exact h5) (os := os) (by omega) fun o m => off_names (ks2_names ks) (hoff o m)
  have hN1 := prodB_pos hb.bk.nn
  have hN := hb.few
  have hkl := KD_len ks
  have hbl := dInts_len b
  -- the tables
  have t0 := htab0 b hb
  have t1 := htab b hb
  have tr := htab _ (gb_rev hb)
  have tm := htab _ (gb_min hb)
  have tz := htab _ (gb_zero ks h5)
  have tf := htab1 b hb
  have ts := htab2 b (by rw [k2l]; exact hb)
  obtain ⟨all, hall⟩ : ∃ all, all = plainD ks ++ ds := ⟨_, rfl⟩
  have hTlen := Tl_len hb.bk.nn (plainD ks ++ ds)
  have hT0 := Tl_zero b (plainD ks ++ ds)
  have hTst : ∀ k : Nat, ((k + 1 : Nat) : Int) < prodB b → ∃ w ws, waysL (plainD ks ++ ds) b (Tl b (plainD ks ++ ds)) ((k + 1 : Nat) : Int) = w :: ws ∧ (Tl b (plainD ks ++ ds))[k + 1]? = some (D.minI w ws) := fun k hk2 => Tl_step hk hb hdl (by omega) hk2
  have hz : Tl (ks.map fun _ => 0) (plainD ks ++ ds) = [0] := by
    have a := Tl_len (b := ks.map fun _ => 0) (fun x m => by obtain ⟨_, _, rfl⟩ := List.mem_map.mp m; omega) (plainD ks ++ ds)
    have c := Tl_zero (ks.map fun _ => 0) (plainD ks ++ ds)
    rw [prodB_zeros fun x m => by obtain ⟨_, _, rfl⟩ := List.mem_map.mp m; rfl] at a
    match hq : Tl (ks.map fun _ => 0) (plainD ks ++ ds) with
    | [] => rw [hq] at a; simp at a
    | [x] => rw [hq] at c; simp at c; rw [c]
    | x :: y :: r => rw [hq] at a; simp at a; omega
  rw [hz] at tz
  have hdall : ∀ d ∈ all, Dl b.length d := fun d m => by rw [hall] at m; rw [hb.len]; exact (List.mem_append.mp m).elim (plainD_dl hk d) (hdl d)
  have hlall : all.length ≤ 95 := by rw [hall, List.length_append, plainD_len]; omega
  obtain ⟨t00, c00, _⟩ := last_of (Tl_len hb.bk.nn (plainD ks ++ ds0)) hN1
  obtain ⟨t, c1, c2⟩ := last_of hTlen hN1
  have cost0 := cost_prog t0 c00
  have cost1 := cost_prog t1 c1
  rw [← hall] at t1 tr tm hTlen hT0 hTst c2 hldeals
  obtain ⟨T, hT⟩ : ∃ T, T = Tl b all := ⟨_, rfl⟩
  rw [← hT] at t1 hTlen hT0 hTst c2
  have hmany := many_ok hb.bk
  have hb5 : b.length ≤ 5 := hb.bk.len
  have hTl := dInts_len T
  have hrev : (dInts b).reverse = dInts b.reverse := by simp [dInts]
  rw [← hrev] at tr
  have hinitv : F_p_Shop_init [.lst (KD (ks2 ks))] = .ok [("names", .lst (ND (ks2 ks))), ("prices", .lst (PD (ks2 ks)))] := hinit2
  unfold shopK at t0 t1 tr tm tz tf ts cost0 cost1
  have hmin := min_list [some (.fz (dInts ns)), some (.lst (KD ks)), some (.lst (dInts b)), some (.lst os), some (.obj "Shop" [("names", .lst (ND ks)), ("prices", .lst (PD ks))]), some (.lst [.lst os, .lst (dInts b)]), none, none, none, none, none, none, none, none, none, none, none] (by simp) b
  have hzero := zero_list [some (.fz (dInts ns)), some (.lst (KD ks)), some (.lst (dInts b)), some (.lst os), some (.obj "Shop" [("names", .lst (ND ks)), ("prices", .lst (PD ks))]), some (.lst [.lst os, .lst (dInts b)]), none, none, none, none, none, none, none, none, none, none, none] ks
  have hks2 := ks2_list [some (.fz (dInts ns)), some (.lst (KD ks)), some (.lst (dInts b)), some (.lst os), some (.obj "Shop" [("names", .lst (ND ks)), ("prices", .lst (PD ks))]), some (.lst [.lst os, .lst (dInts b)]), none, none, some (.lst (dInts T ++ [.int (-1)])), some (.lst (dInts T)), none, none, none, none, none, none, none] (by simp) hk
  have hsl : D.sl (.lst os) none (some 1) = .ok (.lst (os.take 1)) := slD_to (by decide)
  have hne0 : D.ne (.lst (dInts [0])) (.lst [.int 0]) = .ok (.bl false) := ne_self (okd_lst (n := 7) (okd_dI [0]))
  have hnelen : D.ne (.int ((dInts T).length : Int)) (.int (prodB b)) = .ok (.bl false) := by rw [ne_int, hTl, hTlen]; simp
  have hix0 : D.ix (.lst (dInts T)) (.int 0) = .ok (.int 0) := ix_lst_at (i := 0) (by simp [dInts, hT0])
  have hflat : (dInts T).all D.flat1 = true := by
    rw [List.all_eq_true]; intro x m
    obtain ⟨i, _, rfl⟩ := List.mem_map.mp (show x ∈ T.map D.int from m)
    rfl
  have hadd : D.add (.lst (dInts T)) (.lst [.int (-1)]) = .ok (.lst (dInts T ++ [.int (-1)])) := add_lst_ok (by rw [hTl]; simp; omega)
  have hnek : D.ne (.lst (dInts T ++ [.int (-1)])) (.lst (dInts T ++ [.int (-1)])) = .ok (.bl false) := ne_self (okd_lst (n := 7) fun x m => (List.mem_append.mp m).elim (okd_dI T x) fun q => by rw [List.mem_singleton.mp q]; exact okd_int)
  have hneT : D.ne (.lst (dInts T)) (.lst (dInts T)) = .ok (.bl false) := ne_self (okd_lst (n := 7) (okd_dI T))
  have hrng : D.rng1 [.int ((dInts T).length : Int)] = .ok ((List.range T.length).map fun (k : Nat) => .int k) := by rw [hTl]; exact rng1_nat (by omega)
  have hixl : D.ix (.lst (dInts T)) (.int (((dInts T).length : Int) - 1)) = .ok (.int t) := by
    rw [hTl]
    refine ix_lst_int (by omega) ?_
    rw [show ((T.length : Int) - 1).toNat = T.length - 1 by omega]
    simp [dInts, c2]
  have heqt : D.eq (.int t) (.int t) = .ok (.bl true) := eq_ii (by simp)
  have heqh : D.eq (.lst [.lst os, .lst (dInts b)]) (.lst [.lst os, .lst (dInts b)]) = .ok (.bl true) := eq_self (okd_lst (n := 7) fun x m => by
    simp only [List.mem_cons, List.not_mem_nil, or_false] at m
    rcases m with rfl | rfl
    · exact okd_lst (n := 6) fun o m => okd_off hk (hoff o m) (n := 2)
    · exact okd_lst (n := 6) (okd_dI b))
  have hwt := whole_int t
  have hosl : os.length ≤ 12 := ho
  obtain ⟨e, he, x12, x13, x14, x15, rfl⟩ := for_range (i := 12) (s := b_p_law_2) (wInv b T (some (.fz (dInts ns))) (some (.lst (KD ks))) (some (.lst os)) (some (.obj "Shop" [("names", .lst (ND ks)), ("prices", .lst (PD ks))])) (some (.lst [.lst os, .lst (dInts b)])) none none (some (.lst (dInts T ++ [.int (-1)]))) (some (.lst (dInts T))) (some (.lst (DD all))) none) (m := T.length) (env := [some (.fz (dInts ns)), some (.lst (KD ks)), some (.lst (dInts b)), some (.lst os), some (.obj "Shop" [("names", .lst (ND ks)), ("prices", .lst (PD ks))]), some (.lst [.lst os, .lst (dInts b)]), none, none, some (.lst (dInts T ++ [.int (-1)])), some (.lst (dInts T)), some (.lst (dInts T)), some (.lst (DD all)), none, none, none, none, none]) ⟨none, none, none, none, rfl⟩ fun k e hk2 hi => law_turn hb.bk hTlen hdall hlall hTst hk2 hi
  by_cases h25 : prodB b < 25
  · unfold F_p_law f_p_law
    walk_at "ev"
  · unfold F_p_law f_p_law
    walk_at "ev"
end My
namespace My
open PySem PySem.Spec PyProof.Rows L2 Dx
open Evl (Ex)
theorem fx_of {P : Program} {w : World} {K : PySem.W.Frag} {h : Heap} {mg : Str → Option Value} {base : Heap} {tb : List Addr} (X : K.In h) (G : h.Ns mainGlobals mg) (c : He.SaysX hdFa hdFn hdTs hdTf exB w h K) : Fx P w K mg base tb where
  z_all := He.free_ok X G (c.t.d.fact 0 (f := .free "all") rfl)
  z_bool := He.free_ok X G (c.t.d.fact 1 (f := .free "bool") rfl)
  z_dict := He.free_ok X G (c.t.d.fact 2 (f := .free "dict") rfl)
  z_enumerate := He.free_ok X G (c.t.d.fact 3 (f := .free "enumerate") rfl)
  z_int := He.free_ok X G (c.t.d.fact 4 (f := .free "int") rfl)
  z_isinstance := He.free_ok X G (c.t.d.fact 5 (f := .free "isinstance") rfl)
  z_len := He.free_ok X G (c.t.d.fact 6 (f := .free "len") rfl)
  z_list := He.free_ok X G (c.t.d.fact 7 (f := .free "list") rfl)
  z_max := He.free_ok X G (c.t.d.fact 8 (f := .free "max") rfl)
  z_min := He.free_ok X G (c.t.d.fact 9 (f := .free "min") rfl)
  z_range := He.free_ok X G (c.t.d.fact 10 (f := .free "range") rfl)
  z_reversed := He.free_ok X G (c.t.d.fact 11 (f := .free "reversed") rfl)
  z_set := He.free_ok X G (c.t.d.fact 12 (f := .free "set") rfl)
  z_str := He.free_ok X G (c.t.d.fact 13 (f := .free "str") rfl)
  z_tuple := He.free_ok X G (c.t.d.fact 14 (f := .free "tuple") rfl)
  z_zip := He.free_ok X G (c.t.d.fact 15 (f := .free "zip") rfl)
  g_HIGHEST_PRICE := He.int_ok X G (c.t.d.fact 16 (f := .int "HIGHEST_PRICE" 100000) rfl)
  g_LONGEST_NAME := He.int_ok X G (c.t.d.fact 17 (f := .int "LONGEST_NAME" 8) rfl)
  g_MOST := He.int_ok X G (c.t.d.fact 18 (f := .int "MOST" 300) rfl)
  g_MOST_KINDS := He.int_ok X G (c.t.d.fact 19 (f := .int "MOST_KINDS" 5) rfl)
  g_MOST_PIECES := He.int_ok X G (c.t.d.fact 20 (f := .int "MOST_PIECES" 9) rfl)
  xd_BadBasket := excD_of X G (c.t.d.fact 21 (f := .glo "BadBasket") rfl) (c.t.d.fact 22 (f := .exc "BadBasket") rfl)
  xd_BadKinds := excD_of X G (c.t.d.fact 23 (f := .glo "BadKinds") rfl) (c.t.d.fact 24 (f := .exc "BadKinds") rfl)
  xd_BadName := excD_of X G (c.t.d.fact 25 (f := .glo "BadName") rfl) (c.t.d.fact 26 (f := .exc "BadName") rfl)
  xd_BadOffer := excD_of X G (c.t.d.fact 27 (f := .glo "BadOffer") rfl) (c.t.d.fact 28 (f := .exc "BadOffer") rfl)
  xd_BadPrice := excD_of X G (c.t.d.fact 29 (f := .glo "BadPrice") rfl) (c.t.d.fact 30 (f := .exc "BadPrice") rfl)
  xd_NoKind := excD_of X G (c.t.d.fact 31 (f := .glo "NoKind") rfl) (c.t.d.fact 32 (f := .exc "NoKind") rfl)
  xd_TooMany := excD_of X G (c.t.d.fact 33 (f := .glo "TooMany") rfl) (c.t.d.fact 34 (f := .exc "TooMany") rfl)
  xd_Twice := excD_of X G (c.t.d.fact 35 (f := .glo "Twice") rfl) (c.t.d.fact 36 (f := .exc "Twice") rfl)
  gx_more_holds := He.glo_ok X G (c.t.d.fact 37 (f := .glo "more_holds") rfl)
  gx_set_holds := He.glo_ok X G (c.t.d.fact 38 (f := .glo "set_holds") rfl)
  gx_share_holds := He.glo_ok X G (c.t.d.fact 39 (f := .glo "share_holds") rfl)
  gx_slip_holds := He.glo_ok X G (c.t.d.fact 40 (f := .glo "slip_holds") rfl)
  na_Shop_names := He.noat_ok (c.t.d.fact 44 (f := .noat "Shop" "names") rfl)
  na_Shop_prices := He.noat_ok (c.t.d.fact 45 (f := .noat "Shop" "prices") rfl)
  ci_Shop := exI_ok (and1 c.more) (He.cls_ok (c.t.d.fact 41 (f := .cls "Shop") rfl))
  gd_HOLDS := gdict_of (He.glo_ok X G (c.t.d.fact 42 (f := .glo "HOLDS") rfl)) (c.t.tab 0 (t := (fun K => He.ga K "HOLDS", ["more", "set", "share", "slip"])) rfl) (and1 (and2 c.more))
  gd_PARTS := gdict_of (He.glo_ok X G (c.t.d.fact 43 (f := .glo "PARTS") rfl)) (c.t.tab 1 (t := (fun K => He.ga K "PARTS", ["more", "set", "share", "slip"])) rfl) (and2 (and2 c.more))
theorem lawAt {l : PySem.W.OpenLaw} {w : World} {K : PySem.W.Frag} {h : Heap} {mg : Str → Option Value} {fa : Addr} (X : K.In h) (G : h.Ns mainGlobals mg) (hfa : mg "law" = some (.ref fa)) (c : He.SaysX hdFa hdFn hdTs hdTf exB w h K) : LamX.LawAtS l w K (L2.CX l.prog w) 12 63 "_law_script" mg fa h := by
  have e := hfa.symm.trans (He.glo_ok X G (c.t.d.fact 88 (f := .glo "law") rfl))
  cases e
  obtain ⟨fd_p_is_name, F_p_is_name'⟩ := c.t.d.def_ 0 (d := hd_p_is_name) rfl
  obtain ⟨fd_p_is_pair, F_p_is_pair'⟩ := c.t.d.def_ 1 (d := hd_p_is_pair) rfl
  obtain ⟨fd_p_is_whole, F_p_is_whole'⟩ := c.t.d.def_ 2 (d := hd_p_is_whole) rfl
  obtain ⟨fd_p_need_kind, F_p_need_kind'⟩ := c.t.d.def_ 3 (d := hd_p_need_kind) rfl
  obtain ⟨fd_p_need_kinds, F_p_need_kinds'⟩ := c.t.d.def_ 4 (d := hd_p_need_kinds) rfl
  obtain ⟨fd_p_Shop_init, F_p_Shop_init'⟩ := c.t.d.def_ 5 (d := hd_p_Shop_init) rfl
  obtain ⟨fd_l_cell_at, F_l_cell_at'⟩ := c.t.d.def_ 6 (d := hd_l_cell_at) rfl
  obtain ⟨fd_l_number, F_l_number'⟩ := c.t.d.def_ 7 (d := hd_l_number) rfl
  obtain ⟨fd_l_basket, F_l_basket'⟩ := c.t.d.def_ 8 (d := hd_l_basket) rfl
  obtain ⟨fd_l_counts, F_l_counts'⟩ := c.t.d.def_ 9 (d := hd_l_counts) rfl
  obtain ⟨fd_l_deal, F_l_deal'⟩ := c.t.d.def_ 10 (d := hd_l_deal) rfl
  obtain ⟨fd_l_deals, F_l_deals'⟩ := c.t.d.def_ 11 (d := hd_l_deals) rfl
  obtain ⟨fd_l_has, F_l_has'⟩ := c.t.d.def_ 12 (d := hd_l_has) rfl
  obtain ⟨fd_l_name_by, F_l_name_by'⟩ := c.t.d.def_ 13 (d := hd_l_name_by) rfl
  obtain ⟨fd_l_kinds, F_l_kinds'⟩ := c.t.d.def_ 14 (d := hd_l_kinds) rfl
  obtain ⟨fd_l_many, F_l_many'⟩ := c.t.d.def_ 15 (d := hd_l_many) rfl
  obtain ⟨fd_l_offer, F_l_offer'⟩ := c.t.d.def_ 16 (d := hd_l_offer) rfl
  obtain ⟨fd_l_offers, F_l_offers'⟩ := c.t.d.def_ 17 (d := hd_l_offers) rfl
  obtain ⟨fd_l_step, F_l_step'⟩ := c.t.d.def_ 18 (d := hd_l_step) rfl
  obtain ⟨fd_l_whole, F_l_whole'⟩ := c.t.d.def_ 19 (d := hd_l_whole) rfl
  obtain ⟨fd_p_Shop_place, F_p_Shop_place'⟩ := c.t.d.def_ 20 (d := hd_p_Shop_place) rfl
  obtain ⟨fd_p_more_holds, F_p_more_holds'⟩ := c.t.d.def_ 21 (d := hd_p_more_holds) rfl
  obtain ⟨fd_p_are_pairs, F_p_are_pairs'⟩ := c.t.d.def_ 22 (d := hd_p_are_pairs) rfl
  obtain ⟨fd_p_names_in, F_p_names_in'⟩ := c.t.d.def_ 23 (d := hd_p_names_in) rfl
  obtain ⟨fd_p_set_holds, F_p_set_holds'⟩ := c.t.d.def_ 24 (d := hd_p_set_holds) rfl
  obtain ⟨fd_p_share_holds, F_p_share_holds'⟩ := c.t.d.def_ 25 (d := hd_p_share_holds) rfl
  obtain ⟨fd_p_slip_holds, F_p_slip_holds'⟩ := c.t.d.def_ 26 (d := hd_p_slip_holds) rfl
  obtain ⟨fd_p_holds, F_p_holds'⟩ := c.t.d.def_ 27 (d := hd_p_holds) rfl
  obtain ⟨fd_p_is_formed, F_p_is_formed'⟩ := c.t.d.def_ 28 (d := hd_p_is_formed) rfl
  obtain ⟨fd_p_need_offer, F_p_need_offer'⟩ := c.t.d.def_ 29 (d := hd_p_need_offer) rfl
  obtain ⟨fd_p_price_of, F_p_price_of'⟩ := c.t.d.def_ 30 (d := hd_p_price_of) rfl
  obtain ⟨fd_p_wanted_by, F_p_wanted_by'⟩ := c.t.d.def_ 31 (d := hd_p_wanted_by) rfl
  obtain ⟨fd_p_deal_of, F_p_deal_of'⟩ := c.t.d.def_ 32 (d := hd_p_deal_of) rfl
  obtain ⟨fd_p_plain_deal, F_p_plain_deal'⟩ := c.t.d.def_ 33 (d := hd_p_plain_deal) rfl
  obtain ⟨fd_p_deals, F_p_deals'⟩ := c.t.d.def_ 34 (d := hd_p_deals) rfl
  obtain ⟨fd_p_is_basket, F_p_is_basket'⟩ := c.t.d.def_ 35 (d := hd_p_is_basket) rfl
  obtain ⟨fd_p_within, F_p_within'⟩ := c.t.d.def_ 36 (d := hd_p_within) rfl
  obtain ⟨fd_p_need_basket, F_p_need_basket'⟩ := c.t.d.def_ 37 (d := hd_p_need_basket) rfl
  obtain ⟨fd_p_counts_of, F_p_counts_of'⟩ := c.t.d.def_ 38 (d := hd_p_counts_of) rfl
  obtain ⟨fd_p_has_pieces, F_p_has_pieces'⟩ := c.t.d.def_ 39 (d := hd_p_has_pieces) rfl
  obtain ⟨fd_p_number_of, F_p_number_of'⟩ := c.t.d.def_ 40 (d := hd_p_number_of) rfl
  obtain ⟨fd_p_usable_deals, F_p_usable_deals'⟩ := c.t.d.def_ 41 (d := hd_p_usable_deals) rfl
  obtain ⟨fd_p_reach, F_p_reach'⟩ := c.t.d.def_ 42 (d := hd_p_reach) rfl
  obtain ⟨fd_p_table, F_p_table'⟩ := c.t.d.def_ 43 (d := hd_p_table) rfl
  obtain ⟨fd_p_cost, F_p_cost'⟩ := c.t.d.def_ 44 (d := hd_p_cost) rfl
  obtain ⟨fd_p_law, F_p_law'⟩ := c.t.d.def_ 45 (d := hd_p_law) rfl
  refine ⟨fd_p_law, hdTf.map (He.cT K), spLaw K ((hdTf.map (He.cT K)).map (·.2)), ?_, ?_, ?_, ?_, ?_, fun base KB GB TB => FnOk.imp (?_ : FnOk l.prog w K mg base (L2.CX l.prog w) 12 _ fd_p_law ["_law_script"] (SpF K mg ((hdTf.map (He.cT K)).map (·.2)) 1 false F_p_law)) (law_sp law_ok)⟩
  · intro p hp; obtain ⟨q, hq, rfl⟩ := List.mem_map.mp hp; exact c.empty q hq
  · intro p hp; obtain ⟨q, hq, rfl⟩ := List.mem_map.mp hp; exact c.out q hq
  · intro p hp; obtain ⟨q, hq, rfl⟩ := List.mem_map.mp hp; exact PySem.W.codeHd_of_K X (c.hd q hq)
  · exact fun s u => (FunD.bindsA (ps := ["_law_script"]) F_p_law' fun _ _ _ _ _ _ us hl => match us, hl with | [_], _ => rfl) s [u] rfl
  · exact fun H a ns hl _ ht hS => ⟨a, ns, rfl, hS, hl, fun T hT => by
      obtain ⟨p, hp, rfl⟩ := List.mem_map.mp hT
      exact tab_new (ht p hp), fun _ => rfl⟩
  · have T : Fx l.prog w K mg base ((hdTf.map (He.cT K)).map (·.2)) := fx_of X G c
    have C_p_is_name := callee_of (base := base) (P := l.prog) (w := w) (ok_p_is_name T F_p_is_name' (hasTab_of (p := ("is_name", none)) F_p_is_name' (TB _ (List.mem_map.mpr ⟨_, (by simp [hdTf]), rfl⟩)) (List.mem_map.mpr ⟨_, List.mem_map.mpr ⟨_, (by simp [hdTf]), rfl⟩, rfl⟩))) (He.glo_ok X G (c.t.d.fact 46 (f := .glo "is_name") rfl)) F_p_is_name'.kp (F_p_is_name'.bindsN (ps := ["value"]) fun _ _ _ _ _ _ us hl => match us, hl with | [_], _ => rfl)
    have C_p_is_pair := callee_of (base := base) (P := l.prog) (w := w) (ok_p_is_pair T F_p_is_pair') (He.glo_ok X G (c.t.d.fact 47 (f := .glo "is_pair") rfl)) F_p_is_pair'.kp (F_p_is_pair'.bindsN (ps := ["value"]) fun _ _ _ _ _ _ us hl => match us, hl with | [_], _ => rfl)
    have C_p_is_whole := callee_of (base := base) (P := l.prog) (w := w) (ok_p_is_whole T F_p_is_whole') (He.glo_ok X G (c.t.d.fact 48 (f := .glo "is_whole") rfl)) F_p_is_whole'.kp (F_p_is_whole'.bindsN (ps := ["value", "least", "most"]) fun _ _ _ _ _ _ us hl => match us, hl with | [_, _, _], _ => rfl)
    have C_p_need_kind := callee_of (base := base) (P := l.prog) (w := w) (ok_p_need_kind T F_p_need_kind' C_p_is_name C_p_is_pair C_p_is_whole) (He.glo_ok X G (c.t.d.fact 49 (f := .glo "need_kind") rfl)) F_p_need_kind'.kp (F_p_need_kind'.bindsN (ps := ["kind", "names_ahead"]) fun _ _ _ _ _ _ us hl => match us, hl with | [_, _], _ => rfl)
    have C_p_need_kinds := callee_of (base := base) (P := l.prog) (w := w) (ok_p_need_kinds T F_p_need_kinds' C_p_need_kind) (He.glo_ok X G (c.t.d.fact 50 (f := .glo "need_kinds") rfl)) F_p_need_kinds'.kp (F_p_need_kinds'.bindsN (ps := ["kinds"]) fun _ _ _ _ _ _ us hl => match us, hl with | [_], _ => rfl)
    have C_p_Shop_init : Maker l.prog w K mg base ((hdTf.map (He.cT K)).map (·.2)) "Shop" 4 1 F_p_Shop_init := ⟨He.glo_ok X G (c.t.d.fact 51 (f := .glo "Shop") rfl), _, _, _, ok_p_Shop_init T F_p_Shop_init' hF_p_Shop_init C_p_need_kinds, He.mkr_ok (c.t.d.fact 52 (f := .mkr "Shop") rfl), (F_p_Shop_init'.bindsN (ps := ["self", "kinds"]) fun _ _ _ _ _ _ us hl => match us, hl with | [_, _], _ => rfl)⟩
    have C_l_cell_at := callee_of (base := base) (P := l.prog) (w := w) (ok_l_cell_at T F_l_cell_at') (He.glo_ok X G (c.t.d.fact 53 (f := .glo "_law_cell_at") rfl)) F_l_cell_at'.kp (F_l_cell_at'.bindsN (ps := ["_law_script", "_law_k"]) fun _ _ _ _ _ _ us hl => match us, hl with | [_, _], _ => rfl)
    have C_l_number := callee_of (base := base) (P := l.prog) (w := w) (ok_l_number T F_l_number') (He.glo_ok X G (c.t.d.fact 54 (f := .glo "_law_number") rfl)) F_l_number'.kp (F_l_number'.bindsN (ps := ["_law_script", "_law_k"]) fun _ _ _ _ _ _ us hl => match us, hl with | [_, _], _ => rfl)
    have C_l_basket := callee_of (base := base) (P := l.prog) (w := w) (ok_l_basket T F_l_basket' C_l_cell_at C_l_number) (He.glo_ok X G (c.t.d.fact 55 (f := .glo "_law_basket") rfl)) F_l_basket'.kp (F_l_basket'.bindsN (ps := ["_law_script", "_law_kinds_here", "_law_start"]) fun _ _ _ _ _ _ us hl => match us, hl with | [_, _, _], _ => rfl)
    have C_l_counts := callee_of (base := base) (P := l.prog) (w := w) (ok_l_counts T F_l_counts') (He.glo_ok X G (c.t.d.fact 56 (f := .glo "_law_counts") rfl)) F_l_counts'.kp (F_l_counts'.bindsN (ps := ["_law_basket_here", "_law_number_here"]) fun _ _ _ _ _ _ us hl => match us, hl with | [_, _], _ => rfl)
    have C_l_deal := callee_of (base := base) (P := l.prog) (w := w) (ok_l_deal T F_l_deal') (He.glo_ok X G (c.t.d.fact 57 (f := .glo "_law_deal") rfl)) F_l_deal'.kp (F_l_deal'.bindsN (ps := ["_law_kinds_here", "_law_offer_here"]) fun _ _ _ _ _ _ us hl => match us, hl with | [_, _], _ => rfl)
    have C_l_deals := callee_of (base := base) (P := l.prog) (w := w) (ok_l_deals T F_l_deals' C_l_deal) (He.glo_ok X G (c.t.d.fact 58 (f := .glo "_law_deals") rfl)) F_l_deals'.kp (F_l_deals'.bindsN (ps := ["_law_kinds_here", "_law_offers_here"]) fun _ _ _ _ _ _ us hl => match us, hl with | [_, _], _ => rfl)
    have C_l_has := callee_of (base := base) (P := l.prog) (w := w) (ok_l_has T F_l_has') (He.glo_ok X G (c.t.d.fact 59 (f := .glo "_law_has") rfl)) F_l_has'.kp (F_l_has'.bindsN (ps := ["_law_counts_here", "_law_wants"]) fun _ _ _ _ _ _ us hl => match us, hl with | [_, _], _ => rfl)
    have C_l_name_by := callee_of (base := base) (P := l.prog) (w := w) (ok_l_name_by T F_l_name_by' C_l_cell_at C_l_number) (He.glo_ok X G (c.t.d.fact 60 (f := .glo "_law_name_by") rfl)) F_l_name_by'.kp (F_l_name_by'.bindsN (ps := ["_law_script", "_law_k"]) fun _ _ _ _ _ _ us hl => match us, hl with | [_, _], _ => rfl)
    have C_l_kinds := callee_of (base := base) (P := l.prog) (w := w) (ok_l_kinds T F_l_kinds' C_l_cell_at C_l_name_by C_l_number) (He.glo_ok X G (c.t.d.fact 61 (f := .glo "_law_kinds") rfl)) F_l_kinds'.kp (F_l_kinds'.bindsN (ps := ["_law_script"]) fun _ _ _ _ _ _ us hl => match us, hl with | [_], _ => rfl)
    have C_l_many := callee_of (base := base) (P := l.prog) (w := w) (ok_l_many T F_l_many') (He.glo_ok X G (c.t.d.fact 62 (f := .glo "_law_many") rfl)) F_l_many'.kp (F_l_many'.bindsN (ps := ["_law_basket_here"]) fun _ _ _ _ _ _ us hl => match us, hl with | [_], _ => rfl)
    have C_l_offer := callee_of (base := base) (P := l.prog) (w := w) (ok_l_offer T F_l_offer') (He.glo_ok X G (c.t.d.fact 63 (f := .glo "_law_offer") rfl)) F_l_offer'.kp (F_l_offer'.bindsN (ps := ["_law_kinds_here", "_law_number_here"]) fun _ _ _ _ _ _ us hl => match us, hl with | [_, _], _ => rfl)
    have C_l_offers := callee_of (base := base) (P := l.prog) (w := w) (ok_l_offers T F_l_offers' C_l_cell_at C_l_number C_l_offer) (He.glo_ok X G (c.t.d.fact 64 (f := .glo "_law_offers") rfl)) F_l_offers'.kp (F_l_offers'.bindsN (ps := ["_law_script", "_law_kinds_here", "_law_start"]) fun _ _ _ _ _ _ us hl => match us, hl with | [_, _, _], _ => rfl)
    have C_l_step := callee_of (base := base) (P := l.prog) (w := w) (ok_l_step T F_l_step') (He.glo_ok X G (c.t.d.fact 65 (f := .glo "_law_step") rfl)) F_l_step'.kp (F_l_step'.bindsN (ps := ["_law_basket_here", "_law_wants"]) fun _ _ _ _ _ _ us hl => match us, hl with | [_, _], _ => rfl)
    have C_l_whole := callee_of (base := base) (P := l.prog) (w := w) (ok_l_whole T F_l_whole') (He.glo_ok X G (c.t.d.fact 66 (f := .glo "_law_whole") rfl)) F_l_whole'.kp (F_l_whole'.bindsN (ps := ["_law_found"]) fun _ _ _ _ _ _ us hl => match us, hl with | [_], _ => rfl)
    have C_p_Shop_place : MCallee l.prog w K mg base ((hdTf.map (He.cT K)).map (·.2)) "Shop" "place" 1 2 false F_p_Shop_place := ⟨He.cls_ok (c.t.d.fact 41 (f := .cls "Shop") rfl), _, _, _, ok_p_Shop_place T F_p_Shop_place', He.meth_ok (c.t.d.fact 67 (f := .meth "Shop" "place") rfl), (F_p_Shop_place'.bindsN (ps := ["self", "name"]) fun _ _ _ _ _ _ us hl => match us, hl with | [_, _], _ => rfl)⟩
    have C_p_more_holds := callee_of (base := base) (P := l.prog) (w := w) (ok_p_more_holds T F_p_more_holds' C_p_is_whole) (He.glo_ok X G (c.t.d.fact 37 (f := .glo "more_holds") rfl)) F_p_more_holds'.kp (F_p_more_holds'.bindsN (ps := ["offer"]) fun _ _ _ _ _ _ us hl => match us, hl with | [_], _ => rfl)
    have C_p_are_pairs := callee_of (base := base) (P := l.prog) (w := w) (ok_p_are_pairs T F_p_are_pairs' (hasTab_of (p := ("are_pairs", none)) F_p_are_pairs' (TB _ (List.mem_map.mpr ⟨_, (by simp [hdTf]), rfl⟩)) (List.mem_map.mpr ⟨_, List.mem_map.mpr ⟨_, (by simp [hdTf]), rfl⟩, rfl⟩)) C_p_is_pair) (He.glo_ok X G (c.t.d.fact 68 (f := .glo "are_pairs") rfl)) F_p_are_pairs'.kp (F_p_are_pairs'.bindsN (ps := ["wants"]) fun _ _ _ _ _ _ us hl => match us, hl with | [_], _ => rfl)
    have C_p_names_in := callee_of (base := base) (P := l.prog) (w := w) (ok_p_names_in T F_p_names_in' C_p_are_pairs) (He.glo_ok X G (c.t.d.fact 69 (f := .glo "names_in") rfl)) F_p_names_in'.kp (F_p_names_in'.bindsN (ps := ["offer"]) fun _ _ _ _ _ _ us hl => match us, hl with | [_], _ => rfl)
    have C_p_set_holds := callee_of (base := base) (P := l.prog) (w := w) (ok_p_set_holds T F_p_set_holds' (hasTab_of (p := ("set_holds", none)) F_p_set_holds' (TB _ (List.mem_map.mpr ⟨_, (by simp [hdTf]), rfl⟩)) (List.mem_map.mpr ⟨_, List.mem_map.mpr ⟨_, (by simp [hdTf]), rfl⟩, rfl⟩)) C_p_are_pairs C_p_is_whole C_p_names_in) (He.glo_ok X G (c.t.d.fact 38 (f := .glo "set_holds") rfl)) F_p_set_holds'.kp (F_p_set_holds'.bindsN (ps := ["offer"]) fun _ _ _ _ _ _ us hl => match us, hl with | [_], _ => rfl)
    have C_p_share_holds := callee_of (base := base) (P := l.prog) (w := w) (ok_p_share_holds T F_p_share_holds' C_p_is_whole) (He.glo_ok X G (c.t.d.fact 39 (f := .glo "share_holds") rfl)) F_p_share_holds'.kp (F_p_share_holds'.bindsN (ps := ["offer"]) fun _ _ _ _ _ _ us hl => match us, hl with | [_], _ => rfl)
    have C_p_slip_holds := callee_of (base := base) (P := l.prog) (w := w) (ok_p_slip_holds T F_p_slip_holds' C_p_is_whole) (He.glo_ok X G (c.t.d.fact 40 (f := .glo "slip_holds") rfl)) F_p_slip_holds'.kp (F_p_slip_holds'.bindsN (ps := ["offer"]) fun _ _ _ _ _ _ us hl => match us, hl with | [_], _ => rfl)
    have C_p_holds := callee_of (base := base) (P := l.prog) (w := w) (ok_p_holds T F_p_holds' C_p_more_holds C_p_set_holds C_p_share_holds C_p_slip_holds) (He.glo_ok X G (c.t.d.fact 70 (f := .glo "holds") rfl)) F_p_holds'.kp (F_p_holds'.bindsN (ps := ["offer"]) fun _ _ _ _ _ _ us hl => match us, hl with | [_], _ => rfl)
    have C_p_is_formed := callee_of (base := base) (P := l.prog) (w := w) (ok_p_is_formed T F_p_is_formed') (He.glo_ok X G (c.t.d.fact 71 (f := .glo "is_formed") rfl)) F_p_is_formed'.kp (F_p_is_formed'.bindsN (ps := ["offer"]) fun _ _ _ _ _ _ us hl => match us, hl with | [_], _ => rfl)
    have C_p_need_offer := callee_of (base := base) (P := l.prog) (w := w) (ok_p_need_offer T F_p_need_offer' C_p_Shop_place C_p_holds C_p_is_formed C_p_names_in) (He.glo_ok X G (c.t.d.fact 72 (f := .glo "need_offer") rfl)) F_p_need_offer'.kp (F_p_need_offer'.bindsN (ps := ["shop", "offer"]) fun _ _ _ _ _ _ us hl => match us, hl with | [_, _], _ => rfl)
    have C_p_price_of := callee_of (base := base) (P := l.prog) (w := w) (ok_p_price_of T F_p_price_of' C_p_Shop_place C_p_names_in) (He.glo_ok X G (c.t.d.fact 73 (f := .glo "price_of") rfl)) F_p_price_of'.kp (F_p_price_of'.bindsN (ps := ["shop", "offer"]) fun _ _ _ _ _ _ us hl => match us, hl with | [_, _], _ => rfl)
    have C_p_wanted_by := callee_of (base := base) (P := l.prog) (w := w) (ok_p_wanted_by T F_p_wanted_by' C_p_names_in) (He.glo_ok X G (c.t.d.fact 74 (f := .glo "wanted_by") rfl)) F_p_wanted_by'.kp (F_p_wanted_by'.bindsN (ps := ["offer"]) fun _ _ _ _ _ _ us hl => match us, hl with | [_], _ => rfl)
    have C_p_deal_of := callee_of (base := base) (P := l.prog) (w := w) (ok_p_deal_of T F_p_deal_of' C_p_need_offer C_p_price_of C_p_wanted_by) (He.glo_ok X G (c.t.d.fact 75 (f := .glo "deal_of") rfl)) F_p_deal_of'.kp (F_p_deal_of'.bindsN (ps := ["shop", "offer"]) fun _ _ _ _ _ _ us hl => match us, hl with | [_, _], _ => rfl)
    have C_p_plain_deal := callee_of (base := base) (P := l.prog) (w := w) (ok_p_plain_deal T F_p_plain_deal') (He.glo_ok X G (c.t.d.fact 76 (f := .glo "plain_deal") rfl)) F_p_plain_deal'.kp (F_p_plain_deal'.bindsN (ps := ["shop", "place"]) fun _ _ _ _ _ _ us hl => match us, hl with | [_, _], _ => rfl)
    have C_p_deals := callee_of (base := base) (P := l.prog) (w := w) (ok_p_deals T F_p_deals' C_p_deal_of C_p_plain_deal) (He.glo_ok X G (c.t.d.fact 77 (f := .glo "deals") rfl)) F_p_deals'.kp (F_p_deals'.bindsN (ps := ["shop", "offers"]) fun _ _ _ _ _ _ us hl => match us, hl with | [_, _], _ => rfl)
    have C_p_is_basket := callee_of (base := base) (P := l.prog) (w := w) (ok_p_is_basket T F_p_is_basket' (hasTab_of (p := ("is_basket", none)) F_p_is_basket' (TB _ (List.mem_map.mpr ⟨_, (by simp [hdTf]), rfl⟩)) (List.mem_map.mpr ⟨_, List.mem_map.mpr ⟨_, (by simp [hdTf]), rfl⟩, rfl⟩)) C_p_is_whole) (He.glo_ok X G (c.t.d.fact 78 (f := .glo "is_basket") rfl)) F_p_is_basket'.kp (F_p_is_basket'.bindsN (ps := ["shop", "basket"]) fun _ _ _ _ _ _ us hl => match us, hl with | [_, _], _ => rfl)
    have C_p_within := callee_of (base := base) (P := l.prog) (w := w) (ok_p_within T F_p_within') (He.glo_ok X G (c.t.d.fact 79 (f := .glo "within") rfl)) F_p_within'.kp (F_p_within'.bindsN (ps := ["basket"]) fun _ _ _ _ _ _ us hl => match us, hl with | [_], _ => rfl)
    have C_p_need_basket := callee_of (base := base) (P := l.prog) (w := w) (ok_p_need_basket T F_p_need_basket' C_p_is_basket C_p_within) (He.glo_ok X G (c.t.d.fact 80 (f := .glo "need_basket") rfl)) F_p_need_basket'.kp (F_p_need_basket'.bindsN (ps := ["shop", "basket"]) fun _ _ _ _ _ _ us hl => match us, hl with | [_, _], _ => rfl)
    have C_p_counts_of := callee_of (base := base) (P := l.prog) (w := w) (ok_p_counts_of T F_p_counts_of') (He.glo_ok X G (c.t.d.fact 81 (f := .glo "counts_of") rfl)) F_p_counts_of'.kp (F_p_counts_of'.bindsN (ps := ["basket", "number"]) fun _ _ _ _ _ _ us hl => match us, hl with | [_, _], _ => rfl)
    have C_p_has_pieces := callee_of (base := base) (P := l.prog) (w := w) (ok_p_has_pieces T F_p_has_pieces') (He.glo_ok X G (c.t.d.fact 82 (f := .glo "has_pieces") rfl)) F_p_has_pieces'.kp (F_p_has_pieces'.bindsN (ps := ["basket", "wants"]) fun _ _ _ _ _ _ us hl => match us, hl with | [_, _], _ => rfl)
    have C_p_number_of := callee_of (base := base) (P := l.prog) (w := w) (ok_p_number_of T F_p_number_of') (He.glo_ok X G (c.t.d.fact 83 (f := .glo "number_of") rfl)) F_p_number_of'.kp (F_p_number_of'.bindsN (ps := ["basket", "inner"]) fun _ _ _ _ _ _ us hl => match us, hl with | [_, _], _ => rfl)
    have C_p_usable_deals := callee_of (base := base) (P := l.prog) (w := w) (ok_p_usable_deals T F_p_usable_deals' C_p_has_pieces C_p_number_of) (He.glo_ok X G (c.t.d.fact 84 (f := .glo "usable_deals") rfl)) F_p_usable_deals'.kp (F_p_usable_deals'.bindsN (ps := ["basket", "choices"]) fun _ _ _ _ _ _ us hl => match us, hl with | [_, _], _ => rfl)
    have C_p_reach := callee_of (base := base) (P := l.prog) (w := w) (ok_p_reach T F_p_reach' C_p_counts_of C_p_has_pieces C_p_usable_deals C_p_within) (He.glo_ok X G (c.t.d.fact 85 (f := .glo "reach") rfl)) F_p_reach'.kp (F_p_reach'.bindsN (ps := ["basket", "choices"]) fun _ _ _ _ _ _ us hl => match us, hl with | [_, _], _ => rfl)
    have C_p_table := callee_of (base := base) (P := l.prog) (w := w) (ok_p_table T F_p_table' C_p_deals C_p_need_basket C_p_reach) (He.glo_ok X G (c.t.d.fact 86 (f := .glo "table") rfl)) F_p_table'.kp (F_p_table'.bindsN (ps := ["shop", "offers", "basket"]) fun _ _ _ _ _ _ us hl => match us, hl with | [_, _, _], _ => rfl)
    have C_p_cost := callee_of (base := base) (P := l.prog) (w := w) (ok_p_cost T F_p_cost' C_p_table) (He.glo_ok X G (c.t.d.fact 87 (f := .glo "cost") rfl)) F_p_cost'.kp (F_p_cost'.bindsN (ps := ["shop", "offers", "basket"]) fun _ _ _ _ _ _ us hl => match us, hl with | [_, _, _], _ => rfl)
    exact ok_p_law T F_p_law' C_p_Shop_init C_l_basket C_l_counts C_l_deals C_l_has C_l_kinds C_l_many C_l_offers C_l_step C_l_whole C_p_cost C_p_table
end My
open PySem PySem.W PySem.Calls PyProof.Rows
set_option maxRecDepth 100000 in
set_option maxHeartbeats 0 in
theorem PySem.Challenge.cw_tillbasket_k05_the_table_by_steps_holds : PySem.Challenge.rw_tillbasket_k05_the_table_by_steps.Holds := by
  w_on; o_law
  refine HandSHeadRun.head_any (r := OpenLaw.row PySem.Challenge.rw_tillbasket_k05_the_table_by_steps) (q := view (OpenLaw.row PySem.Challenge.rw_tillbasket_k05_the_table_by_steps).prog [68]) (H := My.hdHk) (ob := My.hdOb) (M := 12000) (loose := My.hdLoose) (d := HandSHeadRun.topDef (OpenLaw.row PySem.Challenge.rw_tillbasket_k05_the_table_by_steps).prog 68) (kwd := []) My.hdOb_eq
    (by kernel_rfl) (fun s => by kernel_rfl) My.hdRun (by kernel_rfl) (by kernel_rfl) (by kernel_rfl) (by rfl) (by first | assumption | decide +kernel) (by decide +kernel) ⟨rfl, rfl, rfl, rfl, rfl, by decide +kernel⟩ ?hw ?hc
  case hw => w_witness2
  case hc =>
    refine LamX.walk_ofTsE (l := PySem.Challenge.rw_tillbasket_k05_the_table_by_steps) (n := 63) (k := 12) (x := "_law_script") (CX := fun w => L2.CX (PySem.Challenge.rw_tillbasket_k05_the_table_by_steps).prog w) rfl (by decide) (by kernel_rfl) ⟨rfl, by decide, by decide⟩ ?F (fun _ _ _ _ _ ⟨_, _, _, _, _, _, _, _, _, _, _, _, z⟩ => z)
    intro w mg fa h Y G hmg0
    obtain ⟨K, KX, c⟩ := Y
    have hmg : mg ("law" : PySem.Str) = some (.ref fa) := by
      have e : (HandSHeadRun.topDef (OpenLaw.row PySem.Challenge.rw_tillbasket_k05_the_table_by_steps).prog 68).name = ("law" : PySem.Str) := by kernel_rfl
      rw [← e]
      exact hmg0
    exact ⟨K, KX, My.lawAt KX G hmg c⟩
