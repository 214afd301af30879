import PyProof.Rows.All
import Wide.All
import OpenK.AllK
import Wide.FinOn
import HandS.ForSpec
import HandS.Comp
import HandS.Iter
import HandS.Text
import HandS.ExcCtx
import HandS.HotCalls
import HandS.IsInst
import HandS.ExcIs
import HandS.Wide
import HandS.WideBits
import HandS.Gcd
import HandS.Evl
import HandS.AnyAll
import HandS.Lambda
import HandS.GenOver
import HandS.TupAny
import HandS.TupMul
import HandS.Style
import HandS.Deep
import HandS.Hot
import PyProof.RangeIter
import PyProof.ConsumeS
import PyProof.GenQ
import HandS.Zip0
import HandS.Zip
import HandS.Rev
import PyProof.WalksMore
import HandS.EndTab
import KE.KNest
import KE.KMathG
import HandS.Conv
import HandS.List
import HandS.SortInts
import PyProof.ListMulAny
import PySem.Challenge.RW_lotshown_k46_whole_drawing_below_a_bound
set_option Elab.async false
set_option linter.all false
set_option maxRecDepth 100000
namespace Den
open PySem L2 Evl
open Classical
abbrev D := PyData
/-- the tables of code objects of the program's defs -/
class Tbs where
  T : Addr → Prop
variable [Tbs]
def isTb (o : Option HO) : Prop := ∃ ps : Array Value, o = some (.tbl ps) ∧ TriplesOk ps.toList
/-- the same, or both times a table -/
def FrO (o o' : Option HO) : Prop := o' = o ∨ (isTb o ∧ isTb o')
omit [Tbs] in
theorem FrO.refl (o : Option HO) : FrO o o := .inl rfl
omit [Tbs] in
theorem FrO.trans {o o1 o2 : Option HO} (a : FrO o o1) (b : FrO o1 o2) : FrO o o2 := by
  rcases a with a | ⟨a1, a2⟩
  · subst a; exact b
  · rcases b with b | ⟨b1, b2⟩
    · subst b; exact .inr ⟨a1, a2⟩
    · exact .inr ⟨a1, b2⟩
omit [Tbs] in
theorem FrO.lst {o o' : Option HO} {xs : List V} (h : FrO o o') (e : o = some (.lst xs)) : o' = o := by
  rcases h with h | ⟨⟨ps, z, _⟩, _⟩
  · exact h
  · rw [e] at z; cases z
omit [Tbs] in
theorem FrO.ne {o o' : Option HO} (h : FrO o o') (e : o ≠ none) : o' ≠ none := by
  rcases h with h | ⟨_, ps, z, _⟩
  · rw [h]; exact e
  · rw [z]; intro q; cases q
omit [Tbs] in
theorem FrO.tb {o o' : Option HO} (h : FrO o o') (e : isTb o) : isTb o' := by
  rcases h with h | ⟨_, z⟩
  · rw [h]; exact e
  · exact z

mutual
theorem dp_mono {K : PySem.W.Frag} {H H' : Hp} (e : Ex H H') : ∀ {v : V} {d : D}, Dp K H v d → Dp K H' v d
  | _, _, .non => .non
  | _, _, .bl b => .bl b
  | _, _, .int i => .int i
  | _, _, .str x => .str x
  | _, _, .lst h hs => .lst (ex_l e h) (dpA_mono e hs)
  | _, _, .tup h hs => .tup (ex_t e h) (dpA_mono e hs)
theorem dpA_mono {K : PySem.W.Frag} {H H' : Hp} (e : Ex H H') : ∀ {vs : List V} {ds : List D}, DpAll K H vs ds → DpAll K H' vs ds
  | _, _, .nil => .nil
  | _, _, .cons h hs => .cons (dp_mono e h) (dpA_mono e hs)
end
theorem dpA_get {K : PySem.W.Frag} {H : Hp} : ∀ {vs : List V} {ds : List D} {i : Nat} {d : D}, DpAll K H vs ds → ds[i]? = some d → ∃ v, vs[i]? = some v ∧ Dp K H v d
  | _, _, _, _, .nil, h => by simp at h
  | _, _, 0, _, .cons h _, e => by simp at e; subst e; exact ⟨_, rfl, h⟩
  | _, _, i + 1, _, .cons _ hs, e => by
    obtain ⟨v, h1, h2⟩ := dpA_get (i := i) hs (by simpa using e)
    exact ⟨v, by simpa using h1, h2⟩
theorem dpA_get' {K : PySem.W.Frag} {H : Hp} : ∀ {vs : List V} {ds : List D} {i : Nat} {v : V}, DpAll K H vs ds → vs[i]? = some v → ∃ d, ds[i]? = some d ∧ Dp K H v d
  | _, _, _, _, .nil, h => by simp at h
  | _, _, 0, _, .cons h _, e => by simp at e; subst e; exact ⟨_, rfl, h⟩
  | _, _, i + 1, _, .cons _ hs, e => by
    obtain ⟨v, h1, h2⟩ := dpA_get' (i := i) hs (by simpa using e)
    exact ⟨v, by simpa using h1, h2⟩
theorem dpA_len {K : PySem.W.Frag} {H : Hp} : ∀ {vs : List V} {ds : List D}, DpAll K H vs ds → vs.length = ds.length
  | _, _, .nil => rfl
  | _, _, .cons _ hs => by simp [dpA_len hs]
theorem dpA_app {K : PySem.W.Frag} {H : Hp} : ∀ {vs ws : List V} {ds es : List D}, DpAll K H vs ds → DpAll K H ws es → DpAll K H (vs ++ ws) (ds ++ es)
  | _, _, _, _, .nil, h => h
  | _, _, _, _, .cons h hs, g => .cons h (dpA_app hs g)
theorem dpA_set {K : PySem.W.Frag} {H : Hp} {v : V} {d : D} (q : Dp K H v d) : ∀ {vs : List V} {ds : List D} (i : Nat), DpAll K H vs ds → DpAll K H (vs.set i v) (ds.set i d)
  | _, _, _, .nil => .nil
  | _, _, 0, .cons _ hs => .cons q hs
  | _, _, i + 1, .cons h hs => .cons h (dpA_set q i hs)
theorem dpA_ints {K : PySem.W.Frag} {H : Hp} : ∀ ns : List Int, DpAll K H (ns.map V.int) (ns.map PyData.int)
  | [] => .nil
  | n :: ns => .cons (.int n) (dpA_ints ns)

/-! the hidden part -/
noncomputable def hidS (S : Addr → Prop) (H : Hp) : Hp := fun b => if S b then none else H b
def Live (S : Addr → Prop) (H : Hp) : Prop := ∀ b, S b → H b ≠ none
section
variable {K : PySem.W.Frag} {S : Addr → Prop} {H H' : Hp} {v : V} {d : D} {p : Addr} {o : HO}
theorem hidS_in (h : ¬ S p) : hidS S H p = H p := by unfold hidS; rw [if_neg h]
theorem hidS_ex : Ex (hidS S H) H := fun a o e => by
  unfold hidS at e
  split at e
  · cases e
  · exact e
theorem Live.ext (l : Live S H) (e : Ex H H') : Live S H' := fun b s n => by
  cases q : H b with
  | none => exact l b s q
  | some o => rw [e b o q] at n; cases n
theorem hidS_mono (e : Ex H H') : Ex (hidS S H) (hidS S H') := fun a o q => by
  unfold hidS at q ⊢
  split at q
  · cases q
  · rename_i h; rw [if_neg h]; exact e a o q
theorem Live.free (l : Live S H) (h : H p = none) : ¬ S p := fun s => l p s h
end
/-- a value that is read: data in the open part, or a list that is owned (its items in the open part) -/
inductive Rp (K : PySem.W.Frag) (S : Addr → Prop) (H : Hp) : V → D → Prop where
  | val {v : V} {d : D} : Dp K (hidS S H) v d → Rp K S H v d
  | own {a : Addr} {vs : List V} {ds : List D} : H a = some (.lst vs) → DpAll K (hidS S H) vs ds → Rp K S H (.ref a) (.list ds)
section
variable {K : PySem.W.Frag} {S : Addr → Prop} {H H' : Hp} {v : V} {d : D} {p : Addr} {o : HO}
theorem Rp.full (r : Rp K S H v d) : Dp K H v d := by
  cases r with
  | val h => exact dp_mono hidS_ex h
  | own h hs => exact .lst (.inl (.inl h)) (dpA_mono hidS_ex hs)
theorem Rp.lst {ds : List D} (r : Rp K S H v (.list ds)) : ∃ a vs, v = .ref a ∧ SqL K H a vs ∧ DpAll K (hidS S H) vs ds := by
  cases r with
  | val h => cases h with
    | lst h hs => exact ⟨_, _, rfl, ex_l hidS_ex h, hs⟩
  | own h hs => exact ⟨_, _, rfl, .inl (.inl h), hs⟩
theorem Rp.tup {ds : List D} (r : Rp K S H v (.tuple ds)) : ∃ a vs, v = .ref a ∧ SqT K H a vs ∧ DpAll K (hidS S H) vs ds := by
  cases r with
  | val h => cases h with
    | tup h hs => exact ⟨_, _, rfl, ex_t hidS_ex h, hs⟩
theorem Rp.int {i : Int} (r : Rp K S H v (.int i)) : v = .int i := by
  cases r with
  | val h => cases h; rfl
theorem Rp.bl {b : Bool} (r : Rp K S H v (.bool b)) : v = .bl b := by
  cases r with
  | val h => cases h; rfl
theorem Rp.str {x : Str} (r : Rp K S H v (.str x)) : v = .str x := by
  cases r with
  | val h => cases h; rfl
theorem Rp.non (r : Rp K S H v .none) : v = .non := by
  cases r with
  | val h => cases h; rfl
theorem Rp.ext (e : Ex H H') (r : Rp K S H v d) : Rp K S H' v d := by
  cases r with
  | val h => exact .val (dp_mono (hidS_mono e) h)
  | own h hs => exact .own (e _ _ h) (dpA_mono (hidS_mono e) hs)
/-- a new tuple, a new list -/
theorem new_tup {vs : List V} {ds : List D} (l : Live S H) (hp : H p = none) (hs : DpAll K (hidS S H) vs ds) : Dp K (hidS S (upd H p (.tup vs))) (.ref p) (.tuple ds) := by
  have e : Ex H (upd H p (.tup vs)) := Ex.new hp
  refine .tup (.inl (.inl ?_)) (dpA_mono (hidS_mono e) hs)
  rw [hidS_in (l.free hp), upd_same]
theorem new_lst {vs : List V} {ds : List D} (l : Live S H) (hp : H p = none) (hs : DpAll K (hidS S H) vs ds) : Dp K (hidS S (upd H p (.lst vs))) (.ref p) (.list ds) := by
  have e : Ex H (upd H p (.lst vs)) := Ex.new hp
  refine .lst (.inl (.inl ?_)) (dpA_mono (hidS_mono e) hs)
  rw [hidS_in (l.free hp), upd_same]
end

/-! slots -/
inductive Sl where
  | no | va (d : D) | ow (ds : List D) | io (ds : List D) | ex (a : Addr)
abbrev En := List Sl
def Sof (θ : Addr → Prop) (α : Nat → Option Addr) : Addr → Prop := fun b => θ b ∨ ∃ i, α i = some b
def SlOk (K : PySem.W.Frag) (θ : Addr → Prop) (π α : Nat → Option Addr) (σ : L2.St) (H : Hp) (i : Nat) : Sl → Prop
  | .no => True
  | .va d => ∃ v, σ[i]? = some (some v) ∧ Dp K (hidS (Sof θ α) H) v d
  | .ow ds => ∃ a vs, α i = some a ∧ π i = none ∧ σ[i]? = some (some (.ref a)) ∧ H a = some (.lst vs) ∧ DpAll K (hidS (Sof θ α) H) vs ds
  | .io ds => ∃ a vs, α i = some a ∧ π i = some a ∧ σ[i]? = some (some (.ref a)) ∧ H a = some (.lst vs) ∧ DpAll K (hidS (Sof θ α) H) vs ds
  | .ex a => σ[i]? = some (some (.ref a))
def Sl.owned : Sl → Prop
  | .ow _ => True
  | .io _ => True
  | _ => False
structure Rel (K : PySem.W.Frag) (θ : Addr → Prop) (π α : Nat → Option Addr) (σ : L2.St) (H : Hp) (ρ : En) : Prop where
  len : ρ.length = σ.length
  inj : ∀ i j a, α i = some a → α j = some a → i = j
  ap : ∀ i a, α i = some a → ¬ θ a
  lv : ∀ b, θ b → H b ≠ none
  dom : ∀ i a, α i = some a → ∃ s, ρ[i]? = some s ∧ s.owned
  pin : ∀ i a, π i = some a → ∃ ds, ρ[i]? = some (.io ds)
  tb : ∀ b, Tbs.T b → θ b ∧ isTb (H b)
  sl : ∀ i s, ρ[i]? = some s → SlOk K θ π α σ H i s
/-- from one state to a later one -/
def Stp (θ : Addr → Prop) (α : Nat → Option Addr) (H : Hp) (α' : Nat → Option Addr) (H' : Hp) : Prop :=
  Ex (hidS (Sof θ α) H) (hidS (Sof θ α') H') ∧ ∀ b, θ b → FrO (H b) (H' b)
theorem Stp.refl (θ : Addr → Prop) (α : Nat → Option Addr) (H : Hp) : Stp θ α H α H := ⟨Ex.refl _, fun _ _ => FrO.refl _⟩
theorem Stp.trans {θ : Addr → Prop} {α α1 α2 : Nat → Option Addr} {H H1 H2 : Hp} (a : Stp θ α H α1 H1) (b : Stp θ α1 H1 α2 H2) : Stp θ α H α2 H2 :=
  ⟨a.1.trans b.1, fun c h => (a.2 c h).trans (b.2 c h)⟩
section
variable {K : PySem.W.Frag} {θ : Addr → Prop} {π α : Nat → Option Addr} {σ : L2.St} {H H' : Hp} {ρ : En}
theorem Rel.owned {i : Nat} {a : Addr} (r : Rel K θ π α σ H ρ) (h : α i = some a) : ∃ vs, H a = some (.lst vs) := by
  obtain ⟨s, hs, ho⟩ := r.dom i a h
  have q := r.sl i s hs
  cases s with
  | ow ds => obtain ⟨b, vs, h1, _, _, h2, _⟩ := q; rw [h] at h1; cases h1; exact ⟨vs, h2⟩
  | io ds => obtain ⟨b, vs, h1, _, _, h2, _⟩ := q; rw [h] at h1; cases h1; exact ⟨vs, h2⟩
  | no => exact ho.elim
  | va d => exact ho.elim
  | ex b => exact ho.elim
theorem Rel.live (r : Rel K θ π α σ H ρ) : Live (Sof θ α) H := fun b h => by
  rcases h with h | ⟨i, h⟩
  · exact r.lv b h
  · obtain ⟨vs, e⟩ := r.owned h
    rw [e]; intro z; cases z
theorem SlOk.ext {i : Nat} {s : Sl} (e : Ex H H') (q : SlOk K θ π α σ H i s) : SlOk K θ π α σ H' i s := by
  cases s with
  | no => trivial
  | va d => obtain ⟨v, h1, h2⟩ := q; exact ⟨v, h1, dp_mono (hidS_mono e) h2⟩
  | ow ds => obtain ⟨a, vs, h1, h2, h3, h4, h5⟩ := q; exact ⟨a, vs, h1, h2, h3, e _ _ h4, dpA_mono (hidS_mono e) h5⟩
  | io ds => obtain ⟨a, vs, h1, h2, h3, h4, h5⟩ := q; exact ⟨a, vs, h1, h2, h3, e _ _ h4, dpA_mono (hidS_mono e) h5⟩
  | ex a => exact q
theorem isTb.ext {b : Addr} (h : isTb (H b)) (e : Ex H H') : isTb (H' b) := by
  obtain ⟨ps, z, k⟩ := h
  exact ⟨ps, e b _ z, k⟩
theorem Rel.ext (r : Rel K θ π α σ H ρ) (e : Ex H H') : Rel K θ π α σ H' ρ :=
  ⟨r.len, r.inj, r.ap, fun b h n => (Live.ext r.live e) b (.inl h) n, r.dom, r.pin, fun b h => ⟨(r.tb b h).1, (r.tb b h).2.ext e⟩, fun i s h => (r.sl i s h).ext e⟩
theorem Rel.stp (r : Rel K θ π α σ H ρ) (e : Ex H H') : Stp θ α H α H' := ⟨hidS_mono e, fun b h => by
  cases q : H b with
  | none => exact absurd q (r.lv b h)
  | some o => exact .inl (e b o q)⟩
/-- what a slot holds, as it is read -/
def rd (ρ : En) (i : Nat) : Option D := match ρ[i]? with
  | some (.va d) => some d
  | some (.ow ds) => some (.list ds)
  | some (.io ds) => some (.list ds)
  | _ => none
theorem Rel.rd {i : Nat} {d : D} (r : Rel K θ π α σ H ρ) (h : rd ρ i = some d) : ∃ v, σ[i]? = some (some v) ∧ Rp K (Sof θ α) H v d := by
  unfold Den.rd at h
  split at h
  · rename_i d' e
    cases h
    obtain ⟨v, h1, h2⟩ := r.sl i _ e
    exact ⟨v, h1, .val h2⟩
  · rename_i ds e
    cases h
    obtain ⟨a, vs, h1, h2, h3, h4, h5⟩ := r.sl i _ e
    exact ⟨_, h3, .own h4 h5⟩
  · rename_i ds e
    cases h
    obtain ⟨a, vs, h1, h2, h3, h4, h5⟩ := r.sl i _ e
    exact ⟨_, h3, .own h4 h5⟩
  · cases h
end
end Den

namespace Den
variable [Tbs]
open PySem L2 Evl PySem.Spec PyProof.Rows
open Classical

/-! weaker ends -/
section
variable {X : Cx}
theorem peI {e : Expr} {t t' : TE} (h : PE X e t) (k : ∀ σ H Q, t' σ H Q → t σ H Q) : PE X e t' := ⟨fun pins s σ H Q I q => h.run pins s σ H Q I (k _ _ _ q)⟩
theorem ptI {e : Expr} {t t' : TT} (h : PT X e t) (k : ∀ σ H Q, t' σ H Q → t σ H Q) : PT X e t' := ⟨fun pins s σ H Q I q => h.run pins s σ H Q I (k _ _ _ q)⟩
theorem pwI {e : Expr} {t t' : TT} (h : PW X e t) (k : ∀ σ H Q, t' σ H Q → t σ H Q) : PW X e t' := ⟨fun wh pins s σ H Q I q => h.run wh pins s σ H Q I (k _ _ _ q)⟩
theorem paI {es : List Expr} {t t' : TA} (h : PA X es t) (k : ∀ σ H Q, t' σ H Q → t σ H Q) : PA X es t' := ⟨fun pos pins s σ H Q I q => h.run pos pins s σ H Q I (k _ _ _ q)⟩
theorem psI {s : Stmt} {t t' : TS} (h : PS X s t) (k : ∀ D σ H, t' D σ H → t D σ H) : PS X s t' := ⟨fun pins st σ H D I q => h.run pins st σ H D I (k _ _ _ q)⟩
theorem pssI {s : List Stmt} {t t' : TS} (h : PSs X s t) (k : ∀ D σ H, t' D σ H → t D σ H) : PSs X s t' := ⟨fun pins st σ H D I q => h.run pins st σ H D I (k _ _ _ q)⟩
theorem pgI {e : Expr} {t t' : TG} (h : PG X e t) (k : ∀ v σ H Q, t' v σ H Q → t v σ H Q) : PG X e t' := ⟨fun pins s σ H v u Q I r q => h.run pins s σ H v u Q I r (k _ _ _ _ q)⟩
theorem pgsI {e : List Expr} {t t' : TGs} (h : PGs X e t) (k : ∀ v σ H Q, t' v σ H Q → t v σ H Q) : PGs X e t' := ⟨fun pins s σ H v u Q I r q => h.run pins s σ H v u Q I r (k _ _ _ _ q)⟩
theorem poI {e : Option Expr} {t t' : TO} (h : PO X e t) (k : ∀ σ H Q, t' σ H Q → t σ H Q) : PO X e t' := ⟨fun pins s σ H Q I q => h.run pins s σ H Q I (k _ _ _ q)⟩
theorem ptsI {e : List Expr} {t t' : TT} (h : PTs X e t) (k : ∀ σ H Q, t' σ H Q → t σ H Q) : PTs X e t' := ⟨fun pins s σ H Q I q => h.run pins s σ H Q I (k _ _ _ q)⟩
theorem piI {tg e : Expr} {t t' : TI} (h : PI X tg e t) (k : ∀ σ H R, t' σ H R → t σ H R) : PI X tg e t' := ⟨fun pins s σ H Q I q => h.run pins s σ H Q I (k _ _ _ q)⟩
end

/-! what is wanted, over data -/
abbrev RC := D → En → Prop
abbrev EC := Addr → En → Prop
abbrev WE := En → RC → EC → Prop
abbrev LR := En → D → Prop
abbrev WL := En → (LR → En → Prop) → EC → Prop
abbrev WT := En → (Bool → En → Prop) → EC → Prop
abbrev WA := En → (List D → En → Prop) → EC → Prop
abbrev WO := En → (Option Int → En → Prop) → EC → Prop
abbrev WG := D → En → (En → Prop) → EC → Prop
structure Bx where
  nx : En → Prop
  rt : D → En → Prop
  rf : List D → En → Prop := fun _ _ => False
  bk : En → Prop := fun _ => False
  ct : En → Prop := fun _ => False
  rs : Addr → En → Prop := fun _ _ => False
abbrev WS := Bx → En → Prop

section
variable (K : PySem.W.Frag) (W : WX)
def Exi (θ : Addr → Prop) (π α : Nat → Option Addr) (σ : L2.St) (H : Hp) (E : EC) : Prop :=
  ∀ α' σ' H' c ρ', Rel K θ π α' σ' H' ρ' → Stp θ α H α' H' → E c ρ' → W (.ref c) none σ' H'
def cE (w : WE) : TE := fun σ H Q => ∃ θ π α ρ R E, Rel K θ π α σ H ρ ∧ w ρ R E ∧
  (∀ α' v H' d ρ', Rel K θ π α' σ H' ρ' → Stp θ α H α' H' → Dp K (hidS (Sof θ α') H') v d → R d ρ' → Q v H') ∧ Exi K W θ π α σ H E
/-- when it is read later -/
def Lat (θ : Addr → Prop) (π : Nat → Option Addr) (σ : L2.St) (α : Nat → Option Addr) (H : Hp) (v : V) (L : LR) : Prop :=
  ∀ α2 H2 ρ2, Rel K θ π α2 σ H2 ρ2 → Stp θ α H α2 H2 → ∀ d, L ρ2 d → Rp K (Sof θ α2) H2 v d
def cL (w : WL) : TE := fun σ H Q => ∃ θ π α ρ R E, Rel K θ π α σ H ρ ∧ w ρ R E ∧
  (∀ α' v H' L ρ', Rel K θ π α' σ H' ρ' → Stp θ α H α' H' → Lat K θ π σ α' H' v L → R L ρ' → Q v H') ∧ Exi K W θ π α σ H E
def cT (w : WT) : TT := fun σ H Q => ∃ θ π α ρ R E, Rel K θ π α σ H ρ ∧ w ρ R E ∧
  (∀ α' H' b ρ', Rel K θ π α' σ H' ρ' → Stp θ α H α' H' → R b ρ' → Q b H') ∧ Exi K W θ π α σ H E
def cO (w : WO) : TO := fun σ H Q => ∃ θ π α ρ R E, Rel K θ π α σ H ρ ∧ w ρ R E ∧
  (∀ α' H' b ρ', Rel K θ π α' σ H' ρ' → Stp θ α H α' H' → R b ρ' → Q b H') ∧ Exi K W θ π α σ H E
def cA (n : Nat) (w : WA) : TA := fun σ H Q => ∃ θ π α ρ R E, Rel K θ π α σ H ρ ∧ w ρ R E ∧
  (∀ α' vs H' ds ρ', Rel K θ π α' σ H' ρ' → Stp θ α H α' H' → DpAll K (hidS (Sof θ α') H') vs ds → ds.length = n → R ds ρ' → Q vs H') ∧ Exi K W θ π α σ H E
/-- a new list that nobody else holds -/
def th (θ : Addr → Prop) (p : Addr) : Addr → Prop := fun b => θ b ∨ b = p
def StpF (θ : Addr → Prop) (α : Nat → Option Addr) (H : Hp) (p : Addr) (α' : Nat → Option Addr) (H' : Hp) : Prop :=
  Ex (hidS (Sof θ α) H) (hidS (Sof (th θ p) α') H') ∧ ∀ b, θ b → FrO (H b) (H' b)
def cF (w : WA) : TE := fun σ H Q => ∃ θ π α ρ R E, Rel K θ π α σ H ρ ∧ w ρ R E ∧
  (∀ α' p vs H' ds ρ', Rel K (th θ p) π α' σ H' ρ' → StpF θ α H p α' H' → ¬ θ p → H' p = some (.lst vs) → DpAll K (hidS (Sof (th θ p) α') H') vs ds → R ds ρ' → Q (.ref p) H') ∧ Exi K W θ π α σ H E
def cG (w : WG) : TG := fun v σ H Q => ∃ θ π α ρ d R E, Rel K θ π α σ H ρ ∧ Dp K (hidS (Sof θ α) H) v d ∧ w d ρ R E ∧
  (∀ α' σ' H' ρ', Rel K θ π α' σ' H' ρ' → Stp θ α H α' H' → R ρ' → Q σ' H') ∧ Exi K W θ π α σ H E
structure Fits (θ : Addr → Prop) (π α : Nat → Option Addr) (H : Hp) (D : Ends) (B : Bx) : Prop where
  nx : ∀ α' σ' H' ρ', Rel K θ π α' σ' H' ρ' → Stp θ α H α' H' → B.nx ρ' → D.nx σ' H'
  bk : ∀ α' σ' H' ρ', Rel K θ π α' σ' H' ρ' → Stp θ α H α' H' → B.bk ρ' → D.bk σ' H'
  ct : ∀ α' σ' H' ρ', Rel K θ π α' σ' H' ρ' → Stp θ α H α' H' → B.ct ρ' → D.ct σ' H'
  rt : ∀ α' σ' H' v d ρ', Rel K θ π α' σ' H' ρ' → Stp θ α H α' H' → Dp K (hidS (Sof θ α') H') v d → B.rt d ρ' → D.rt v H'
  rf : ∀ α' σ' p vs H' ds ρ', Rel K (th θ p) π α' σ' H' ρ' → StpF θ α H p α' H' → ¬ θ p → H' p = some (.lst vs) → DpAll K (hidS (Sof (th θ p) α') H') vs ds → B.rf ds ρ' → D.rt (.ref p) H'
  rs : ∀ α' σ' H' c ρ', Rel K θ π α' σ' H' ρ' → Stp θ α H α' H' → B.rs c ρ' → W (.ref c) none σ' H'
def cS (w : WS) : TS := fun D σ H => ∃ θ π α ρ B, Rel K θ π α σ H ρ ∧ w B ρ ∧ Fits K W θ π α H D B
end
section
variable {K : PySem.W.Frag} {W : WX} {θ : Addr → Prop} {π α α1 : Nat → Option Addr} {σ : L2.St} {H H1 : Hp} {E : EC} {De : Ends} {B : Bx} {v : V} {d : D} {L : LR}
theorem Exi.step (x : Exi K W θ π α σ H E) (s : Stp θ α H α1 H1) : Exi K W θ π α1 σ H1 E := fun α' σ' H' c ρ' r s' e => x α' σ' H' c ρ' r (s.trans s') e
theorem Fits.step (x : Fits K W θ π α H De B) (s : Stp θ α H α1 H1) : Fits K W θ π α1 H1 De B :=
  ⟨fun α' σ' H' ρ' r s' e => x.nx α' σ' H' ρ' r (s.trans s') e, fun α' σ' H' ρ' r s' e => x.bk α' σ' H' ρ' r (s.trans s') e, fun α' σ' H' ρ' r s' e => x.ct α' σ' H' ρ' r (s.trans s') e,
   fun α' σ' H' v d ρ' r s' p e => x.rt α' σ' H' v d ρ' r (s.trans s') p e, fun α' σ' p vs H' ds ρ' r s' np h d e => x.rf α' σ' p vs H' ds ρ' r ⟨s.1.trans s'.1, fun b hb => (s.2 b hb).trans (s'.2 b hb)⟩ np h d e, fun α' σ' H' c ρ' r s' e => x.rs α' σ' H' c ρ' r (s.trans s') e⟩
theorem Fits.exi (x : Fits K W θ π α H De B) : Exi K W θ π α σ H B.rs := fun α' σ' H' c ρ' r s' e => x.rs α' σ' H' c ρ' r s' e
theorem Lat.const (h : Dp K (hidS (Sof θ α) H) v d) : Lat K θ π σ α H v (fun _ d' => d' = d) := fun α2 H2 ρ2 r s d' e => by
  subst e
  exact .val (dp_mono s.1 h)
theorem Lat.step (h : Lat K θ π σ α H v L) (s : Stp θ α H α1 H1) : Lat K θ π σ α1 H1 v L := fun α2 H2 ρ2 r s2 d e => h α2 H2 ρ2 r (s.trans s2) d e
end

/-! reading -/
def wL (w : WE) : WL := fun ρ R E => w ρ (fun d ρ' => R (fun _ d' => d' = d) ρ') E
def wN (j : Nat) : WL := fun ρ R E => (∃ d, rd ρ j = some d) ∧ R (fun ρ' d => rd ρ' j = some d) ρ
def wV (j : Nat) : WE := fun ρ R E => match ρ[j]? with
  | some (.va d) => R d ρ
  | some (.ow ds) => R (.list ds) (ρ.set j (.va (.list ds)))
  | _ => False
def wC (d : D) : WE := fun ρ R E => R d ρ
section
variable {K : PySem.W.Frag} {W : WX} {X : Cx} {e : Expr}
theorem dl {w : WE} (h : PE X e (cE K W w)) : PE X e (cL K W (wL w)) := peI h fun σ H Q ⟨θ, π, α, ρ, R, E, hR, hw, hq, he⟩ =>
  ⟨θ, π, α, ρ, _, E, hR, hw, fun α' v H' d ρ' r s p q => hq α' v H' _ ρ' r s (Lat.const p) q, he⟩
theorem dN {i : Nat} {x : Str} {pos : Pos} (h : PE X (.Name x pos) (tVar i)) : PE X (.Name x pos) (cL K W (wN i)) := peI h fun σ H Q ⟨θ, π, α, ρ, R, E, hR, hw, hq, he⟩ => by
  obtain ⟨⟨d, hd⟩, hw⟩ := hw
  obtain ⟨v, h1, h2⟩ := hR.rd hd
  exact ⟨v, h1, hq α v H _ ρ hR (Stp.refl ..) (fun α2 H2 ρ2 r s d' e => by
    obtain ⟨v2, h3, h4⟩ := r.rd e
    rw [h1] at h3
    cases h3
    exact h4) hw⟩
theorem dC {v : V} {d : D} (h : PE X e (tC v)) (hd : ∀ G, Dp K G v d) : PE X e (cE K W (wC d)) := peI h fun σ H Q ⟨θ, π, α, ρ, R, E, hR, hw, hq, he⟩ =>
  hq α v H d ρ hR (Stp.refl ..) (hd _) hw
/-- a list gets out of its slot -/
theorem Rel.freeze {θ : Addr → Prop} {π α : Nat → Option Addr} {σ : L2.St} {H : Hp} {ρ : En} {j : Nat} {ds : List D} (r : Rel K θ π α σ H ρ) (h : ρ[j]? = some (.ow ds)) :
    ∃ α' v, Rel K θ π α' σ H (ρ.set j (.va (.list ds))) ∧ Stp θ α H α' H ∧ σ[j]? = some (some v) ∧ Dp K (hidS (Sof θ α') H) v (.list ds) := by
  obtain ⟨a, vs, h1, h2, h3, h4, h5⟩ := r.sl j _ h
  have hlt : j < ρ.length := (List.getElem?_eq_some_iff.mp h).1
  have hsub : ∀ b, Sof θ (fun i => if i = j then none else α i) b → Sof θ α b := fun b hb => by
    rcases hb with hb | ⟨i, hb⟩
    · exact .inl hb
    · by_cases e : i = j
      · subst e; simp at hb
      · exact .inr ⟨i, by simpa [e] using hb⟩
  have hex : Ex (hidS (Sof θ α) H) (hidS (Sof θ (fun i => if i = j then none else α i)) H) := fun b o q => by
    unfold hidS at q ⊢
    split at q
    · cases q
    · rename_i hn
      rw [if_neg (fun z => hn (hsub b z))]
      exact q
  have hna : ¬ Sof θ (fun i => if i = j then none else α i) a := fun z => by
    rcases z with z | ⟨i, z⟩
    · exact r.ap j a h1 z
    · by_cases e : i = j
      · subst e; simp at z
      · exact e (r.inj i j a (by simpa [e] using z) h1)
  have hdp : Dp K (hidS (Sof θ (fun i => if i = j then none else α i)) H) (.ref a) (.list ds) := .lst (.inl (.inl (by rw [hidS_in hna]; exact h4))) (dpA_mono hex h5)
  refine ⟨fun i => if i = j then none else α i, .ref a, ⟨by simpa using r.len, fun i k b q1 q2 => ?_, fun i b q => ?_, r.lv, fun i b q => ?_, fun i b q => ?_, r.tb, fun i s q => ?_⟩, ⟨hex, fun _ _ => FrO.refl _⟩, h3, hdp⟩
  · by_cases e1 : i = j
    · subst e1; simp at q1
    · by_cases e2 : k = j
      · subst e2; simp at q2
      · exact r.inj i k b (by simpa [e1] using q1) (by simpa [e2] using q2)
  · by_cases e1 : i = j
    · subst e1; simp at q
    · exact r.ap i b (by simpa [e1] using q)
  · by_cases e1 : i = j
    · subst e1; simp at q
    · obtain ⟨s, z1, z2⟩ := r.dom i b (by simpa [e1] using q)
      exact ⟨s, by rw [List.getElem?_set_ne (Ne.symm e1)]; exact z1, z2⟩
  · have e1 : i ≠ j := fun z => by subst z; rw [h2] at q; cases q
    obtain ⟨es, z⟩ := r.pin i b q
    exact ⟨es, by rw [List.getElem?_set_ne (Ne.symm e1)]; exact z⟩
  · by_cases e1 : i = j
    · subst e1
      rw [List.getElem?_set_self hlt] at q
      cases q
      exact ⟨.ref a, h3, hdp⟩
    · rw [List.getElem?_set_ne (Ne.symm e1)] at q
      have z := r.sl i s q
      cases s with
      | no => trivial
      | va d => obtain ⟨v, z1, z2⟩ := z; exact ⟨v, z1, dp_mono hex z2⟩
      | ow es => obtain ⟨b, ws, z1, z2, z3, z4, z5⟩ := z; exact ⟨b, ws, by simpa [e1] using z1, z2, z3, z4, dpA_mono hex z5⟩
      | io es => obtain ⟨b, ws, z1, z2, z3, z4, z5⟩ := z; exact ⟨b, ws, by simpa [e1] using z1, z2, z3, z4, dpA_mono hex z5⟩
      | ex b => exact z
theorem dV {i : Nat} {x : Str} {pos : Pos} (h : PE X (.Name x pos) (tVar i)) : PE X (.Name x pos) (cE K W (wV i)) := peI h fun σ H Q ⟨θ, π, α, ρ, R, E, hR, hw, hq, he⟩ => by
  unfold wV at hw
  split at hw
  · rename_i d e
    obtain ⟨v, h1, h2⟩ := hR.sl i _ e
    exact ⟨v, h1, hq α v H d ρ hR (Stp.refl ..) h2 hw⟩
  · rename_i ds e
    obtain ⟨α', v, r, s, h1, h2⟩ := hR.freeze e
    exact ⟨v, h1, hq α' v H _ _ r s h2 hw⟩
  · exact hw.elim
end

/-! operations by values -/
def SR (K : PySem.W.Frag) (r : R2) (f : D → D → (D → Prop) → Prop) : Prop := ∀ (S : Addr → Prop) (H : Hp) (x y : V) (d e : D) (Q : VK) (R : D → Prop), Live S H → Rp K S H x d → Rp K S H y e → f d e R →
  (∀ v H' c, Ex H H' → Dp K (hidS S H') v c → R c → Q v H') → r x y H Q
def SU (K : PySem.W.Frag) (r : V → Hp → VK → Prop) (f : D → (D → Prop) → Prop) : Prop := ∀ (S : Addr → Prop) (H : Hp) (x : V) (d : D) (Q : VK) (R : D → Prop), Live S H → Rp K S H x d → f d R →
  (∀ v H' c, Ex H H' → Dp K (hidS S H') v c → R c → Q v H') → r x H Q
def wOp (f : D → D → (D → Prop) → Prop) (wa wb : WL) : WE := fun ρ R E => wa ρ (fun La ρ1 => wb ρ1 (fun Lb ρ2 => ∃ d e, La ρ2 d ∧ Lb ρ2 e ∧ f d e (fun z => R z ρ2)) E) E
def wUn (f : D → (D → Prop) → Prop) (wa : WL) : WE := fun ρ R E => wa ρ (fun La ρ1 => ∃ d, La ρ1 d ∧ f d (fun z => R z ρ1)) E
section
variable {K : PySem.W.Frag} {W : WX} {X : Cx}
theorem can_op {r : R2} {f : D → D → (D → Prop) → Prop} (hr : SR K r f) {wa wb : WL} (σ : L2.St) (H : Hp) (Q : VK) : cE K W (wOp f wa wb) σ H Q → tOp r (cL K W wa) (cL K W wb) σ H Q := by
  rintro ⟨θ, π, α, ρ, R, E, hR, hw, hq, he⟩
  refine ⟨θ, π, α, ρ, _, E, hR, hw, fun α1 v1 H1 L1 ρ1 R1 s1 l1 w1 => ?_, he⟩
  refine ⟨θ, π, α1, ρ1, _, E, R1, w1, fun α2 v2 H2 L2 ρ2 R2 s2 l2 w2 => ?_, he.step s1⟩
  obtain ⟨d, e, hd, he', hf⟩ := w2
  exact hr _ H2 _ _ d e Q _ R2.live (l1 α2 H2 ρ2 R2 s2 d hd) (l2 α2 H2 ρ2 R2 (Stp.refl ..) e he') hf (fun v H' c ex dp rc => hq α2 v H' c ρ2 (R2.ext ex) ((s1.trans s2).trans (R2.stp ex)) dp rc)
theorem can_un {r : V → Hp → VK → Prop} {f : D → (D → Prop) → Prop} (hr : SU K r f) {wa : WL} (σ : L2.St) (H : Hp) (Q : VK) : cE K W (wUn f wa) σ H Q → tUn r (cL K W wa) σ H Q := by
  rintro ⟨θ, π, α, ρ, R, E, hR, hw, hq, he⟩
  refine ⟨θ, π, α, ρ, _, E, hR, hw, fun α1 v1 H1 L1 ρ1 R1 s1 l1 w1 => ?_, he⟩
  obtain ⟨d, hd, hf⟩ := w1
  exact hr _ H1 _ d Q _ R1.live (l1 α1 H1 ρ1 R1 (Stp.refl ..) d hd) hf (fun v H' c ex dp rc => hq α1 v H' c ρ1 (R1.ext ex) (s1.trans (R1.stp ex)) dp rc)
theorem dOp {op : Operator} {r : R2} {f : D → D → (D → Prop) → Prop} {a b : Expr} {pos : Pos} {wa wb : WL} (ho : OpR X (binaryOp op) r) (hr : SR K r f) (ha : PE X a (cL K W wa)) (hb : PE X b (cL K W wb)) : PE X (.BinOp a op b pos) (cE K W (wOp f wa wb)) :=
  peI (pe_op ho ha hb) (can_op hr)
theorem dCmp {op : CmpOp} {r : R2} {f : D → D → (D → Prop) → Prop} {a b : Expr} {pos : Pos} {wa wb : WL} (ho : OpR X (compareOp op) r) (hr : SR K r f) (ha : PE X a (cL K W wa)) (hb : PE X b (cL K W wb)) (hm : behindInMarks op b = false) : PE X (.Compare a [op] [b] pos) (cE K W (wOp f wa wb)) :=
  peI (pe_cmpR ho ha hb hm) (can_op hr)
theorem dUn {op : UnaryOp} {r : V → Hp → VK → Prop} {f : D → (D → Prop) → Prop} {a : Expr} {pos : Pos} {wa : WL} (ho : UnR X (unaryOp op) r) (hr : SU K r f) (ha : PE X a (cL K W wa)) : PE X (.UnaryOp op a pos) (cE K W (wUn f wa)) :=
  peI (pe_un ho ha) (can_un hr)
theorem dIx {r : R2} {f : D → D → (D → Prop) → Prop} {a b : Expr} {pos : Pos} {wa wb : WL} (ho : IxR X r) (hr : SR K r f) (ha : PE X a (cL K W wa)) (hb : PE X b (cL K W wb)) (hs : PlainIx b) : PE X (.Subscript a b pos) (cE K W (wOp f wa wb)) :=
  peI (pe_ix ho ha hb hs) (can_op hr)
end
end Den

namespace Den
variable [Tbs]
open PySem L2 Evl PySem.Spec PyProof.Rows
open Classical

section
variable {K : PySem.W.Frag} {W : WX} {X : Cx} {θ : Addr → Prop} {π α : Nat → Option Addr} {σ : L2.St} {H : Hp} {ρ : En} {p : Addr} {o : HO}

/-! tests -/
def wTb (w : WE) : WT := fun ρ R E => w ρ (fun d ρ' => ∃ b, d = .bool b ∧ R b ρ') E
def wAnd (wa wb : WT) : WT := fun ρ R E => wa ρ (fun b ρ1 => if b = true then wb ρ1 R E else R false ρ1) E
def wOr (wa wb : WT) : WT := fun ρ R E => wa ρ (fun b ρ1 => if b = true then R true ρ1 else wb ρ1 R E) E
def wNot (wa : WT) : WT := fun ρ R E => wa ρ (fun b ρ1 => R (!b) ρ1) E
def wAndV (wa wb : WE) : WE := fun ρ R E => wa ρ (fun d ρ1 => ∃ b, d = .bool b ∧ if b = true then wb ρ1 R E else R (.bool false) ρ1) E
def wOrV (wa wb : WE) : WE := fun ρ R E => wa ρ (fun d ρ1 => ∃ b, d = .bool b ∧ if b = true then R (.bool true) ρ1 else wb ρ1 R E) E
def wNotV (wa : WE) : WE := fun ρ R E => wa ρ (fun d ρ1 => ∃ b, d = .bool b ∧ R (.bool (!b)) ρ1) E
def wIf (wt : WT) (wa wb : WE) : WE := fun ρ R E => wt ρ (fun b ρ1 => if b = true then wa ρ1 R E else wb ρ1 R E) E

theorem dp_b {v : V} {b : Bool} (h : Dp K H v (.bool b)) : v = .bl b := by cases h; rfl
theorem can_tb {w : WE} (σ : L2.St) (H : Hp) (Q : Bool → Hp → Prop) : cT K W (wTb w) σ H Q → tTest (cE K W w) σ H Q := by
  rintro ⟨θ, π, α, ρ, R, E, hR, hw, hq, he⟩
  refine ⟨θ, π, α, ρ, _, E, hR, hw, fun α1 v1 H1 d ρ1 R1 s1 p1 w1 => ?_, he⟩
  obtain ⟨b, rfl, w1⟩ := w1
  exact ⟨b, dp_b p1, hq α1 H1 b ρ1 R1 s1 w1⟩
theorem dTc {op : CmpOp} {r : R2} {f : D → D → (D → Prop) → Prop} {a b : Expr} {pos : Pos} {wa wb : WL} (ho : OpR X (compareOp op) r) (hr : SR K r f) (ha : PE X a (cL K W wa)) (hb : PE X b (cL K W wb)) (hm : behindInMarks op b = false) : PT X (.Compare a [op] [b] pos) (cT K W (wTb (wOp f wa wb))) :=
  ptI (pt_cmpR ho ha hb hm) fun σ H Q q => by
    have z := can_tb σ H Q q
    exact can_op hr σ H _ z
theorem dTv {e : Expr} {w : WE} (h : PE X e (cE K W w)) (he : ∀ whole, isTrue e X.env whole = (do let v ← whole; standAt e.pos; holding [v] (truthy v)) := by intro _; rfl) : PT X e (cT K W (wTb w)) := ptI (pt_val h he) can_tb
theorem dNot {a : Expr} {pos : Pos} {wa : WT} (ha : PT X a (cT K W wa)) : PT X (.UnaryOp .Not a pos) (cT K W (wNot wa)) := ptI (pt_not ha) fun σ H Q ⟨θ, π, α, ρ, R, E, hR, hw, hq, he⟩ =>
  ⟨θ, π, α, ρ, _, E, hR, hw, fun α1 H1 b ρ1 R1 s1 w1 => hq α1 H1 _ ρ1 R1 s1 w1, he⟩
theorem can_and {wa wb : WT} (σ : L2.St) (H : Hp) (Q : Bool → Hp → Prop) : cT K W (wAnd wa wb) σ H Q → tAnd (cT K W wa) (cT K W wb) σ H Q := by
  rintro ⟨θ, π, α, ρ, R, E, hR, hw, hq, he⟩
  refine ⟨θ, π, α, ρ, _, E, hR, hw, fun α1 H1 b ρ1 R1 s1 w1 => ?_, he⟩
  cases b with
  | true => rw [if_pos rfl] at w1 ⊢; exact ⟨θ, π, α1, ρ1, R, E, R1, w1, fun α2 H2 b ρ2 R2 s2 w2 => hq α2 H2 b ρ2 R2 (s1.trans s2) w2, he.step s1⟩
  | false => rw [if_neg Bool.false_ne_true] at w1 ⊢; exact hq α1 H1 _ ρ1 R1 s1 w1
theorem can_or {wa wb : WT} (σ : L2.St) (H : Hp) (Q : Bool → Hp → Prop) : cT K W (wOr wa wb) σ H Q → tOr (cT K W wa) (cT K W wb) σ H Q := by
  rintro ⟨θ, π, α, ρ, R, E, hR, hw, hq, he⟩
  refine ⟨θ, π, α, ρ, _, E, hR, hw, fun α1 H1 b ρ1 R1 s1 w1 => ?_, he⟩
  cases b with
  | false => rw [if_neg Bool.false_ne_true] at w1 ⊢; exact ⟨θ, π, α1, ρ1, R, E, R1, w1, fun α2 H2 b ρ2 R2 s2 w2 => hq α2 H2 b ρ2 R2 (s1.trans s2) w2, he.step s1⟩
  | true => rw [if_pos rfl] at w1 ⊢; exact hq α1 H1 _ ρ1 R1 s1 w1
theorem dAnd {a b : Expr} {rest : List Expr} {pos : Pos} {wa wb : WT} (ha : PT X a (cT K W wa)) (hb : PW X (.BoolOp .And (b :: rest) pos) (cT K W wb)) : PW X (.BoolOp .And (a :: b :: rest) pos) (cT K W (wAnd wa wb)) := pwI (pw_and ha hb) can_and
theorem dOr {a b : Expr} {rest : List Expr} {pos : Pos} {wa wb : WT} (ha : PT X a (cT K W wa)) (hb : PW X (.BoolOp .Or (b :: rest) pos) (cT K W wb)) : PW X (.BoolOp .Or (a :: b :: rest) pos) (cT K W (wOr wa wb)) := pwI (pw_or ha hb) can_or
theorem dAndV {a b : Expr} {rest : List Expr} {pos : Pos} {wa wb : WE} (ha : PE X a (cE K W wa)) (hb : PE X (.BoolOp .And (b :: rest) pos) (cE K W wb)) : PE X (.BoolOp .And (a :: b :: rest) pos) (cE K W (wAndV wa wb)) :=
  peI (pe_and ha hb) fun σ H Q ⟨θ, π, α, ρ, R, E, hR, hw, hq, he⟩ => by
    refine ⟨θ, π, α, ρ, _, E, hR, hw, fun α1 v1 H1 d ρ1 R1 s1 p1 w1 => ?_, he⟩
    obtain ⟨b, rfl, w1⟩ := w1
    refine ⟨b, dp_b p1, ?_⟩
    cases b with
    | true => rw [if_pos rfl] at w1 ⊢; exact ⟨θ, π, α1, ρ1, R, E, R1, w1, fun α2 v H2 b ρ2 R2 s2 p2 w2 => hq α2 v H2 b ρ2 R2 (s1.trans s2) p2 w2, he.step s1⟩
    | false => rw [if_neg Bool.false_ne_true] at w1 ⊢; exact hq α1 _ H1 _ ρ1 R1 s1 (.bl _) w1
theorem dOrV {a b : Expr} {rest : List Expr} {pos : Pos} {wa wb : WE} (ha : PE X a (cE K W wa)) (hb : PE X (.BoolOp .Or (b :: rest) pos) (cE K W wb)) : PE X (.BoolOp .Or (a :: b :: rest) pos) (cE K W (wOrV wa wb)) :=
  peI (pe_or ha hb) fun σ H Q ⟨θ, π, α, ρ, R, E, hR, hw, hq, he⟩ => by
    refine ⟨θ, π, α, ρ, _, E, hR, hw, fun α1 v1 H1 d ρ1 R1 s1 p1 w1 => ?_, he⟩
    obtain ⟨b, rfl, w1⟩ := w1
    refine ⟨b, dp_b p1, ?_⟩
    cases b with
    | false => rw [if_neg Bool.false_ne_true] at w1 ⊢; exact ⟨θ, π, α1, ρ1, R, E, R1, w1, fun α2 v H2 b ρ2 R2 s2 p2 w2 => hq α2 v H2 b ρ2 R2 (s1.trans s2) p2 w2, he.step s1⟩
    | true => rw [if_pos rfl] at w1 ⊢; exact hq α1 _ H1 _ ρ1 R1 s1 (.bl _) w1
theorem dNotV {a : Expr} {pos : Pos} {wa : WE} (ha : PE X a (cE K W wa)) : PE X (.UnaryOp .Not a pos) (cE K W (wNotV wa)) :=
  peI (pe_not ha) fun σ H Q ⟨θ, π, α, ρ, R, E, hR, hw, hq, he⟩ => by
    refine ⟨θ, π, α, ρ, _, E, hR, hw, fun α1 v1 H1 d ρ1 R1 s1 p1 w1 => ?_, he⟩
    obtain ⟨b, rfl, w1⟩ := w1
    exact ⟨b, dp_b p1, hq α1 _ H1 _ ρ1 R1 s1 (.bl _) w1⟩
theorem dIf {c a b : Expr} {pos : Pos} {wt : WT} {wa wb : WE} (hc : PT X c (cT K W wt)) (ha : PE X a (cE K W wa)) (hb : PE X b (cE K W wb)) : PE X (.IfExp c a b pos) (cE K W (wIf wt wa wb)) :=
  peI (pe_ifExp hc ha hb) fun σ H Q ⟨θ, π, α, ρ, R, E, hR, hw, hq, he⟩ => by
    refine ⟨θ, π, α, ρ, _, E, hR, hw, fun α1 H1 b ρ1 R1 s1 w1 => ?_, he⟩
    cases b with
    | true => rw [if_pos rfl] at w1 ⊢; exact ⟨θ, π, α1, ρ1, R, E, R1, w1, fun α2 v H2 b ρ2 R2 s2 p2 w2 => hq α2 v H2 b ρ2 R2 (s1.trans s2) p2 w2, he.step s1⟩
    | false => rw [if_neg Bool.false_ne_true] at w1 ⊢; exact ⟨θ, π, α1, ρ1, R, E, R1, w1, fun α2 v H2 b ρ2 R2 s2 p2 w2 => hq α2 v H2 b ρ2 R2 (s1.trans s2) p2 w2, he.step s1⟩

/-! arguments, displays -/
def waNil : WA := fun ρ R _ => R [] ρ
def waCons (wa : WE) (wr : WA) : WA := fun ρ R E => wa ρ (fun d ρ1 => wr ρ1 (fun ds ρ2 => R (d :: ds) ρ2) E) E
def wTup (wa : WA) : WE := fun ρ R E => wa ρ (fun ds ρ' => R (.tuple ds) ρ') E
def wFE (wa : WA) : WE := fun ρ R E => wa ρ (fun ds ρ' => R (.list ds) ρ') E
theorem daNil : PA X [] (cA K W 0 waNil) := paI pa_nil fun σ H Q ⟨θ, π, α, ρ, R, E, hR, hw, hq, he⟩ => hq α [] H [] ρ hR (Stp.refl ..) .nil rfl hw
theorem daCons {e : Expr} {es : List Expr} {n : Nat} {wa : WE} {wr : WA} (ha : PE X e (cE K W wa)) (hr : PA X es (cA K W n wr)) (hs : starEach (e :: es) X.env = (false, eval e X.env) :: starEach es X.env := by rfl) : PA X (e :: es) (cA K W (n + 1) (waCons wa wr)) :=
  paI (pa_cons ha hr hs) fun σ H Q ⟨θ, π, α, ρ, R, E, hR, hw, hq, he⟩ => by
    refine ⟨θ, π, α, ρ, _, E, hR, hw, fun α1 v1 H1 d ρ1 R1 s1 p1 w1 => ?_, he⟩
    refine ⟨θ, π, α1, ρ1, _, E, R1, w1, fun α2 vs H2 ds ρ2 R2 s2 p2 l2 w2 => ?_, he.step s1⟩
    exact hq α2 (v1 :: vs) H2 (d :: ds) ρ2 R2 (s1.trans s2) (.cons (dp_mono s2.1 p1) p2) (by simp [l2]) w2
theorem dTup {es : List Expr} {n x1 : Nat} {pos : Pos} {wa : WA} (h : PA X es (cA K W n wa)) (hn : n ≤ sizeLine := by decide) : PE X (.Tuple es x1 pos) (cE K W (wTup wa)) :=
  peI (pe_tup h) fun σ H Q ⟨θ, π, α, ρ, R, E, hR, hw, hq, he⟩ => by
    refine ⟨θ, π, α, ρ, _, E, hR, hw, fun α2 vs H2 ds ρ2 R2 s2 p2 l2 w2 => ?_, he⟩
    refine ⟨by rw [dpA_len p2, l2]; exact hn, fun p hp => ?_⟩
    exact hq α2 _ _ _ ρ2 (R2.ext (Ex.new hp)) (s2.trans (R2.stp (Ex.new hp))) (new_tup R2.live hp p2) w2

/-! new lists -/
theorem Sof_th {b : Addr} : Sof (th θ p) α b ↔ Sof θ α b ∨ b = p := by
  constructor
  · rintro ((h | h) | h)
    · exact .inl (.inl h)
    · exact .inr h
    · exact .inl (.inr h)
  · rintro ((h | h) | h)
    · exact .inl (.inl h)
    · exact .inr h
    · exact .inl (.inr h)
theorem hid_new (hp : H p = none) : hidS (Sof (th θ p) α) (upd H p o) = hidS (Sof θ α) H := by
  funext b
  unfold hidS
  by_cases h : Sof θ α b
  · rw [if_pos h, if_pos (Sof_th.mpr (.inl h))]
  · rw [if_neg h]
    by_cases e : b = p
    · subst e
      rw [if_pos (Sof_th.mpr (.inr rfl)), hp]
    · rw [if_neg (fun z => (Sof_th.mp z).elim h e), upd_ne e]
theorem SlOk.re {θ' : Addr → Prop} {α' : Nat → Option Addr} {H' : Hp} {i : Nat} {s : Sl} (ha : α' i = α i) (hx : Ex (hidS (Sof θ α) H) (hidS (Sof θ' α') H')) (hl : ∀ a vs, α i = some a → H a = some (.lst vs) → H' a = some (.lst vs)) (q : SlOk K θ π α σ H i s) : SlOk K θ' π α' σ H' i s := by
  cases s with
  | no => trivial
  | va d => obtain ⟨v, h1, h2⟩ := q; exact ⟨v, h1, dp_mono hx h2⟩
  | ow ds => obtain ⟨a, vs, h1, h2, h3, h4, h5⟩ := q; exact ⟨a, vs, by rw [ha]; exact h1, h2, h3, hl a vs h1 h4, dpA_mono hx h5⟩
  | io ds => obtain ⟨a, vs, h1, h2, h3, h4, h5⟩ := q; exact ⟨a, vs, by rw [ha]; exact h1, h2, h3, hl a vs h1 h4, dpA_mono hx h5⟩
  | ex a => exact q
/-- all is kept but for tables that grow -/
def ExT (H H' : Hp) : Prop := Ex (hidS Tbs.T H) (hidS Tbs.T H') ∧ ∀ b, Tbs.T b → FrO (H b) (H' b)
theorem ExT.at {H' : Hp} {b : Addr} {x : HO} (e : ExT H H') (n : ¬ Tbs.T b) (h : H b = some x) : H' b = some x := by
  have z := e.1 b x (by rw [hidS_in n]; exact h)
  rw [hidS_in n] at z
  exact z
theorem Rel.extT {H' : Hp} (r : Rel K θ π α σ H ρ) (e : ExT H H') : Rel K θ π α σ H' ρ ∧ Stp θ α H α H' := by
  have hx : Ex (hidS (Sof θ α) H) (hidS (Sof θ α) H') := fun b o q => by
    unfold hidS at q ⊢
    split at q
    · cases q
    · rename_i h
      rw [if_neg h]
      exact e.at (fun z => h (.inl (r.tb b z).1)) q
  have hf : ∀ b, θ b → FrO (H b) (H' b) := fun b h => by
    by_cases z : Tbs.T b
    · exact e.2 b z
    · cases q : H b with
      | none => exact absurd q (r.lv b h)
      | some o => exact .inl (e.at z q)
  exact ⟨⟨r.len, r.inj, r.ap, fun b h => (hf b h).ne (r.lv b h), r.dom, r.pin, fun b h => ⟨(r.tb b h).1, (hf b (r.tb b h).1).tb (r.tb b h).2⟩, fun i s h => (r.sl i s h).re rfl hx fun a vs ha z => e.at (fun t => r.ap i a ha (r.tb a t).1) z⟩, hx, hf⟩
theorem Rel.hideNew (r : Rel K θ π α σ H ρ) (hp : H p = none) : Rel K (th θ p) π α σ (upd H p o) ρ := by
  have hx : Ex (hidS (Sof θ α) H) (hidS (Sof (th θ p) α) (upd H p o)) := by rw [hid_new hp]; exact Ex.refl _
  refine ⟨r.len, r.inj, fun i a h z => ?_, fun b h => ?_, r.dom, r.pin, fun b h => ⟨.inl (r.tb b h).1, by obtain ⟨ps, z, k⟩ := (r.tb b h).2; exact ⟨ps, by rw [upd_ne (ne_of_none z hp)]; exact z, k⟩⟩, fun i s h => (r.sl i s h).re rfl hx fun a vs _ e => by rw [upd_ne (ne_of_none e hp)]; exact e⟩
  · rcases z with z | z
    · exact r.ap i a h z
    · obtain ⟨vs, e⟩ := r.owned h
      rw [z, hp] at e; cases e
  · rcases h with h | h
    · rw [upd_ne (fun z => by subst z; exact r.lv _ h hp)]
      exact r.lv b h
    · subst h; rw [upd_same]; intro z; cases z
theorem Rel.stpNew (r : Rel K θ π α σ H ρ) (hp : H p = none) : StpF θ α H p α (upd H p o) :=
  ⟨by rw [hid_new hp]; exact Ex.refl _, fun b h => .inl (upd_ne (fun z => by subst z; exact r.lv _ h hp))⟩
theorem Rel.tbF {vs : List V} (r : Rel K (th θ p) π α σ H ρ) (h1 : H p = some (.lst vs)) : ∀ b, Tbs.T b → θ b ∧ isTb (H b) := fun b h => by
  obtain ⟨z, t⟩ := r.tb b h
  refine ⟨z.elim id fun z => ?_, t⟩
  obtain ⟨ps, q, _⟩ := t
  rw [z, h1] at q
  cases q
theorem Rel.unhide {vs : List V} (r : Rel K (th θ p) π α σ H ρ) (np : ¬ θ p) (h1 : H p = some (.lst vs)) : Rel K θ π α σ H ρ ∧ Ex (hidS (Sof (th θ p) α) H) (hidS (Sof θ α) H) := by
  have hx : Ex (hidS (Sof (th θ p) α) H) (hidS (Sof θ α) H) := fun b o q => by
    unfold hidS at q ⊢
    split at q
    · cases q
    · rename_i h
      rw [if_neg (fun z => h (Sof_th.mpr (.inl z)))]
      exact q
  exact ⟨⟨r.len, r.inj, fun i a h z => r.ap i a h (.inl z), fun b h => r.lv b (.inl h), r.dom, r.pin, r.tbF h1, fun i s h => (r.sl i s h).re rfl hx fun _ _ _ e => e⟩, hx⟩
theorem dFE {e : Expr} {w : WA} (h : PE X e (cF K W w)) : PE X e (cE K W (wFE w)) := peI h fun σ H Q ⟨θ, π, α, ρ, R, E, hR, hw, hq, he⟩ => by
  refine ⟨θ, π, α, ρ, _, E, hR, hw, fun α1 p vs H1 ds ρ1 R1 s1 np h1 p1 w1 => ?_, he⟩
  obtain ⟨R2, hx⟩ := R1.unhide np h1
  have hnp : ¬ Sof θ α1 p := fun z => by
    rcases z with z | ⟨i, z⟩
    · exact np z
    · exact R1.ap i p z (.inr rfl)
  exact hq α1 (.ref p) H1 _ ρ1 R2 ⟨s1.1.trans hx, s1.2⟩ (.lst (.inl (.inl (by rw [hidS_in hnp]; exact h1))) (dpA_mono hx p1)) w1
theorem can_newl {w : WA} {n : Nat} {t : TA} (hc : ∀ σ H Q, cA K W n w σ H Q → t σ H Q) (hn : n ≤ sizeLine) (σ : L2.St) (H : Hp) (Q : VK) : cF K W w σ H Q → tLst t σ H Q := by
  rintro ⟨θ, π, α, ρ, R, E, hR, hw, hq, he⟩
  refine hc _ _ _ ⟨θ, π, α, ρ, R, E, hR, hw, fun α2 vs H2 ds ρ2 R2 s2 p2 l2 w2 => ?_, he⟩
  refine ⟨by rw [dpA_len p2, l2]; exact hn, fun p hp => ?_⟩
  have e := hid_new (θ := θ) (α := α2) (o := .lst vs) hp
  exact hq α2 p vs _ ds ρ2 (R2.hideNew hp) ⟨by rw [e]; exact s2.1, fun b hb => (s2.2 b hb).trans ((R2.stpNew hp).2 b hb)⟩ (fun z => R2.lv p z hp) upd_same (by rw [e]; exact p2) w2
theorem dLst {es : List Expr} {n : Nat} {pos : Pos} {wa : WA} (h : PA X es (cA K W n wa)) (hn : n ≤ sizeLine := by decide) : PE X (.List es pos) (cF K W wa) :=
  peI (pe_lst h) (can_newl (fun _ _ _ q => q) hn)
/-- an owned list leaves its slot -/
def wVF (j : Nat) : WA := fun ρ R E => match ρ[j]? with
  | some (.ow ds) => R ds (ρ.set j .no)
  | _ => False
theorem dVF {i : Nat} {x : Str} {pos : Pos} (h : PE X (.Name x pos) (tVar i)) : PE X (.Name x pos) (cF K W (wVF i)) := peI h fun σ H Q ⟨θ, π, α, ρ, R, E, hR, hw, hq, he⟩ => by
  unfold wVF at hw
  split at hw
  · rename_i ds e
    obtain ⟨a, vs, h1, h2, h3, h4, h5⟩ := hR.sl i _ e
    have hlt : i < ρ.length := (List.getElem?_eq_some_iff.mp e).1
    have hS : ∀ b, Sof (th θ a) (fun k => if k = i then none else α k) b ↔ Sof θ α b := fun b => by
      rw [Sof_th]
      constructor
      · rintro ((hb | ⟨k, hb⟩) | hb)
        · exact .inl hb
        · by_cases z : k = i
          · subst z; simp at hb
          · exact .inr ⟨k, by simpa [z] using hb⟩
        · subst hb; exact .inr ⟨i, h1⟩
      · rintro (hb | ⟨k, hb⟩)
        · exact .inl (.inl hb)
        · by_cases z : k = i
          · subst z; rw [h1] at hb; cases hb; exact .inr rfl
          · exact .inl (.inr ⟨k, by simpa [z] using hb⟩)
    have hh : hidS (Sof (th θ a) (fun k => if k = i then none else α k)) H = hidS (Sof θ α) H := by
      have : Sof (th θ a) (fun k => if k = i then none else α k) = Sof θ α := by funext b; exact propext (hS b)
      rw [this]
    refine ⟨.ref a, h3, hq (fun k => if k = i then none else α k) a vs H ds _ ⟨by simpa using hR.len, fun k l b q1 q2 => ?_, fun k b q z => ?_, fun b z => ?_, fun k b q => ?_, fun k b q => ?_, fun b h => ⟨.inl (hR.tb b h).1, (hR.tb b h).2⟩, fun k s q => ?_⟩ ⟨by rw [hh]; exact Ex.refl _, fun _ _ => FrO.refl _⟩ (hR.ap i a h1) h4 (by rw [hh]; exact h5) hw⟩
    · by_cases e1 : k = i
      · subst e1; simp at q1
      · by_cases e2 : l = i
        · subst e2; simp at q2
        · exact hR.inj k l b (by simpa [e1] using q1) (by simpa [e2] using q2)
    · by_cases e1 : k = i
      · subst e1; simp at q
      · rcases z with z | z
        · exact hR.ap k b (by simpa [e1] using q) z
        · subst z; exact e1 (hR.inj k i b (by simpa [e1] using q) h1)
    · rcases z with z | z
      · exact hR.lv b z
      · subst z; rw [h4]; intro z; cases z
    · by_cases e1 : k = i
      · subst e1; simp at q
      · obtain ⟨s, z1, z2⟩ := hR.dom k b (by simpa [e1] using q)
        exact ⟨s, by rw [List.getElem?_set_ne (Ne.symm e1)]; exact z1, z2⟩
    · have e1 : k ≠ i := fun z => by subst z; rw [h2] at q; cases q
      obtain ⟨es, z⟩ := hR.pin k b q
      exact ⟨es, by rw [List.getElem?_set_ne (Ne.symm e1)]; exact z⟩
    · by_cases e1 : k = i
      · subst e1
        rw [List.getElem?_set_self hlt] at q
        cases q
        trivial
      · rw [List.getElem?_set_ne (Ne.symm e1)] at q
        exact (hR.sl k s q).re (by simp [e1]) (by rw [hh]; exact Ex.refl _) fun _ _ _ z => z
  · exact hw.elim

/-! stores -/
def asgV (i : Nat) (s : Sl) (ρ : En) (k : En → Prop) : Prop := match ρ[i]? with
  | some (.io _) => False
  | none => False
  | _ => k (ρ.set i s)
/-- slot i gets a new value -/
theorem Rel.put {i : Nat} {v : V} {d : D} (r : Rel K θ π α σ H ρ) (hi : i < ρ.length) (hn : ∀ ds, ρ[i]? ≠ some (.io ds)) (hd : Dp K (hidS (Sof θ α) H) v d) :
    ∃ α', Rel K θ π α' (σ.set i (some v)) H (ρ.set i (.va d)) ∧ Stp θ α H α' H := by
  have hπ : π i = none := by
    cases q : π i with
    | none => rfl
    | some a => obtain ⟨ds, z⟩ := r.pin i a q; exact absurd z (hn ds)
  have hx : Ex (hidS (Sof θ α) H) (hidS (Sof θ (fun k => if k = i then none else α k)) H) := fun b o q => by
    unfold hidS at q ⊢
    split at q
    · cases q
    · rename_i hh
      rw [if_neg]
      · exact q
      · rintro (z | ⟨k, z⟩)
        · exact hh (.inl z)
        · by_cases e : k = i
          · subst e; simp at z
          · exact hh (.inr ⟨k, by simpa [e] using z⟩)
  refine ⟨fun k => if k = i then none else α k, ⟨by simpa using r.len, fun k l b q1 q2 => ?_, fun k b q => ?_, r.lv, fun k b q => ?_, fun k b q => ?_, r.tb, fun k s q => ?_⟩, ⟨hx, fun _ _ => FrO.refl _⟩⟩
  · by_cases e1 : k = i
    · subst e1; simp at q1
    · by_cases e2 : l = i
      · subst e2; simp at q2
      · exact r.inj k l b (by simpa [e1] using q1) (by simpa [e2] using q2)
  · by_cases e1 : k = i
    · subst e1; simp at q
    · exact r.ap k b (by simpa [e1] using q)
  · by_cases e1 : k = i
    · subst e1; simp at q
    · obtain ⟨s, z1, z2⟩ := r.dom k b (by simpa [e1] using q)
      exact ⟨s, by rw [List.getElem?_set_ne (Ne.symm e1)]; exact z1, z2⟩
  · have e1 : k ≠ i := fun z => by subst z; rw [hπ] at q; cases q
    obtain ⟨es, z⟩ := r.pin k b q
    exact ⟨es, by rw [List.getElem?_set_ne (Ne.symm e1)]; exact z⟩
  · by_cases e1 : k = i
    · subst e1
      rw [List.getElem?_set_self hi] at q
      cases q
      exact ⟨v, List.getElem?_set_self (by rw [← r.len]; exact hi), dp_mono hx hd⟩
    · rw [List.getElem?_set_ne (Ne.symm e1)] at q
      have z := (r.sl k s q).re (θ' := θ) (α' := fun k => if k = i then none else α k) (H' := H) (by simp [e1]) hx fun _ _ _ z => z
      have es : (σ.set i (some v))[k]? = σ[k]? := List.getElem?_set_ne (Ne.symm e1)
      cases s with
      | no => trivial
      | va d => obtain ⟨w, z1, z2⟩ := z; exact ⟨w, es.trans z1, z2⟩
      | ow ds => obtain ⟨a, vs, z1, z2, z3, z4⟩ := z; exact ⟨a, vs, z1, z2, es.trans z3, z4⟩
      | io ds => obtain ⟨a, vs, z1, z2, z3, z4⟩ := z; exact ⟨a, vs, z1, z2, es.trans z3, z4⟩
      | ex a => exact es.trans z
theorem asgV_of {i : Nat} {s : Sl} {k : En → Prop} (h : asgV i s ρ k) : i < ρ.length ∧ (∀ ds, ρ[i]? ≠ some (.io ds)) ∧ k (ρ.set i s) := by
  unfold asgV at h
  split at h
  · exact h.elim
  · exact h.elim
  · rename_i h1 h2
    refine ⟨?_, fun ds z => h1 ds z, h⟩
    cases q : ρ[i]? with
    | none => exact absurd q h2
    | some s => exact (List.getElem?_eq_some_iff.mp q).1
def wgName (i : Nat) : WG := fun d ρ R _ => asgV i (.va d) ρ R
theorem can_gname {i : Nat} (v : V) (σ : L2.St) (H : Hp) (Q : L2.St → Hp → Prop) : cG K W (wgName i) v σ H Q → gName i v σ H Q := by
  rintro ⟨θ, π, α, ρ, d, R, E, hR, hd, hw, hq, he⟩
  obtain ⟨h1, h2, h3⟩ := asgV_of hw
  obtain ⟨α', r, s⟩ := hR.put h1 h2 hd
  exact hq α' _ H _ r s h3
theorem dgName {i : Nat} {x : Str} {pos : Pos} (h : PG X (.Name x pos) (gName i)) : PG X (.Name x pos) (cG K W (wgName i)) := pgI h can_gname
/-- several names from a list of values -/
def asgAll : List Nat → List D → En → (En → Prop) → Prop
  | [], [], ρ, k => k ρ
  | i :: is, d :: ds, ρ, k => asgV i (.va d) ρ fun ρ' => asgAll is ds ρ' k
  | _, _, _, _ => False
def gNames : List Nat → TGs
  | [] => gNil
  | i :: is => gCons (gName i) (gNames is)
theorem can_names : ∀ (is : List Nat) {θ : Addr → Prop} {π α : Nat → Option Addr} {ρ : En} {ds : List D} {k : En → Prop} (vs : List V) (σ : L2.St) (H : Hp) (Q : L2.St → Hp → Prop), Rel K θ π α σ H ρ → DpAll K (hidS (Sof θ α) H) vs ds → asgAll is ds ρ k →
    (∀ α' σ' ρ', Rel K θ π α' σ' H ρ' → Stp θ α H α' H → k ρ' → Q σ' H) → gNames is vs σ H Q
  | [], _, _, _, _, [], _, vs, σ, H, Q, r, hd, h, q => by
    cases hd
    exact ⟨rfl, q _ _ _ r (Stp.refl ..) h⟩
  | [], _, _, _, _, _ :: _, _, vs, σ, H, Q, r, hd, h, q => h.elim
  | _ :: _, _, _, _, _, [], _, vs, σ, H, Q, r, hd, h, q => h.elim
  | i :: is, θ, π, α, ρ, d :: ds, k, vs, σ, H, Q, r, hd, h, q => by
    cases hd with
    | cons h1 hs =>
      obtain ⟨a1, a2, a3⟩ := asgV_of h
      obtain ⟨α', r', s'⟩ := r.put a1 a2 h1
      refine ⟨_, _, rfl, ?_⟩
      exact can_names is _ _ H Q r' (dpA_mono s'.1 hs) a3 fun α2 σ2 ρ2 r2 s2 k2 => q α2 σ2 ρ2 r2 (s'.trans s2) k2
def wgTup (is : List Nat) : WG := fun d ρ R _ => ∃ ds, d = .tuple ds ∧ asgAll is ds ρ R
def wgLst (is : List Nat) : WG := fun d ρ R _ => ∃ ds, d = .list ds ∧ asgAll is ds ρ R
theorem asgAll_len : ∀ {is : List Nat} {ds : List D} {ρ : En} {k : En → Prop}, asgAll is ds ρ k → ds.length = is.length
  | [], [], _, _, _ => rfl
  | [], _ :: _, _, _, h => h.elim
  | _ :: _, [], _, _, h => h.elim
  | i :: is, d :: ds, ρ, k, h => by
    obtain ⟨_, _, a3⟩ := asgV_of h
    simp [asgAll_len a3]
theorem dgTup {is : List Nat} {e : Expr} {n : Nat} (h : PG X e (gTup K n (gNames is))) (hn : is.length = n := by rfl) : PG X e (cG K W (wgTup is)) := pgI h fun v σ H Q => by
  rintro ⟨θ, π, α, ρ, d, R, E, hR, hd, hw, hq, he⟩
  obtain ⟨ds, rfl, hw⟩ := hw
  cases hd with
  | tup h1 hs => exact ⟨_, _, rfl, ex_t hidS_ex h1, by rw [dpA_len hs, asgAll_len hw, hn], can_names is _ σ H Q hR hs hw fun α' σ' ρ' r s k => hq α' σ' H ρ' r s k⟩
theorem dgLst {is : List Nat} {e : Expr} {n : Nat} (h : PG X e (gLst K n (gNames is))) (hn : is.length = n := by rfl) : PG X e (cG K W (wgLst is)) := pgI h fun v σ H Q => by
  rintro ⟨θ, π, α, ρ, d, R, E, hR, hd, hw, hq, he⟩
  obtain ⟨ds, rfl, hw⟩ := hw
  cases hd with
  | lst h1 hs => exact ⟨_, _, rfl, ex_l hidS_ex h1, by rw [dpA_len hs, asgAll_len hw, hn], can_names is _ σ H Q hR hs hw fun α' σ' ρ' r s k => hq α' σ' H ρ' r s k⟩
end
end Den

namespace Den
variable [Tbs]
open PySem L2 Evl PySem.Spec PyProof.Rows
open Classical

section
variable {K : PySem.W.Frag} {W : WX} {X : Cx} {θ : Addr → Prop} {π α : Nat → Option Addr} {σ : L2.St} {H : Hp} {ρ : En} {p : Addr} {o : HO}

/-! statements -/
def wNext : WS := fun B ρ => B.nx ρ
def wSeq (a b : WS) : WS := fun B ρ => a { B with nx := b B } ρ
def wSet (i : Nat) (w : WE) : WS := fun B ρ => w ρ (fun d ρ' => asgV i (.va d) ρ' B.nx) B.rs
def wSetO (i : Nat) (w : WA) : WS := fun B ρ => w ρ (fun ds ρ' => asgV i (.ow ds) ρ' B.nx) B.rs
def wAsg (w : WE) (g : WG) : WS := fun B ρ => w ρ (fun d ρ' => g d ρ' B.nx B.rs) B.rs
def wRet (w : WE) : WS := fun B ρ => w ρ B.rt B.rs
def wRetN : WS := fun B ρ => B.rt .none ρ
def wDrop (w : WE) : WS := fun B ρ => w ρ (fun _ ρ' => B.nx ρ') B.rs
def wIfS (t : WT) (a b : WS) : WS := fun B ρ => t ρ (fun c ρ' => if c = true then a B ρ' else b B ρ') B.rs
def wBreak : WS := fun B ρ => B.bk ρ
def wCont : WS := fun B ρ => B.ct ρ
def wRaise (c : Addr) : WS := fun B ρ => B.rs c ρ

theorem dsNil : PSs X [] (cS K W wNext) := pssI pss_nil fun D σ H ⟨θ, π, α, ρ, B, hR, hw, hf⟩ => hf.nx α σ H ρ hR (Stp.refl ..) hw
theorem dsCons {s : Stmt} {rest : List Stmt} {a b : WS} (h1 : PS X s (cS K W a)) (h2 : PSs X rest (cS K W b)) : PSs X (s :: rest) (cS K W (wSeq a b)) := pssI (pss_cons h1 h2) fun D σ H ⟨θ, π, α, ρ, B, hR, hw, hf⟩ =>
  ⟨θ, π, α, ρ, _, hR, hw, ⟨fun α' σ' H' ρ' r s q => ⟨θ, π, α', ρ', B, r, q, hf.step s⟩, hf.bk, hf.ct, hf.rt, hf.rf, hf.rs⟩⟩
theorem dsOne {s : Stmt} {a : WS} (h1 : PS X s (cS K W a)) : PSs X [s] (cS K W a) := pss_one h1
theorem dPass {pos : Pos} : PS X (.Pass pos) (cS K W wNext) := psI ps_pass fun D σ H ⟨θ, π, α, ρ, B, hR, hw, hf⟩ => hf.nx α σ H ρ hR (Stp.refl ..) hw
theorem dBreak {pos : Pos} : PS X (.Break pos) (cS K W wBreak) := psI ps_break fun D σ H ⟨θ, π, α, ρ, B, hR, hw, hf⟩ => hf.bk α σ H ρ hR (Stp.refl ..) hw
theorem dCont {pos : Pos} : PS X (.Continue pos) (cS K W wCont) := psI ps_continue fun D σ H ⟨θ, π, α, ρ, B, hR, hw, hf⟩ => hf.ct α σ H ρ hR (Stp.refl ..) hw
theorem dSet {i : Nat} {s : Stmt} {w : WE} (h : PS X s (tAsg (cE K W w) (gName i))) : PS X s (cS K W (wSet i w)) := psI h fun D σ H ⟨θ, π, α, ρ, B, hR, hw, hf⟩ =>
  ⟨θ, π, α, ρ, _, _, hR, hw, fun α1 v H1 d ρ1 R1 s1 p1 w1 => by
    obtain ⟨a1, a2, a3⟩ := asgV_of w1
    obtain ⟨α', r, s⟩ := R1.put a1 a2 p1
    exact hf.nx α' _ H1 _ r (s1.trans s) a3, hf.exi⟩
theorem dAsg {s : Stmt} {w : WE} {g : WG} (h : PS X s (tAsg (cE K W w) (cG K W g))) : PS X s (cS K W (wAsg w g)) := psI h fun D σ H ⟨θ, π, α, ρ, B, hR, hw, hf⟩ =>
  ⟨θ, π, α, ρ, _, _, hR, hw, fun α1 v H1 d ρ1 R1 s1 p1 w1 =>
    ⟨θ, π, α1, ρ1, d, _, _, R1, p1, w1, fun α2 σ2 H2 ρ2 R2 s2 w2 => hf.nx α2 σ2 H2 ρ2 R2 (s1.trans s2) w2, hf.exi.step s1⟩, hf.exi⟩
/-- a slot gets a new list of its own -/
theorem Rel.own {i : Nat} {vs : List V} {ds : List D} (r : Rel K (th θ p) π α σ H ρ) (np : ¬ θ p) (h : H p = some (.lst vs)) (hd : DpAll K (hidS (Sof (th θ p) α) H) vs ds) (hi : i < ρ.length) (hn : ∀ ds, ρ[i]? ≠ some (.io ds)) :
    ∃ α', Rel K θ π α' (σ.set i (some (.ref p))) H (ρ.set i (.ow ds)) ∧ Ex (hidS (Sof (th θ p) α) H) (hidS (Sof θ α') H) := by
  have hπ : π i = none := by
    cases q : π i with
    | none => rfl
    | some a => obtain ⟨ds, z⟩ := r.pin i a q; exact absurd z (hn ds)
  have hx : Ex (hidS (Sof (th θ p) α) H) (hidS (Sof θ (fun k => if k = i then some p else α k)) H) := fun b o q => by
    unfold hidS at q ⊢
    split at q
    · cases q
    · rename_i hh
      rw [if_neg]
      · exact q
      · rintro (z | ⟨k, z⟩)
        · exact hh (.inl (.inl z))
        · by_cases e : k = i
          · subst e; simp at z; exact hh (Sof_th.mpr (.inr z.symm))
          · exact hh (.inr ⟨k, by simpa [e] using z⟩)
  refine ⟨fun k => if k = i then some p else α k, ⟨by simpa using r.len, fun k l b q1 q2 => ?_, fun k b q => ?_, fun b z => r.lv b (.inl z), fun k b q => ?_, fun k b q => ?_, r.tbF h, fun k s q => ?_⟩, hx⟩
  · by_cases e1 : k = i
    · by_cases e2 : l = i
      · rw [e1, e2]
      · subst e1
        simp at q1
        subst q1
        exact absurd (Or.inr rfl) (r.ap l p (by simpa [e2] using q2))
    · by_cases e2 : l = i
      · subst e2
        simp at q2
        subst q2
        exact absurd (Or.inr rfl) (r.ap k p (by simpa [e1] using q1))
      · exact r.inj k l b (by simpa [e1] using q1) (by simpa [e2] using q2)
  · by_cases e1 : k = i
    · subst e1; simp at q; subst q; exact np
    · exact fun z => r.ap k b (by simpa [e1] using q) (.inl z)
  · by_cases e1 : k = i
    · subst e1; exact ⟨_, List.getElem?_set_self hi, trivial⟩
    · obtain ⟨s, z1, z2⟩ := r.dom k b (by simpa [e1] using q)
      exact ⟨s, by rw [List.getElem?_set_ne (Ne.symm e1)]; exact z1, z2⟩
  · have e1 : k ≠ i := fun z => by subst z; rw [hπ] at q; cases q
    obtain ⟨es, z⟩ := r.pin k b q
    exact ⟨es, by rw [List.getElem?_set_ne (Ne.symm e1)]; exact z⟩
  · by_cases e1 : k = i
    · subst e1
      rw [List.getElem?_set_self hi] at q
      cases q
      exact ⟨p, vs, by simp, hπ, List.getElem?_set_self (by rw [← r.len]; exact hi), h, dpA_mono hx hd⟩
    · rw [List.getElem?_set_ne (Ne.symm e1)] at q
      have z := (r.sl k s q).re (θ' := θ) (α' := fun k => if k = i then some p else α k) (H' := H) (by simp [e1]) hx fun _ _ _ z => z
      have es : (σ.set i (some (V.ref p)))[k]? = σ[k]? := List.getElem?_set_ne (Ne.symm e1)
      cases s with
      | no => trivial
      | va d => obtain ⟨w, z1, z2⟩ := z; exact ⟨w, es.trans z1, z2⟩
      | ow ds => obtain ⟨a, vs, z1, z2, z3, z4⟩ := z; exact ⟨a, vs, z1, z2, es.trans z3, z4⟩
      | io ds => obtain ⟨a, vs, z1, z2, z3, z4⟩ := z; exact ⟨a, vs, z1, z2, es.trans z3, z4⟩
      | ex a => exact es.trans z
theorem dSetO {i : Nat} {s : Stmt} {w : WA} (h : PS X s (tAsg (cF K W w) (gName i))) : PS X s (cS K W (wSetO i w)) := psI h fun D σ H ⟨θ, π, α, ρ, B, hR, hw, hf⟩ =>
  ⟨θ, π, α, ρ, _, _, hR, hw, fun α1 p vs H1 ds ρ1 R1 s1 np h1 p1 w1 => by
    obtain ⟨a1, a2, a3⟩ := asgV_of w1
    obtain ⟨α', r, s⟩ := R1.own np h1 p1 a1 a2
    exact hf.nx α' _ H1 _ r ⟨s1.1.trans s, s1.2⟩ a3, hf.exi⟩
theorem dRet {s : Stmt} {w : WE} (h : PS X s (tRet (cE K W w))) : PS X s (cS K W (wRet w)) := psI h fun D σ H ⟨θ, π, α, ρ, B, hR, hw, hf⟩ =>
  ⟨θ, π, α, ρ, _, _, hR, hw, fun α1 v H1 d ρ1 R1 s1 p1 w1 => hf.rt α1 σ H1 v d ρ1 R1 s1 p1 w1, hf.exi⟩
def wRetF (w : WA) : WS := fun B ρ => w ρ B.rf B.rs
theorem dRetF {s : Stmt} {w : WA} (h : PS X s (tRet (cF K W w))) : PS X s (cS K W (wRetF w)) := psI h fun D σ H ⟨θ, π, α, ρ, B, hR, hw, hf⟩ =>
  ⟨θ, π, α, ρ, _, _, hR, hw, fun α1 p vs H1 ds ρ1 R1 s1 np h1 p1 w1 => hf.rf α1 σ p vs H1 ds ρ1 R1 s1 np h1 p1 w1, hf.exi⟩
theorem dDrop {s : Stmt} {w : WE} (h : PS X s (tDrop (cE K W w))) : PS X s (cS K W (wDrop w)) := psI h fun D σ H ⟨θ, π, α, ρ, B, hR, hw, hf⟩ =>
  ⟨θ, π, α, ρ, _, _, hR, hw, fun α1 v H1 d ρ1 R1 s1 p1 w1 => hf.nx α1 σ H1 ρ1 R1 s1 w1, hf.exi⟩
theorem dIfS {s : Stmt} {t : WT} {a b : WS} (h : PS X s (tIfS (cT K W t) (cS K W a) (cS K W b))) : PS X s (cS K W (wIfS t a b)) := psI h fun D σ H ⟨θ, π, α, ρ, B, hR, hw, hf⟩ =>
  ⟨θ, π, α, ρ, _, _, hR, hw, fun α1 H1 c ρ1 R1 s1 w1 => by
    cases c with
    | true => rw [if_pos rfl] at w1 ⊢; exact ⟨θ, π, α1, ρ1, B, R1, w1, hf.step s1⟩
    | false => rw [if_neg Bool.false_ne_true] at w1 ⊢; exact ⟨θ, π, α1, ρ1, B, R1, w1, hf.step s1⟩, hf.exi⟩
theorem dRaise {s : Stmt} {c : Addr} (h : PS X s (fun _ σ H => W (.ref c) none σ H)) : PS X s (cS K W (wRaise c)) := psI h fun D σ H ⟨θ, π, α, ρ, B, hR, hw, hf⟩ => hf.rs α σ H c ρ hR (Stp.refl ..) hw

/-! lists in their slots, changed -/
/-- what an owned slot holds -/
def ownd (ρ : En) (j : Nat) (k : List D → (List D → En) → Prop) : Prop := match ρ[j]? with
  | some (.ow ds) => k ds fun es => ρ.set j (.ow es)
  | some (.io ds) => k ds fun es => ρ.set j (.io es)
  | _ => False
theorem Rel.change {j : Nat} {k : List D → (List D → En) → Prop} (r : Rel K θ π α σ H ρ) (h : ownd ρ j k) : ∃ a vs ds f, σ[j]? = some (some (.ref a)) ∧ H a = some (.lst vs) ∧ DpAll K (hidS (Sof θ α) H) vs ds ∧ k ds f ∧
    ∀ vs' es, DpAll K (hidS (Sof θ α) H) vs' es → Rel K θ π α σ (upd H a (.lst vs')) (f es) ∧ Stp θ α H α (upd H a (.lst vs')) := by
  have key : ∀ (io : Bool) (a : Addr) (vs : List V) (ds : List D), α j = some a → j < ρ.length → H a = some (.lst vs) → (io = false → π j = none ∧ ρ[j]? = some (.ow ds)) → (io = true → π j = some a ∧ ρ[j]? = some (.io ds)) → σ[j]? = some (some (.ref a)) →
      ∀ vs' es, DpAll K (hidS (Sof θ α) H) vs' es → Rel K θ π α σ (upd H a (.lst vs')) (ρ.set j (if io then .io es else .ow es)) ∧ Stp θ α H α (upd H a (.lst vs')) := by
    intro io a vs ds ha hj h1 hio0 hio1 hs vs' es hd
    have hS : Sof θ α a := .inr ⟨j, ha⟩
    have hh : hidS (Sof θ α) (upd H a (.lst vs')) = hidS (Sof θ α) H := by
      funext b
      unfold hidS
      by_cases z : Sof θ α b
      · rw [if_pos z, if_pos z]
      · rw [if_neg z, if_neg z, upd_ne (fun q => by subst q; exact z hS)]
    refine ⟨⟨by simpa using r.len, r.inj, r.ap, fun b z => ?_, fun k b q => ?_, fun k b q => ?_, fun b z => ⟨(r.tb b z).1, by rw [upd_ne (fun q => by subst q; exact r.ap j b ha (r.tb b z).1)]; exact (r.tb b z).2⟩, fun k s q => ?_⟩, ⟨by rw [hh]; exact Ex.refl _, fun b z => .inl (upd_ne (fun q => by subst q; exact r.ap j b ha z))⟩⟩
    · rw [upd_ne (fun q => by subst q; exact r.ap j b ha z)]; exact r.lv b z
    · by_cases e1 : k = j
      · subst e1; exact ⟨_, List.getElem?_set_self hj, by cases io <;> trivial⟩
      · obtain ⟨s, z1, z2⟩ := r.dom k b q
        exact ⟨s, by rw [List.getElem?_set_ne (Ne.symm e1)]; exact z1, z2⟩
    · by_cases e1 : k = j
      · subst e1
        cases io with
        | false => rw [(hio0 rfl).1] at q; cases q
        | true => exact ⟨es, by rw [List.getElem?_set_self hj]; rfl⟩
      · obtain ⟨s, z1⟩ := r.pin k b q
        exact ⟨s, by rw [List.getElem?_set_ne (Ne.symm e1)]; exact z1⟩
    · by_cases e1 : k = j
      · subst e1
        rw [List.getElem?_set_self hj] at q
        cases q
        cases io with
        | false => exact ⟨a, vs', ha, (hio0 rfl).1, hs, upd_same, by rw [hh]; exact hd⟩
        | true => exact ⟨a, vs', ha, (hio1 rfl).1, hs, upd_same, by rw [hh]; exact hd⟩
      · rw [List.getElem?_set_ne (Ne.symm e1)] at q
        exact (r.sl k s q).re rfl (by rw [hh]; exact Ex.refl _) fun b ws hb z => by
          rw [upd_ne (fun q => by subst q; exact e1 (r.inj k j b hb ha))]; exact z
  unfold Den.ownd at h
  split at h
  · rename_i ds e
    obtain ⟨a, vs, h1, h2, h3, h4, h5⟩ := r.sl j _ e
    exact ⟨a, vs, ds, _, h3, h4, h5, h, fun vs' es hd => key false a vs ds h1 (List.getElem?_eq_some_iff.mp e).1 h4 (fun _ => ⟨h2, e⟩) (fun z => by cases z) h3 vs' es hd⟩
  · rename_i ds e
    obtain ⟨a, vs, h1, h2, h3, h4, h5⟩ := r.sl j _ e
    exact ⟨a, vs, ds, _, h3, h4, h5, h, fun vs' es hd => key true a vs ds h1 (List.getElem?_eq_some_iff.mp e).1 h4 (fun z => by cases z) (fun _ => ⟨h2, e⟩) h3 vs' es hd⟩
  · exact h.elim
/-- xs.append(e) -/
def wApp (j : Nat) (w : WE) : WS := fun B ρ => (∃ k, ownd ρ j k) ∧ w ρ (fun d ρ' => ownd ρ' j fun ds f => ds.length < sizeLine ∧ B.nx (f (ds ++ [d]))) B.rs
theorem dApp {j : Nat} {s : Stmt} {w : WE} (h : PS X s (tDrop (tBM K "list" rAppend (tVar j) (tCons (cE K W w) tNil)))) : PS X s (cS K W (wApp j w)) := psI h fun D σ H ⟨θ, π, α, ρ, B, hR, hw, hf⟩ => by
  obtain ⟨⟨k0, hk0⟩, hw⟩ := hw
  obtain ⟨a0, vs0, ds0, f0, hs0, h0, _, _, _⟩ := hR.change hk0
  refine ⟨.ref a0, hs0, .inl ⟨rfl, vs0, .inl (.inl h0)⟩, θ, π, α, ρ, _, _, hR, hw, fun α1 v H1 d ρ1 R1 s1 p1 w1 => ?_, hf.exi⟩
  obtain ⟨a, vs, ds, f, hs, h1, hd, ⟨hl, hn⟩, hc⟩ := R1.change w1
  rw [hs0] at hs
  cases hs
  obtain ⟨r2, s2⟩ := hc (vs ++ [v]) (ds ++ [d]) (dpA_app hd (.cons p1 .nil))
  exact ⟨a0, vs, v, rfl, rfl, h1, by rw [dpA_len hd]; exact hl, hf.nx α1 σ _ _ r2 (s1.trans s2) hn⟩
/-- xs[i] = e -/
def wPut (j : Nat) (w : WE) (wi : WL) : WS := fun B ρ => w ρ (fun d ρ1 => (∃ k, ownd ρ1 j k) ∧ wi ρ1 (fun L ρ2 => ∃ (z : Int), L ρ2 (.int z) ∧ ownd ρ2 j fun ds f => ∃ m, ixN ds.length z = some m ∧ B.nx (f (ds.set m d))) B.rs) B.rs
theorem dPut {j : Nat} {s : Stmt} {w : WE} {wi : WL} (h : PS X s (tAsg (cE K W w) (gSub (tVar j) (cL K W wi) rSetL))) : PS X s (cS K W (wPut j w wi)) := psI h fun D σ H ⟨θ, π, α, ρ, B, hR, hw, hf⟩ => by
  refine ⟨θ, π, α, ρ, _, _, hR, hw, fun α1 v H1 d ρ1 R1 s1 p1 w1 => ?_, hf.exi⟩
  obtain ⟨⟨k0, hk0⟩, w1⟩ := w1
  obtain ⟨a0, vs0, ds0, f0, hs0, h0, _, _, _⟩ := R1.change hk0
  refine ⟨.ref a0, hs0, θ, π, α1, ρ1, _, _, R1, w1, fun α2 u H2 L ρ2 R2 s2 l2 w2 => ?_, hf.exi.step s1⟩
  obtain ⟨z, hz, w2⟩ := w2
  have ez := (l2 α2 H2 ρ2 R2 (Stp.refl ..) _ hz).int
  subst ez
  obtain ⟨a, vs, ds, f, hs, h1, hd, ⟨m, hm, hn⟩, hc⟩ := R2.change w2
  rw [hs0] at hs
  cases hs
  obtain ⟨r3, s3⟩ := hc (vs.set m v) (ds.set m d) (dpA_set (dp_mono s2.1 p1) m hd)
  exact ⟨a0, vs, z, m, rfl, rfl, h1, by rw [dpA_len hd]; exact hm, hf.nx α2 σ _ _ r3 ((s1.trans s2).trans s3) hn⟩
/-- a, b, c = a list's items, a tuple's (read, not kept) -/
def wUnp (is : List Nat) (w : WL) : WS := fun B ρ => w ρ (fun L ρ1 => ∃ ds, L ρ1 (.list ds) ∧ asgAll is ds ρ1 B.nx) B.rs
def wUnpT (is : List Nat) (w : WL) : WS := fun B ρ => w ρ (fun L ρ1 => ∃ ds, L ρ1 (.tuple ds) ∧ asgAll is ds ρ1 B.nx) B.rs
theorem dUnp {is : List Nat} {s : Stmt} {w : WL} {n : Nat} (h : PS X s (tAsg (cL K W w) (gLst K n (gNames is)))) (hn : is.length = n := by rfl) : PS X s (cS K W (wUnp is w)) := psI h fun D σ H ⟨θ, π, α, ρ, B, hR, hw, hf⟩ => by
  refine ⟨θ, π, α, ρ, _, _, hR, hw, fun α1 v H1 L ρ1 R1 s1 l1 w1 => ?_, hf.exi⟩
  obtain ⟨ds, hl, w1⟩ := w1
  obtain ⟨a, vs, rfl, h1, hd⟩ := (l1 α1 H1 ρ1 R1 (Stp.refl ..) _ hl).lst
  exact ⟨a, vs, rfl, h1, by rw [dpA_len hd, asgAll_len w1, hn], can_names is vs σ H1 _ R1 hd w1 fun α' σ' ρ' r s k => hf.nx α' σ' H1 ρ' r (s1.trans s) k⟩
theorem dUnpT {is : List Nat} {s : Stmt} {w : WL} {n : Nat} (h : PS X s (tAsg (cL K W w) (gTup K n (gNames is)))) (hn : is.length = n := by rfl) : PS X s (cS K W (wUnpT is w)) := psI h fun D σ H ⟨θ, π, α, ρ, B, hR, hw, hf⟩ => by
  refine ⟨θ, π, α, ρ, _, _, hR, hw, fun α1 v H1 L ρ1 R1 s1 l1 w1 => ?_, hf.exi⟩
  obtain ⟨ds, hl, w1⟩ := w1
  obtain ⟨a, vs, rfl, h1, hd⟩ := (l1 α1 H1 ρ1 R1 (Stp.refl ..) _ hl).tup
  exact ⟨a, vs, rfl, h1, by rw [dpA_len hd, asgAll_len w1, hn], can_names is vs σ H1 _ R1 hd w1 fun α' σ' ρ' r s k => hf.nx α' σ' H1 ρ' r (s1.trans s) k⟩

/-! what is walked -/
abbrev WI := En → (List D → En → Prop) → EC → Prop
def Walks (K : PySem.W.Frag) (J : It) (G : Hp) (ds : List D) : Prop := ∀ (S2 : Addr → Prop) (H2 : Hp) (i : Nat), Live S2 H2 → Ex G (hidS S2 H2) → (i = ds.length → J.stop i H2) ∧ ∀ d, ds[i]? = some d → J.go i H2 ∧ ∀ x H3, J.yld i H2 x H3 → Ex H2 H3 ∧ Dp K (hidS S2 H3) x d
def cI (K : PySem.W.Frag) (W : WX) (w : WI) : TI := fun σ H R' => ∃ θ π α ρ R E, Rel K θ π α σ H ρ ∧ w ρ R E ∧
  (∀ α' J H' ds ρ', Rel K θ π α' σ H' ρ' → Stp θ α H α' H' → Walks K J (hidS (Sof θ α') H') ds → R ds ρ' → R' J H') ∧ Exi K W θ π α σ H E
theorem walks_list {a : Addr} {G : Hp} {vs : List V} {ds : List D} (h : SqL K G a vs) (hd : DpAll K G vs ds) : Walks K (Itl K a) G ds := fun S2 H2 i hl hx => by
  have h2 : SqL K H2 a vs := ex_l (hx.trans hidS_ex) h
  refine ⟨fun e => ⟨vs, h2, by rw [dpA_len hd, e]; exact Nat.le_refl _⟩, fun d hi => ?_⟩
  obtain ⟨v, q1, q2⟩ := dpA_get hd hi
  refine ⟨⟨vs, v, h2, q1⟩, fun x H3 y => ?_⟩
  obtain ⟨e, y⟩ := y
  subst e
  have z := y vs h2
  rw [q1] at z
  cases z
  exact ⟨Ex.refl _, dp_mono hx q2⟩
theorem walks_tup {a : Addr} {G : Hp} {vs : List V} {ds : List D} (h : SqT K G a vs) (hd : DpAll K G vs ds) : Walks K (Itt K a) G ds := fun S2 H2 i hl hx => by
  have h2 : SqT K H2 a vs := ex_t (hx.trans hidS_ex) h
  refine ⟨fun e => ⟨vs, h2, by rw [dpA_len hd, e]; exact Nat.le_refl _⟩, fun d hi => ?_⟩
  obtain ⟨v, q1, q2⟩ := dpA_get hd hi
  refine ⟨⟨vs, v, h2, q1⟩, fun x H3 y => ?_⟩
  obtain ⟨e, y⟩ := y
  subst e
  have z := y vs h2
  rw [q1] at z
  cases z
  exact ⟨Ex.refl _, dp_mono hx q2⟩
def rng (lo : Int) (n : Nat) : List D := (List.range n).map fun k => .int (lo + (k : Nat))
theorem walks_rng {lo : Int} {n : Nat} {G : Hp} : Walks K (Itr lo n) G (rng lo n) := fun S2 H2 i hl hx => by
  refine ⟨fun e => ?_, fun d hi => ?_⟩
  · show n ≤ i
    rw [e]; simp [rng]
  · unfold rng at hi
    rw [List.getElem?_map] at hi
    cases q : (List.range n)[i]? with
    | none => rw [q] at hi; cases hi
    | some k =>
      rw [q] at hi
      cases hi
      obtain ⟨h1, h2⟩ := List.getElem?_eq_some_iff.mp q
      simp at h1 h2
      subst h2
      exact ⟨h1, fun x H3 ⟨e, y⟩ => by subst e y; exact ⟨Ex.refl _, .int _⟩⟩
/-- over a list, a tuple -/
def wiL (w : WE) : WI := fun ρ R E => w ρ (fun d ρ' => ∃ ds, d = .list ds ∧ R ds ρ') E
def wiT (w : WE) : WI := fun ρ R E => w ρ (fun d ρ' => ∃ ds, d = .tuple ds ∧ R ds ρ') E
/-- range(n), range(a, b) -/
def wiR1 (wa : WA) : WI := fun ρ R E => wa ρ (fun ds ρ' => ∃ n : Int, ds = [.int n] ∧ (-(2 ^ 62) ≤ n ∧ n < 2 ^ 62) ∧ R (rng 0 n.toNat) ρ') E
def wiR2 (wa : WA) : WI := fun ρ R E => wa ρ (fun ds ρ' => ∃ a b : Int, ds = [.int a, .int b] ∧ (-(2 ^ 62) ≤ a ∧ a < 2 ^ 62 ∧ -(2 ^ 62) ≤ b ∧ b < 2 ^ 62) ∧ R (rng a (b - a).toNat) ρ') E
theorem diL {tg e : Expr} {w : WE} (h : PI X tg e (iList K (cE K W w))) : PI X tg e (cI K W (wiL w)) := piI h fun σ H Q ⟨θ, π, α, ρ, R, E, hR, hw, hq, he⟩ =>
  ⟨θ, π, α, ρ, _, E, hR, hw, fun α1 v H1 d ρ1 R1 s1 p1 w1 => by
    obtain ⟨ds, rfl, w1⟩ := w1
    cases p1 with
    | lst h1 hs => exact ⟨_, rfl, ⟨_, ex_l hidS_ex h1⟩, hq α1 _ H1 ds ρ1 R1 s1 (walks_list h1 hs) w1⟩, he⟩
theorem diT {tg e : Expr} {w : WE} (h : PI X tg e (iTup K (cE K W w))) : PI X tg e (cI K W (wiT w)) := piI h fun σ H Q ⟨θ, π, α, ρ, R, E, hR, hw, hq, he⟩ =>
  ⟨θ, π, α, ρ, _, E, hR, hw, fun α1 v H1 d ρ1 R1 s1 p1 w1 => by
    obtain ⟨ds, rfl, w1⟩ := w1
    cases p1 with
    | tup h1 hs => exact ⟨_, rfl, ⟨_, ex_t hidS_ex h1⟩, hq α1 _ H1 ds ρ1 R1 s1 (walks_tup h1 hs) w1⟩, he⟩
theorem dp_int {v : V} {i : Int} (h : Dp K H v (.int i)) : v = .int i := by cases h; rfl
theorem diR1 {tg e : Expr} {n : Nat} {w : WA} (h : PI X tg e (iRng1 (cA K W n w))) : PI X tg e (cI K W (wiR1 w)) := piI h fun σ H Q ⟨θ, π, α, ρ, R, E, hR, hw, hq, he⟩ =>
  ⟨θ, π, α, ρ, _, E, hR, hw, fun α1 vs H1 ds ρ1 R1 s1 p1 l1 w1 => by
    obtain ⟨n, rfl, ⟨b1, b2⟩, w1⟩ := w1
    cases p1 with
    | cons h1 hs =>
      cases hs
      cases dp_int h1
      exact ⟨n, rfl, b1, b2, hq α1 _ H1 _ ρ1 R1 s1 walks_rng w1⟩, he⟩
theorem diR2 {tg e : Expr} {n : Nat} {w : WA} (h : PI X tg e (iRng2 (cA K W n w))) : PI X tg e (cI K W (wiR2 w)) := piI h fun σ H Q ⟨θ, π, α, ρ, R, E, hR, hw, hq, he⟩ =>
  ⟨θ, π, α, ρ, _, E, hR, hw, fun α1 vs H1 ds ρ1 R1 s1 p1 l1 w1 => by
    obtain ⟨a, b, rfl, bs, w1⟩ := w1
    cases p1 with
    | cons h1 hs =>
      cases hs with
      | cons h2 hs =>
        cases hs
        cases dp_int h1
        cases dp_int h2
        exact ⟨a, b, rfl, bs, hq α1 _ H1 _ ρ1 R1 s1 walks_rng w1⟩, he⟩

/-! loops -/
def wFor (wi : WI) (wg : WG) (wb : WS) : WS := fun B ρ => wi ρ (fun ds ρ1 => ∃ Inv : Nat → En → Prop, Inv 0 ρ1 ∧
  (∀ i d ρ', ds[i]? = some d → Inv i ρ' → wg d ρ' (fun ρ2 => wb { B with nx := Inv (i + 1), ct := Inv (i + 1), bk := B.nx } ρ2) B.rs) ∧ ∀ ρ', Inv ds.length ρ' → B.nx ρ') B.rs
theorem dFor {s : Stmt} {wi : WI} {wg : WG} {wb : WS} (h : PS X s (tFor (cI K W wi) (cG K W wg) (cS K W wb))) : PS X s (cS K W (wFor wi wg wb)) := psI h fun De σ H ⟨θ, π, α, ρ, B, hR, hw, hf⟩ => by
  refine ⟨θ, π, α, ρ, _, _, hR, hw, fun α1 J H1 ds ρ1 R1 s1 hJ w1 => ?_, hf.exi⟩
  obtain ⟨Inv, i0, step, fin⟩ := w1
  refine ⟨fun i m σ' H' => m = ds.length - i ∧ i ≤ ds.length ∧ ∃ α' ρ', Rel K θ π α' σ' H' ρ' ∧ Stp θ α1 H1 α' H' ∧ Inv i ρ', ⟨_, rfl, Nat.zero_le _, α1, ρ1, R1, Stp.refl .., i0⟩, ?_⟩
  rintro i m σ' H' ⟨rfl, hi, α', ρ', R', s', iv⟩
  obtain ⟨j1, j2⟩ := hJ _ H' i R'.live s'.1
  by_cases hlt : i < ds.length
  · obtain ⟨g1, g2⟩ := j2 ds[i] (by simp [hlt])
    refine .inr ⟨g1, fun σ2 H2 => ∃ α2 ρ2, Rel K θ π α2 σ2 H2 ρ2 ∧ Stp θ α1 H1 α2 H2 ∧ Inv (i + 1) ρ2, fun σ2 H2 ⟨α2, ρ2, r2, s2, v2⟩ => ⟨ds.length - (i + 1), by omega, rfl, hlt, α2, ρ2, r2, s2, v2⟩, fun x H3 y => ?_⟩
    obtain ⟨ex, dp⟩ := g2 x H3 y
    refine ⟨θ, π, α', ρ', ds[i], _, _, R'.ext ex, dp, step i ds[i] ρ' (by simp [hlt]) iv, fun α4 σ4 H4 ρ4 R4 s4 w4 => ?_, hf.exi.step ((s1.trans s').trans (R'.stp ex))⟩
    have s5 := (s'.trans (R'.stp ex)).trans s4
    refine ⟨θ, π, α4, ρ4, _, R4, w4, ⟨fun α6 σ6 H6 ρ6 R6 s6 w6 => ⟨α6, ρ6, R6, s5.trans s6, w6⟩, fun α6 σ6 H6 ρ6 R6 s6 w6 => hf.nx α6 σ6 H6 ρ6 R6 ((s1.trans s5).trans s6) w6, fun α6 σ6 H6 ρ6 R6 s6 w6 => ⟨α6, ρ6, R6, s5.trans s6, w6⟩, (hf.step (s1.trans s5)).rt, (hf.step (s1.trans s5)).rf, (hf.step (s1.trans s5)).rs⟩⟩
  · have e : i = ds.length := by omega
    refine .inl ⟨j1 e, hf.nx α' σ' H' ρ' R' (s1.trans s') (fin ρ' (by rw [← e]; exact iv))⟩
/-- a for, turn by turn -/
def forRun (wg : WG) (wb : WS) (B : Bx) : List D → En → Prop
  | [], ρ => B.nx ρ
  | d :: ds, ρ => wg d ρ (fun ρ2 => wb { B with nx := forRun wg wb B ds, ct := forRun wg wb B ds, bk := B.nx } ρ2) B.rs
theorem for_run {wg : WG} {wb : WS} {B : Bx} {ds : List D} {ρ : En} (h : forRun wg wb B ds ρ) : ∃ Inv : Nat → En → Prop, Inv 0 ρ ∧
    (∀ i d ρ', ds[i]? = some d → Inv i ρ' → wg d ρ' (fun ρ2 => wb { B with nx := Inv (i + 1), ct := Inv (i + 1), bk := B.nx } ρ2) B.rs) ∧ ∀ ρ', Inv ds.length ρ' → B.nx ρ' := by
  refine ⟨fun i => forRun wg wb B (ds.drop i), h, fun i d ρ' hi iv => ?_, fun ρ' iv => ?_⟩
  · obtain ⟨hlt, e⟩ := List.getElem?_eq_some_iff.mp hi
    dsimp only at iv
    rw [List.drop_eq_getElem_cons hlt, e] at iv
    exact iv
  · dsimp only at iv
    rw [List.drop_length] at iv
    exact iv
def wWhile (t : WT) (wb : WS) : WS := fun B ρ => ∃ Inv : Nat → En → Prop, (∃ m, Inv m ρ) ∧ ∀ m ρ', Inv m ρ' → t ρ' (fun c ρ1 => if c = true then wb { B with nx := fun ρ2 => ∃ m', m' < m ∧ Inv m' ρ2, ct := fun ρ2 => ∃ m', m' < m ∧ Inv m' ρ2, bk := B.nx } ρ1 else B.nx ρ1) B.rs
theorem dWhile {s : Stmt} {t : WT} {wb : WS} (h : PS X s (tWhile (cT K W t) (cS K W wb))) : PS X s (cS K W (wWhile t wb)) := psI h fun De σ H ⟨θ, π, α, ρ, B, hR, hw, hf⟩ => by
  obtain ⟨Inv, ⟨m0, i0⟩, step⟩ := hw
  refine ⟨fun m σ' H' => ∃ α' ρ', Rel K θ π α' σ' H' ρ' ∧ Stp θ α H α' H' ∧ Inv m ρ', ⟨m0, α, ρ, hR, Stp.refl .., i0⟩, ?_⟩
  rintro m σ' H' ⟨α', ρ', R', s', iv⟩
  refine ⟨θ, π, α', ρ', _, _, R', step m ρ' iv, fun α1 H1 c ρ1 R1 s1 w1 => ?_, hf.exi.step s'⟩
  cases c with
  | true =>
    rw [if_pos rfl] at w1 ⊢
    refine ⟨fun σ2 H2 => ∃ m', m' < m ∧ ∃ α2 ρ2, Rel K θ π α2 σ2 H2 ρ2 ∧ Stp θ α H α2 H2 ∧ Inv m' ρ2, fun σ2 H2 z => z, ?_⟩
    have s5 := s'.trans s1
    refine ⟨θ, π, α1, ρ1, _, R1, w1, ⟨fun α6 σ6 H6 ρ6 R6 s6 ⟨m', hm, w6⟩ => ⟨m', hm, α6, ρ6, R6, s5.trans s6, w6⟩, fun α6 σ6 H6 ρ6 R6 s6 w6 => hf.nx α6 σ6 H6 ρ6 R6 (s5.trans s6) w6, fun α6 σ6 H6 ρ6 R6 s6 ⟨m', hm, w6⟩ => ⟨m', hm, α6, ρ6, R6, s5.trans s6, w6⟩, (hf.step s5).rt, (hf.step s5).rf, (hf.step s5).rs⟩⟩
  | false =>
    rw [if_neg Bool.false_ne_true] at w1 ⊢
    exact hf.nx α1 σ' H1 ρ1 R1 (s'.trans s1) w1
end
end Den

namespace Den
variable [Tbs]
open PySem L2 Evl PySem.Spec PyProof.Rows
open Classical

def NoE : EC := fun _ _ => False
section
variable {K : PySem.W.Frag} {W : WX} {X : Cx} {θ : Addr → Prop} {π α : Nat → Option Addr} {σ σ2 : L2.St} {H H1 : Hp} {ρ : En} {p : Addr} {o : HO}
theorem Exi.no : Exi K W θ π α σ H NoE := fun _ _ _ _ _ _ _ h => h.elim

/-! slots wiped and put back -/
def setAll (vs : List Nat) (f : Nat → Sl) (ρ : En) : En := vs.foldr (fun v r => r.set v (f v)) ρ
def wipeE (ρ : En) (vs : List Nat) : En := setAll vs (fun _ => .no) ρ
def keepVa (ρ : En) (v : Nat) : Sl := match ρ[v]? with
  | some (.va d) => .va d
  | _ => .no
def back (ρ : En) (vs : List Nat) (ρ4 : En) : En := setAll vs (keepVa ρ) ρ4
def nonown (ρ : En) (v : Nat) : Prop := match ρ[v]? with
  | some (.ow _) => False
  | some (.io _) => False
  | _ => True
def okw (ρ : En) : List Nat → Prop
  | [] => True
  | v :: vs => nonown ρ v ∧ okw ρ vs
theorem okw_mem {v : Nat} : ∀ {vs : List Nat}, okw ρ vs → v ∈ vs → nonown ρ v
  | _ :: _, h, m => by
    rcases List.mem_cons.mp m with e | m
    · rw [e]; exact h.1
    · exact okw_mem h.2 m
theorem setAll_len (vs : List Nat) (f : Nat → Sl) (ρ : En) : (setAll vs f ρ).length = ρ.length := by
  induction vs with
  | nil => rfl
  | cons v vs ih => show ((setAll vs f ρ).set v (f v)).length = _; rw [List.length_set, ih]
theorem setAll_out {f : Nat → Sl} {k : Nat} : ∀ {vs : List Nat}, k ∉ vs → (setAll vs f ρ)[k]? = ρ[k]?
  | [], _ => rfl
  | v :: vs, h => by
    show ((setAll vs f ρ).set v (f v))[k]? = _
    rw [List.getElem?_set_ne (fun e => h (by rw [e]; exact List.mem_cons_self))]
    exact setAll_out fun m => h (List.mem_cons_of_mem _ m)
theorem setAll_in {f : Nat → Sl} {k : Nat} (hk : k < ρ.length) : ∀ {vs : List Nat}, k ∈ vs → (setAll vs f ρ)[k]? = some (f k)
  | v :: vs, h => by
    show ((setAll vs f ρ).set v (f v))[k]? = _
    by_cases e : v = k
    · subst e; exact List.getElem?_set_self (by rw [setAll_len]; exact hk)
    · rw [List.getElem?_set_ne e]
      rcases List.mem_cons.mp h with z | z
      · exact absurd z.symm e
      · exact setAll_in hk z
theorem wipe_out {k : Nat} : ∀ {vs : List Nat}, k ∉ vs → (wipe σ vs)[k]? = σ[k]?
  | [], _ => rfl
  | v :: vs, h => by
    show ((wipe σ vs).set v none)[k]? = _
    rw [List.getElem?_set_ne (fun e => h (by rw [e]; exact List.mem_cons_self))]
    exact wipe_out fun m => h (List.mem_cons_of_mem _ m)
theorem wipe_in {k : Nat} (hk : k < σ.length) : ∀ {vs : List Nat}, k ∈ vs → (wipe σ vs)[k]? = some none
  | v :: vs, h => by
    show ((wipe σ vs).set v none)[k]? = _
    by_cases e : v = k
    · subst e; exact List.getElem?_set_self (by rw [wipe_length]; exact hk)
    · rw [List.getElem?_set_ne e]
      rcases List.mem_cons.mp h with z | z
      · exact absurd z.symm e
      · exact wipe_in hk z
theorem wipe_put {i : Nat} {x : Option V} {vs : List Nat} (h : i ∈ vs) : wipe (σ.set i x) vs = wipe σ vs := by
  apply List.ext_getElem?
  intro k
  by_cases hk : k ∈ vs
  · by_cases hl : k < σ.length
    · rw [wipe_in (by simpa using hl) hk, wipe_in hl hk]
    · rw [List.getElem?_eq_none (by rw [wipe_length]; simpa using hl), List.getElem?_eq_none (by rw [wipe_length]; simpa using hl)]
  · rw [wipe_out hk, wipe_out hk, List.getElem?_set_ne (fun e => hk (by rw [← e]; exact h))]
theorem nonown_pi {k : Nat} {a : Addr} (r : Rel K θ π α σ H ρ) (n : nonown ρ k) (h : α k = some a) : False := by
  obtain ⟨s, h1, h2⟩ := r.dom k a h
  unfold nonown at n
  rw [h1] at n
  cases s with
  | ow => exact n
  | io => exact n
  | no => exact h2
  | va => exact h2
  | ex => exact h2
theorem Rel.wiped {vs : List Nat} (r : Rel K θ π α σ H ρ) (h : okw ρ vs) : Rel K θ π α (wipe σ vs) H (wipeE ρ vs) := by
  refine ⟨by unfold wipeE; rw [setAll_len, wipe_length]; exact r.len, r.inj, r.ap, r.lv, fun k a q => ?_, fun k a q => ?_, r.tb, fun k s q => ?_⟩
  · have hk : k ∉ vs := fun m => nonown_pi r (okw_mem h m) q
    obtain ⟨s, z⟩ := r.dom k a q
    exact ⟨s, by unfold wipeE; rw [setAll_out hk]; exact z.1, z.2⟩
  · obtain ⟨ds, z⟩ := r.pin k a q
    have hk : k ∉ vs := fun m => by
      have n := okw_mem h m
      unfold nonown at n
      rw [z] at n
      exact n
    exact ⟨ds, by unfold wipeE; rw [setAll_out hk]; exact z⟩
  · by_cases hk : k ∈ vs
    · by_cases hl : k < ρ.length
      · unfold wipeE at q; rw [setAll_in hl hk] at q; cases q; trivial
      · unfold wipeE at q; rw [List.getElem?_eq_none (by rw [setAll_len]; omega)] at q; cases q
    · unfold wipeE at q
      rw [setAll_out hk] at q
      have z := r.sl k s q
      have es : (wipe σ vs)[k]? = σ[k]? := wipe_out hk
      cases s with
      | no => trivial
      | va d => obtain ⟨w, z1, z2⟩ := z; exact ⟨w, es.trans z1, z2⟩
      | ow ds => obtain ⟨a, vs, z1, z2, z3, z4⟩ := z; exact ⟨a, vs, z1, z2, es.trans z3, z4⟩
      | io ds => obtain ⟨a, vs, z1, z2, z3, z4⟩ := z; exact ⟨a, vs, z1, z2, es.trans z3, z4⟩
      | ex a => exact es.trans z
theorem Rel.backed {α1 : Nat → Option Addr} {θ0 : Addr → Prop} {α0 : Nat → Option Addr} {H0 : Hp} {ρ4 : En} {vs : List Nat} (r : Rel K θ π α1 σ2 H1 ρ4) (h : okw ρ4 vs) (e : wipe σ2 vs = wipe σ vs) (r0 : Rel K θ π α0 σ H0 ρ) (s : Stp θ α0 H0 α1 H1) : Rel K θ π α1 σ H1 (back ρ vs ρ4) := by
  have hl : σ2.length = σ.length := by have z := congrArg List.length e; rw [wipe_length, wipe_length] at z; exact z
  have es : ∀ k, k ∉ vs → σ2[k]? = σ[k]? := fun k hk => by rw [← wipe_out (vs := vs) hk, e, wipe_out hk]
  refine ⟨by unfold back; rw [setAll_len, r.len, hl], r.inj, r.ap, r.lv, fun k a q => ?_, fun k a q => ?_, r.tb, fun k s' q => ?_⟩
  · have hk : k ∉ vs := fun m => nonown_pi r (okw_mem h m) q
    obtain ⟨s, z⟩ := r.dom k a q
    exact ⟨s, by unfold back; rw [setAll_out hk]; exact z.1, z.2⟩
  · obtain ⟨ds, z⟩ := r.pin k a q
    have hk : k ∉ vs := fun m => by
      have n := okw_mem h m
      unfold nonown at n
      rw [z] at n
      exact n
    exact ⟨ds, by unfold back; rw [setAll_out hk]; exact z⟩
  · by_cases hk : k ∈ vs
    · by_cases hl : k < ρ4.length
      · unfold back at q
        rw [setAll_in hl hk] at q
        cases q
        unfold keepVa
        split
        · rename_i d q
          obtain ⟨v, q1, q2⟩ := r0.sl k _ q
          exact ⟨v, q1, dp_mono s.1 q2⟩
        · trivial
      · unfold back at q; rw [List.getElem?_eq_none (by rw [setAll_len]; omega)] at q; cases q
    · unfold back at q
      rw [setAll_out hk] at q
      have z := r.sl k s' q
      have es := es k hk
      cases s' with
      | no => trivial
      | va d => obtain ⟨w, z1, z2⟩ := z; exact ⟨w, es.symm.trans z1, z2⟩
      | ow ds => obtain ⟨a, vs, z1, z2, z3, z4⟩ := z; exact ⟨a, vs, z1, z2, es.symm.trans z3, z4⟩
      | io ds => obtain ⟨a, vs, z1, z2, z3, z4⟩ := z; exact ⟨a, vs, z1, z2, es.symm.trans z3, z4⟩
      | ex a => exact es.symm.trans z

/-! list comprehensions -/
/-- a target that stores names of vs alone -/
def cGv (K : PySem.W.Frag) (W : WX) (vs : List Nat) (w : WG) : TG := fun v σ H Q => ∃ θ π α ρ d R E, Rel K θ π α σ H ρ ∧ Dp K (hidS (Sof θ α) H) v d ∧ w d ρ R E ∧
  (∀ α' σ' H' ρ', Rel K θ π α' σ' H' ρ' → Stp θ α H α' H' → wipe σ' vs = wipe σ vs → R ρ' → Q σ' H') ∧ Exi K W θ π α σ H E
theorem dgvName {i : Nat} {vs : List Nat} {e : Expr} (h : PG X e (gName i)) (hi : i ∈ vs) : PG X e (cGv K W vs (wgName i)) := pgI h fun v σ H Q => by
  rintro ⟨θ, π, α, ρ, d, R, E, hR, hd, hw, hq, he⟩
  obtain ⟨h1, h2, h3⟩ := asgV_of hw
  obtain ⟨α', r, s⟩ := hR.put h1 h2 hd
  exact hq α' _ H _ r s (wipe_put hi) h3
theorem can_namesV {ws : List Nat} : ∀ (is : List Nat) {θ : Addr → Prop} {π α : Nat → Option Addr} {ρ : En} {ds : List D} {k : En → Prop} (vs : List V) (σ : L2.St) (H : Hp) (Q : L2.St → Hp → Prop), (∀ i ∈ is, i ∈ ws) → Rel K θ π α σ H ρ → DpAll K (hidS (Sof θ α) H) vs ds → asgAll is ds ρ k →
    (∀ α' σ' ρ', Rel K θ π α' σ' H ρ' → Stp θ α H α' H → wipe σ' ws = wipe σ ws → k ρ' → Q σ' H) → gNames is vs σ H Q
  | [], _, _, _, _, [], _, vs, σ, H, Q, _, r, hd, h, q => by
    cases hd
    exact ⟨rfl, q _ _ _ r (Stp.refl ..) rfl h⟩
  | [], _, _, _, _, _ :: _, _, vs, σ, H, Q, _, r, hd, h, q => h.elim
  | _ :: _, _, _, _, _, [], _, vs, σ, H, Q, _, r, hd, h, q => h.elim
  | i :: is, θ, π, α, ρ, d :: ds, k, vs, σ, H, Q, hm, r, hd, h, q => by
    cases hd with
    | cons h1 hs =>
      obtain ⟨a1, a2, a3⟩ := asgV_of h
      obtain ⟨α', r', s'⟩ := r.put a1 a2 h1
      refine ⟨_, _, rfl, ?_⟩
      exact can_namesV is _ _ H Q (fun i hi => hm i (List.mem_cons_of_mem _ hi)) r' (dpA_mono s'.1 hs) a3 fun α2 σ2 ρ2 r2 s2 e2 k2 => q α2 σ2 ρ2 r2 (s'.trans s2) (e2.trans (wipe_put (hm i List.mem_cons_self))) k2
theorem dgvTup {is : List Nat} {ws : List Nat} {e : Expr} {n : Nat} (h : PG X e (gTup K n (gNames is))) (hi : ∀ i ∈ is, i ∈ ws) (hn : is.length = n := by rfl) : PG X e (cGv K W ws (wgTup is)) := pgI h fun v σ H Q => by
  rintro ⟨θ, π, α, ρ, d, R, E, hR, hd, hw, hq, he⟩
  obtain ⟨ds, rfl, hw⟩ := hw
  cases hd with
  | tup h1 hs => exact ⟨_, _, rfl, ex_t hidS_ex h1, by rw [dpA_len hs, asgAll_len hw, hn], can_namesV is _ σ H Q hi hR hs hw fun α' σ' ρ' r s e k => hq α' σ' H ρ' r s e k⟩
def wLc (vs : List Nat) (wi : WI) (wg : WG) (wt : WT) (we : WE) : WA := fun ρ R E => wi ρ (fun ds ρ1 => ∃ Inv : Nat → List D → En → Prop, Inv 0 [] ρ1 ∧
  (∀ i d acc ρ', ds[i]? = some d → Inv i acc ρ' → okw ρ' vs ∧ wg d (wipeE ρ' vs) (fun ρ2 => wt ρ2 (fun b ρ3 =>
    if b = true then we ρ3 (fun y ρ4 => acc.length < sizeLine ∧ okw ρ4 vs ∧ Inv (i + 1) (acc ++ [y]) (back ρ' vs ρ4)) NoE else okw ρ3 vs ∧ Inv (i + 1) acc (back ρ' vs ρ3)) NoE) NoE) ∧
  ∀ acc ρ', Inv ds.length acc ρ' → R acc ρ') E
def wYes : WT := fun ρ R _ => R true ρ
theorem dYes : PTs X [] (cT K W wYes) := ptsI pts_nil fun σ H Q ⟨θ, π, α, ρ, R, E, hR, hw, hq, he⟩ => hq α H true ρ hR (Stp.refl ..) hw
/-- a comprehension, turn by turn -/
def lcRun (vs : List Nat) (wg : WG) (wt : WT) (we : WE) (R : List D → En → Prop) : List D → List D → En → Prop
  | [], acc, ρ => R acc ρ
  | d :: ds, acc, ρ => okw ρ vs ∧ wg d (wipeE ρ vs) (fun ρ2 => wt ρ2 (fun b ρ3 =>
    if b = true then we ρ3 (fun y ρ4 => acc.length < sizeLine ∧ okw ρ4 vs ∧ lcRun vs wg wt we R ds (acc ++ [y]) (back ρ vs ρ4)) NoE else okw ρ3 vs ∧ lcRun vs wg wt we R ds acc (back ρ vs ρ3)) NoE) NoE
theorem lc_run {vs : List Nat} {wg : WG} {wt : WT} {we : WE} {R : List D → En → Prop} {ds : List D} {ρ : En} (h : lcRun vs wg wt we R ds [] ρ) : ∃ Inv : Nat → List D → En → Prop, Inv 0 [] ρ ∧
    (∀ i d acc ρ', ds[i]? = some d → Inv i acc ρ' → okw ρ' vs ∧ wg d (wipeE ρ' vs) (fun ρ2 => wt ρ2 (fun b ρ3 =>
      if b = true then we ρ3 (fun y ρ4 => acc.length < sizeLine ∧ okw ρ4 vs ∧ Inv (i + 1) (acc ++ [y]) (back ρ' vs ρ4)) NoE else okw ρ3 vs ∧ Inv (i + 1) acc (back ρ' vs ρ3)) NoE) NoE) ∧
    ∀ acc ρ', Inv ds.length acc ρ' → R acc ρ' := by
  refine ⟨fun i => lcRun vs wg wt we R (ds.drop i), h, fun i d acc ρ' hi iv => ?_, fun acc ρ' iv => ?_⟩
  · obtain ⟨hlt, e⟩ := List.getElem?_eq_some_iff.mp hi
    dsimp only at iv
    rw [List.drop_eq_getElem_cons hlt, e] at iv
    exact iv
  · dsimp only at iv
    rw [List.drop_length] at iv
    exact iv
theorem can_lc {vs : List Nat} {wi : WI} {wg : WG} {wt : WT} {we : WE} (σ : L2.St) (H : Hp) (Q : VK) : cF K W (wLc vs wi wg wt we) σ H Q → tLc (cI K W wi) (cGv K W vs wg) (cT K W wt) (cE K W we) vs σ H Q := by
  rintro ⟨θ, π, α, ρ, R, E, hR, hw, hq, he⟩
  refine ⟨θ, π, α, ρ, _, E, hR, hw, fun α1 J H1 ds ρ1 R1 s1 hJ w1 => ?_, he⟩
  obtain ⟨Inv, i0, step, fin⟩ := w1
  intro Da hD
  have e1 := hid_new (θ := θ) (α := α1) (o := .lst []) hD
  have nD : ¬ θ Da := fun z => R1.lv Da z hD
  have sF0 : Ex (hidS (Sof θ α1) H1) (hidS (Sof (th θ Da) α1) (upd H1 Da (.lst []))) := by rw [e1]; exact Ex.refl _
  refine ⟨fun i m H' => m = ds.length - i ∧ i ≤ ds.length ∧ ∃ α' ρ' xs acc, Rel K (th θ Da) π α' σ H' ρ' ∧ Ex (hidS (Sof θ α1) H1) (hidS (Sof (th θ Da) α') H') ∧ (∀ b, θ b → FrO (H1 b) (H' b)) ∧ H' Da = some (.lst xs) ∧ DpAll K (hidS (Sof (th θ Da) α') H') xs acc ∧ Inv i acc ρ',
    ⟨_, rfl, Nat.zero_le _, α1, ρ1, [], [], R1.hideNew hD, sF0, fun b hb => .inl (upd_ne (fun z => by subst z; exact nD hb)), upd_same, .nil, i0⟩, ?_⟩
  rintro i m H' ⟨rfl, hi, α', ρ', xs, acc, R', x', f', hDa, hA, iv⟩
  obtain ⟨j1, j2⟩ := hJ _ H' i R'.live x'
  by_cases hlt : i < ds.length
  · obtain ⟨g1, g2⟩ := j2 ds[i] (by simp [hlt])
    refine .inr ⟨g1, fun H2 => i + 1 ≤ ds.length ∧ ∃ α' ρ' xs acc, Rel K (th θ Da) π α' σ H2 ρ' ∧ Ex (hidS (Sof θ α1) H1) (hidS (Sof (th θ Da) α') H2) ∧ (∀ b, θ b → FrO (H1 b) (H2 b)) ∧ H2 Da = some (.lst xs) ∧ DpAll K (hidS (Sof (th θ Da) α') H2) xs acc ∧ Inv (i + 1) acc ρ',
      fun H2 ⟨l2, z⟩ => ⟨ds.length - (i + 1), by omega, rfl, l2, z⟩, fun x H3 y => ?_⟩
    obtain ⟨ex, dp⟩ := g2 x H3 y
    obtain ⟨ok, w2⟩ := step i ds[i] acc ρ' (by simp [hlt]) iv
    have R3 := R'.ext ex
    have s3 := R'.stp ex
    refine ⟨th θ Da, π, α', wipeE ρ' vs, ds[i], _, _, R3.wiped ok, dp, w2, fun α4 σ4 H4 ρ4 R4 s4 e4 w4 => ?_, Exi.no⟩
    refine ⟨e4.trans (by
      apply List.ext_getElem?
      intro k
      by_cases hk : k ∈ vs
      · by_cases hl : k < σ.length
        · rw [wipe_in (by rw [wipe_length]; exact hl) hk, wipe_in hl hk]
        · rw [List.getElem?_eq_none (by rw [wipe_length, wipe_length]; omega), List.getElem?_eq_none (by rw [wipe_length]; omega)]
      · rw [wipe_out hk]), ?_⟩
    have e4' : wipe σ4 vs = wipe σ vs := e4.trans (by
      apply List.ext_getElem?
      intro k
      by_cases hk : k ∈ vs
      · by_cases hl : k < σ.length
        · rw [wipe_in (by rw [wipe_length]; exact hl) hk, wipe_in hl hk]
        · rw [List.getElem?_eq_none (by rw [wipe_length, wipe_length]; omega), List.getElem?_eq_none (by rw [wipe_length]; omega)]
      · rw [wipe_out hk])
    refine ⟨th θ Da, π, α4, ρ4, _, _, R4, w4, fun α5 H5 b ρ5 R5 s5 w5 => ?_, Exi.no⟩
    have s5' := (s3.trans s4).trans s5
    have hDa5 : H5 Da = some (.lst xs) := ((s5'.2 Da (.inr rfl)).lst hDa).trans hDa
    have f5 : ∀ b, θ b → FrO (H1 b) (H5 b) := fun b hb => (f' b hb).trans (s5'.2 b (.inl hb))
    cases b with
    | true =>
      rw [if_pos rfl] at w5
      refine iteT ?_
      refine ⟨th θ Da, π, α5, ρ5, _, _, R5, w5, fun α6 v6 H6 y6 ρ6 R6 s6 p6 w6 => ?_, Exi.no⟩
      obtain ⟨hl, ok6, iv6⟩ := w6
      have s6' := s5'.trans s6
      have hDa6 : H6 Da = some (.lst xs) := ((s6.2 Da (.inr rfl)).lst hDa5).trans hDa5
      have hS : Sof (th θ Da) α6 Da := .inl (.inr rfl)
      have hh : hidS (Sof (th θ Da) α6) (upd H6 Da (.lst (xs ++ [v6]))) = hidS (Sof (th θ Da) α6) H6 := by
        funext b
        unfold hidS
        by_cases z : Sof (th θ Da) α6 b
        · rw [if_pos z, if_pos z]
        · rw [if_neg z, if_neg z, upd_ne (fun q => by subst q; exact z hS)]
      have Rb := Rel.backed (θ0 := θ) R6 ok6 e4' R' s6'
      have hA6 := dpA_mono s6'.1 hA
      refine ⟨xs, hDa6, by rw [dpA_len hA]; exact hl, hlt, α6, _, _, _, ⟨Rb.len, Rb.inj, Rb.ap, fun b z => ?_, Rb.dom, Rb.pin, fun b z => ⟨(Rb.tb b z).1, by obtain ⟨ps, q, k⟩ := (Rb.tb b z).2; exact ⟨ps, by rw [upd_ne (fun e => by subst e; rw [hDa6] at q; cases q)]; exact q, k⟩⟩, fun k s q => (Rb.sl k s q).re rfl (by rw [hh]; exact Ex.refl _) fun a ws ha hb => ?_⟩, by rw [hh]; exact x'.trans s6'.1, fun b hb => ?_, upd_same, by rw [hh]; exact dpA_app hA6 (.cons p6 .nil), iv6⟩
      · by_cases q : b = Da
        · subst q; rw [upd_same]; intro z; cases z
        · rw [upd_ne q]; exact Rb.lv b z
      · rw [upd_ne (fun q => by subst q; exact Rb.ap k _ ha (.inr rfl))]; exact hb
      · rw [upd_ne (fun q => by subst q; exact nD hb)]
        exact (f5 b hb).trans (s6.2 b (.inl hb))
    | false =>
      rw [if_neg Bool.false_ne_true] at w5
      refine iteF ?_
      obtain ⟨ok5, iv5⟩ := w5
      exact ⟨hlt, α5, _, xs, acc, Rel.backed (θ0 := θ) R5 ok5 e4' R' s5', x'.trans s5'.1, f5, hDa5, dpA_mono s5'.1 hA, iv5⟩
  · have e : i = ds.length := by omega
    refine .inl ⟨j1 e, ?_⟩
    exact hq α' Da xs H' acc ρ' R' ⟨s1.1.trans x', fun b hb => (s1.2 b hb).trans (f' b hb)⟩ nD hDa hA (fin acc ρ' (by rw [← e]; exact iv))
end
end Den

namespace Den
variable [Tbs]
open PySem L2 Evl PySem.Spec PyProof.Rows
open Classical

/-! arguments: data, or a list that is lent -/
inductive Ar where
  | v (d : D) | io (j : Nat)
abbrev WM := En → (List Ar → En → Prop) → EC → Prop
abbrev WF := En → RC → EC → Prop
abbrev WFF := En → (List D → En → Prop) → EC → Prop
inductive ArAll (K : PySem.W.Frag) (σ : L2.St) (G : Hp) : List V → List Ar → Prop
  | nil : ArAll K σ G [] []
  | v {x : V} {d : D} {vs : List V} {as : List Ar} : Dp K G x d → ArAll K σ G vs as → ArAll K σ G (x :: vs) (.v d :: as)
  | io {x : V} {j : Nat} {vs : List V} {as : List Ar} : σ[j]? = some (some x) → ArAll K σ G vs as → ArAll K σ G (x :: vs) (.io j :: as)
def cM (K : PySem.W.Frag) (W : WX) (n : Nat) (w : WM) : TA := fun σ H Q => ∃ θ π α ρ R E, Rel K θ π α σ H ρ ∧ w ρ R E ∧
  (∀ α' vs H' as ρ', Rel K θ π α' σ H' ρ' → Stp θ α H α' H' → ArAll K σ (hidS (Sof θ α') H') vs as → as.length = n → R as ρ' → Q vs H') ∧ Exi K W θ π α σ H E
def wmNil : WM := fun ρ R _ => R [] ρ
def wmV (wa : WE) (wr : WM) : WM := fun ρ R E => wa ρ (fun d ρ1 => wr ρ1 (fun as ρ2 => R (.v d :: as) ρ2) E) E
def wmIo (j : Nat) (wr : WM) : WM := fun ρ R E => (∃ d, rd ρ j = some d) ∧ wr ρ (fun as ρ2 => R (.io j :: as) ρ2) E
/-- the parameters' slots -/
def pars (ρ : En) : List Ar → Option (List Sl)
  | [] => some []
  | .v d :: r => (pars ρ r).map (.va d :: ·)
  | .io j :: r => match ρ[j]? with
    | some (.ow ds) => (pars ρ r).map (.io ds :: ·)
    | some (.io ds) => (pars ρ r).map (.io ds :: ·)
    | _ => none
def ios : List Ar → List Nat
  | [] => []
  | .v _ :: r => ios r
  | .io j :: r => j :: ios r
def setOwn (ρ : En) (j : Nat) (es : List D) : En := match ρ[j]? with
  | some (.ow _) => ρ.set j (.ow es)
  | some (.io _) => ρ.set j (.io es)
  | _ => ρ
def upds (ρ : En) : List Ar → List Sl → En
  | .v _ :: r, _ :: o => upds ρ r o
  | .io j :: r, .io es :: o => setOwn (upds ρ r o) j es
  | _, _ => ρ
section
variable {K : PySem.W.Frag} {W : WX} {X : Cx} {θ : Addr → Prop} {π α : Nat → Option Addr} {σ σ2 : L2.St} {H H1 : Hp} {ρ : En} {p : Addr} {o : HO} {G G' : Hp}
theorem arA_mono (e : Ex G G') : ∀ {vs : List V} {as : List Ar}, ArAll K σ G vs as → ArAll K σ G' vs as
  | _, _, .nil => .nil
  | _, _, .v h r => .v (dp_mono e h) (arA_mono e r)
  | _, _, .io h r => .io h (arA_mono e r)
theorem dmNil : PA X [] (cM K W 0 wmNil) := paI pa_nil fun σ H Q ⟨θ, π, α, ρ, R, E, hR, hw, hq, he⟩ => hq α [] H [] ρ hR (Stp.refl ..) .nil rfl hw
theorem dmV {e : Expr} {es : List Expr} {n : Nat} {wa : WE} {wr : WM} (ha : PE X e (cE K W wa)) (hr : PA X es (cM K W n wr)) (hs : starEach (e :: es) X.env = (false, eval e X.env) :: starEach es X.env := by rfl) : PA X (e :: es) (cM K W (n + 1) (wmV wa wr)) :=
  paI (pa_cons ha hr hs) fun σ H Q ⟨θ, π, α, ρ, R, E, hR, hw, hq, he⟩ => by
    refine ⟨θ, π, α, ρ, _, E, hR, hw, fun α1 v1 H1 d ρ1 R1 s1 p1 w1 => ?_, he⟩
    refine ⟨θ, π, α1, ρ1, _, E, R1, w1, fun α2 vs H2 as ρ2 R2 s2 p2 l2 w2 => ?_, he.step s1⟩
    exact hq α2 (v1 :: vs) H2 (.v d :: as) ρ2 R2 (s1.trans s2) (.v (dp_mono s2.1 p1) p2) (by simp [l2]) w2
theorem dmIo {j : Nat} {x : Str} {pos : Pos} {es : List Expr} {n : Nat} {wr : WM} (ha : PE X (.Name x pos) (tVar j)) (hr : PA X es (cM K W n wr)) (hs : starEach (.Name x pos :: es) X.env = (false, eval (.Name x pos) X.env) :: starEach es X.env := by rfl) : PA X (.Name x pos :: es) (cM K W (n + 1) (wmIo j wr)) :=
  paI (pa_cons ha hr hs) fun σ H Q ⟨θ, π, α, ρ, R, E, hR, hw, hq, he⟩ => by
    obtain ⟨⟨d, hd⟩, hw⟩ := hw
    obtain ⟨v, h1, h2⟩ := hR.rd hd
    refine ⟨v, h1, θ, π, α, ρ, _, E, hR, hw, fun α2 vs H2 as ρ2 R2 s2 p2 l2 w2 => ?_, he⟩
    exact hq α2 (v :: vs) H2 (.io j :: as) ρ2 R2 s2 (.io h1 p2) (by simp [l2]) w2
theorem upds_len : ∀ (as : List Ar) (os : List Sl), (upds ρ as os).length = ρ.length
  | [], os => by cases os <;> rfl
  | .v _ :: r, [] => rfl
  | .v _ :: r, _ :: o => upds_len r o
  | .io j :: r, [] => rfl
  | .io j :: r, .io es :: o => by
    show (setOwn (upds ρ r o) j es).length = _
    unfold setOwn
    split
    · rw [List.length_set, upds_len r o]
    · rw [List.length_set, upds_len r o]
    · exact upds_len r o
  | .io j :: r, .no :: o => rfl
  | .io j :: r, .va _ :: o => rfl
  | .io j :: r, .ow _ :: o => rfl
  | .io j :: r, .ex _ :: o => rfl
theorem setOwn_ne {i j : Nat} {es : List D} (h : i ≠ j) : (setOwn ρ j es)[i]? = ρ[i]? := by
  unfold setOwn
  split
  · exact List.getElem?_set_ne (Ne.symm h)
  · exact List.getElem?_set_ne (Ne.symm h)
  · rfl
theorem upds_out {i : Nat} : ∀ {as : List Ar} {os : List Sl}, i ∉ ios as → (upds ρ as os)[i]? = ρ[i]?
  | [], os, _ => by cases os <;> rfl
  | .v _ :: r, [], _ => rfl
  | .v _ :: r, _ :: o, h => upds_out (as := r) (os := o) h
  | .io j :: r, [], _ => rfl
  | .io j :: r, .io es :: o, h => by
    show (setOwn (upds ρ r o) j es)[i]? = _
    rw [setOwn_ne (fun e => h (by rw [e]; exact List.mem_cons_self))]
    exact upds_out fun m => h (List.mem_cons_of_mem _ m)
  | .io j :: r, .no :: o, _ => rfl
  | .io j :: r, .va _ :: o, _ => rfl
  | .io j :: r, .ow _ :: o, _ => rfl
  | .io j :: r, .ex _ :: o, _ => rfl
theorem ios_at {k j : Nat} : ∀ {as : List Ar}, as[k]? = some (.io j) → j ∈ ios as := fun {as} => by
  induction as generalizing k with
  | nil => intro h; simp at h
  | cons a r ih =>
    intro h
    cases k with
    | zero => simp at h; subst h; exact List.mem_cons_self
    | succ k =>
      have z := ih (k := k) (by simpa using h)
      cases a with
      | v d => exact z
      | io l => exact List.mem_cons_of_mem _ z
theorem ios_of {j : Nat} : ∀ {as : List Ar}, j ∈ ios as → ∃ k : Nat, as[k]? = some (Ar.io j) := fun {as} => by
  induction as with
  | nil => intro h; cases h
  | cons a r ih =>
    intro h
    cases a with
    | v d => obtain ⟨k, z⟩ := ih h; exact ⟨k + 1, by simpa using z⟩
    | io l =>
      rcases List.mem_cons.mp h with e | h
      · exact ⟨0, by rw [e]; rfl⟩
      · obtain ⟨k, z⟩ := ih h; exact ⟨k + 1, by simpa using z⟩
theorem ios_inj : ∀ {as : List Ar} {k l j : Nat}, (ios as).Nodup → as[k]? = some (.io j) → as[l]? = some (.io j) → k = l := fun {as} => by
  induction as with
  | nil => intro k l j _ h; simp at h
  | cons a r ih =>
    intro k l j nd h1 h2
    cases a with
    | v d =>
      cases k with
      | zero => simp at h1
      | succ k => cases l with
        | zero => simp at h2
        | succ l => exact congrArg (· + 1) (ih (k := k) (l := l) (j := j) nd (by simpa using h1) (by simpa using h2))
    | io m =>
      have nd' : m ∉ ios r ∧ (ios r).Nodup := List.nodup_cons.mp nd
      cases k with
      | zero => cases l with
        | zero => rfl
        | succ l =>
          simp at h1
          subst h1
          exact absurd (ios_at (k := l) (by simpa using h2)) nd'.1
      | succ k => cases l with
        | zero =>
          simp at h2
          subst h2
          exact absurd (ios_at (k := k) (by simpa using h1)) nd'.1
        | succ l => exact congrArg (· + 1) (ih (k := k) (l := l) (j := j) nd'.2 (by simpa using h1) (by simpa using h2))
theorem upds_in {j : Nat} {es : List D} : ∀ {as : List Ar} {os : List Sl} {k : Nat}, (ios as).Nodup → as[k]? = some (.io j) → os[k]? = some (.io es) → (∀ (i : Nat) (s : Sl), os[i]? = some s → ∀ l : Nat, as[i]? = some (Ar.io l) → ∃ e, s = Sl.io e) → as.length = os.length →
    (∀ ds, ρ[j]? = some (.ow ds) → (upds ρ as os)[j]? = some (.ow es)) ∧ (∀ ds, ρ[j]? = some (.io ds) → (upds ρ as os)[j]? = some (.io es)) := fun {as} => by
  induction as with
  | nil => intro os k _ h; simp at h
  | cons a r ih =>
    intro os k nd h1 h2 hall hl
    cases os with
    | nil => simp at hl
    | cons s o =>
      have hall' : ∀ (i : Nat) (s : Sl), o[i]? = some s → ∀ l : Nat, r[i]? = some (Ar.io l) → ∃ e, s = Sl.io e := fun i s q l q2 => hall (i + 1) s (by simpa using q) l (by simpa using q2)
      have hl' : r.length = o.length := by simpa using hl
      cases a with
      | v d =>
        cases k with
        | zero => simp at h1
        | succ k => exact ih (k := k) nd (by simpa using h1) (by simpa using h2) hall' hl'
      | io m =>
        have nd' : m ∉ ios r ∧ (ios r).Nodup := List.nodup_cons.mp nd
        obtain ⟨e0, he0⟩ := hall 0 s rfl m rfl
        subst he0
        cases k with
        | zero =>
          simp at h1 h2
          subst h1 h2
          refine ⟨fun ds q => ?_, fun ds q => ?_⟩
          · show (setOwn (upds ρ r o) m e0)[m]? = _
            have z : (upds ρ r o)[m]? = some (.ow ds) := by rw [upds_out nd'.1]; exact q
            unfold setOwn
            rw [z]
            exact List.getElem?_set_self (List.getElem?_eq_some_iff.mp z).1
          · show (setOwn (upds ρ r o) m e0)[m]? = _
            have z : (upds ρ r o)[m]? = some (.io ds) := by rw [upds_out nd'.1]; exact q
            unfold setOwn
            rw [z]
            exact List.getElem?_set_self (List.getElem?_eq_some_iff.mp z).1
        | succ k =>
          have hne : j ≠ m := fun q => by
            subst q
            exact nd'.1 (ios_at (k := k) (by simpa using h1))
          obtain ⟨z1, z2⟩ := ih (k := k) nd'.2 (by simpa using h1) (by simpa using h2) hall' hl'
          exact ⟨fun ds q => by show (setOwn (upds ρ r o) m e0)[j]? = _; rw [setOwn_ne hne]; exact z1 ds q, fun ds q => by show (setOwn (upds ρ r o) m e0)[j]? = _; rw [setOwn_ne hne]; exact z2 ds q⟩
/-- what the parameters' slots are -/
theorem pars_at : ∀ {as : List Ar} {ps : List Sl}, pars ρ as = some ps → ps.length = as.length ∧ ∀ k : Nat, (∀ d : D, as[k]? = some (Ar.v d) → ps[k]? = some (Sl.va d)) ∧ ∀ j : Nat, as[k]? = some (Ar.io j) → ∃ ds : List D, ps[k]? = some (Sl.io ds) ∧ (ρ[j]? = some (.ow ds) ∨ ρ[j]? = some (.io ds)) := fun {as} => by
  induction as with
  | nil => intro ps h; cases h; exact ⟨rfl, fun k => ⟨fun d q => by simp at q, fun d q => by simp at q⟩⟩
  | cons a r ih =>
    intro ps h
    cases a with
    | v d =>
      unfold pars at h
      cases q : pars ρ r with
      | none => rw [q] at h; cases h
      | some p =>
        rw [q] at h
        cases h
        obtain ⟨l, z⟩ := ih q
        refine ⟨by simp [l], fun k => ?_⟩
        cases k with
        | zero => exact ⟨fun d q => by simp at q; subst q; rfl, fun d q => by simp at q⟩
        | succ k => exact ⟨fun d q => by simpa using (z k).1 d (by simpa using q), fun j q => by simpa using (z k).2 j (by simpa using q)⟩
    | io m =>
      unfold pars at h
      split at h
      · rename_i ds e
        cases q : pars ρ r with
        | none => rw [q] at h; cases h
        | some p =>
          rw [q] at h
          cases h
          obtain ⟨l, z⟩ := ih q
          refine ⟨by simp [l], fun k => ?_⟩
          cases k with
          | zero => exact ⟨fun d q => by simp at q, fun d q => by simp at q; subst q; exact ⟨ds, rfl, .inl e⟩⟩
          | succ k => exact ⟨fun d q => by simpa using (z k).1 d (by simpa using q), fun j q => by simpa using (z k).2 j (by simpa using q)⟩
      · rename_i ds e
        cases q : pars ρ r with
        | none => rw [q] at h; cases h
        | some p =>
          rw [q] at h
          cases h
          obtain ⟨l, z⟩ := ih q
          refine ⟨by simp [l], fun k => ?_⟩
          cases k with
          | zero => exact ⟨fun d q => by simp at q, fun d q => by simp at q; subst q; exact ⟨ds, rfl, .inr e⟩⟩
          | succ k => exact ⟨fun d q => by simpa using (z k).1 d (by simpa using q), fun j q => by simpa using (z k).2 j (by simpa using q)⟩
      · cases h
theorem arA_len : ∀ {vs : List V} {as : List Ar}, ArAll K σ G vs as → vs.length = as.length
  | _, _, .nil => rfl
  | _, _, .v _ r => by simp [arA_len r]
  | _, _, .io _ r => by simp [arA_len r]
theorem arA_at : ∀ {vs : List V} {as : List Ar} {k : Nat} {a : Ar}, ArAll K σ G vs as → as[k]? = some a → ∃ x, vs[k]? = some x ∧ match a with | .v d => Dp K G x d | .io j => σ[j]? = some (some x)
  | _, _, k, a, .nil, h => by simp at h
  | _, _, 0, a, .v q _, h => by simp at h; subst h; exact ⟨_, rfl, q⟩
  | _, _, 0, a, .io q _, h => by simp at h; subst h; exact ⟨_, rfl, q⟩
  | _, _, k + 1, a, .v _ r, h => by
    obtain ⟨x, z1, z2⟩ := arA_at (k := k) r (by simpa using h)
    exact ⟨x, by simpa using z1, z2⟩
  | _, _, k + 1, a, .io _ r, h => by
    obtain ⟨x, z1, z2⟩ := arA_at (k := k) r (by simpa using h)
    exact ⟨x, by simpa using z1, z2⟩

/-! a def's promise, over data -/
def toSp (K : PySem.W.Frag) (n : Nat) (S : WF) : Sp := fun vs H Q E => ∃ θ β ps R E', vs.length = n ∧ Rel K θ β β (vs.map some) H ps ∧ S ps R E' ∧
  (∀ v H' d os, Rel K θ β β (vs.map some) H' os → Ex (hidS (Sof θ β) H) (hidS (Sof θ β) H') → (∀ b, θ b → FrO (H b) (H' b)) → Dp K (hidS (Sof θ β) H') v d → R d os → Q v H') ∧
  ∀ H' c os, Rel K θ β β (vs.map some) H' os → Ex (hidS (Sof θ β) H) (hidS (Sof θ β) H') → (∀ b, θ b → FrO (H b) (H' b)) → E' c os → E (.ref c) none H'
def toSpF (K : PySem.W.Frag) (n : Nat) (S : WFF) : Sp := fun vs H Q E => ∃ θ β ps R E', vs.length = n ∧ Rel K θ β β (vs.map some) H ps ∧ S ps R E' ∧
  (∀ p xs H' ds os, Rel K (th θ p) β β (vs.map some) H' os → Ex (hidS (Sof θ β) H) (hidS (Sof (th θ p) β) H') → (∀ b, θ b → FrO (H b) (H' b)) → ¬ θ p → H' p = some (.lst xs) → DpAll K (hidS (Sof (th θ p) β) H') xs ds → R ds os → Q (.ref p) H') ∧
  ∀ H' c os, Rel K θ β β (vs.map some) H' os → Ex (hidS (Sof θ β) H) (hidS (Sof θ β) H') → (∀ b, θ b → FrO (H b) (H' b)) → E' c os → E (.ref c) none H'
/-- the callee's view of the caller's state -/
structure View (K : PySem.W.Frag) (θ : Addr → Prop) (π α : Nat → Option Addr) (σ : L2.St) (ρ : En) (vs : List V) (as : List Ar) (θ' : Addr → Prop) (β : Nat → Option Addr) : Prop where
  hid : ∀ b, Sof θ' β b ↔ Sof θ α b
  sub : ∀ b, θ b → θ' b
  back : ∀ H0 H1 os, Rel K θ π α σ H0 ρ → Rel K θ' β β (vs.map some) H1 os → Ex (hidS (Sof θ α) H0) (hidS (Sof θ α) H1) → (∀ b, θ' b → FrO (H0 b) (H1 b)) → Rel K θ π α σ H1 (upds ρ as os)
  backF : ∀ H0 H1 os p, Rel K θ π α σ H0 ρ → Rel K (th θ' p) β β (vs.map some) H1 os → Ex (hidS (Sof θ α) H0) (hidS (Sof (th θ p) α) H1) → (∀ b, θ' b → FrO (H0 b) (H1 b)) → ¬ θ' p → Rel K (th θ p) π α σ H1 (upds ρ as os)
theorem view_of {vs : List V} {as : List Ar} {ps : List Sl} (r : Rel K θ π α σ H ρ) (ha : ArAll K σ (hidS (Sof θ α) H) vs as) (hp : pars ρ as = some ps) (nd : (ios as).Nodup) :
    ∃ θ' β, Rel K θ' β β (vs.map some) H ps ∧ View K θ π α σ ρ vs as θ' β := by
  obtain ⟨hl, hat⟩ := pars_at hp
  have hva := arA_len ha
  let β : Nat → Option Addr := fun k => match as[k]? with
    | some (.io j) => α j
    | _ => none
  let θ' : Addr → Prop := fun b => θ b ∨ ∃ i, α i = some b ∧ i ∉ ios as
  have hβ : ∀ (k : Nat) (a : Addr), β k = some a → ∃ j : Nat, as[k]? = some (Ar.io j) ∧ α j = some a := fun k a q => by
    simp only [β] at q
    split at q
    · rename_i j e; exact ⟨j, e, q⟩
    · cases q
  have hβ' : ∀ (k j : Nat), as[k]? = some (Ar.io j) → β k = α j := fun k j q => by simp only [β]; rw [q]
  have hid : ∀ b, Sof θ' β b ↔ Sof θ α b := fun b => by
    constructor
    · rintro ((h | ⟨i, h, _⟩) | ⟨k, h⟩)
      · exact .inl h
      · exact .inr ⟨i, h⟩
      · obtain ⟨j, _, h⟩ := hβ k b h; exact .inr ⟨j, h⟩
    · rintro (h | ⟨i, h⟩)
      · exact .inl (.inl h)
      · by_cases m : i ∈ ios as
        · obtain ⟨k, q⟩ := ios_of m
          exact .inr ⟨k, by rw [hβ' k i q]; exact h⟩
        · exact .inl (.inr ⟨i, h, m⟩)
  have hS : Sof θ' β = Sof θ α := funext fun b => propext (hid b)
  have inj : ∀ i j a, β i = some a → β j = some a → i = j := fun i j a q1 q2 => by
    obtain ⟨x, e1, f1⟩ := hβ i a q1
    obtain ⟨y, e2, f2⟩ := hβ j a q2
    obtain rfl := r.inj x y a f1 f2
    exact ios_inj nd e1 e2
  have hioAt : ∀ (k j : Nat), as[k]? = some (Ar.io j) → ∃ a ds xs, α j = some a ∧ β k = some a ∧ (vs.map some)[k]? = some (some (V.ref a)) ∧ ps[k]? = some (.io ds) ∧ H a = some (.lst xs) ∧ DpAll K (hidS (Sof θ α) H) xs ds := fun k j q => by
    obtain ⟨ds, e1, e2⟩ := (hat k).2 j q
    obtain ⟨x, e3, e4⟩ := arA_at ha q
    have e4 : σ[j]? = some (some x) := e4
    rcases e2 with e2 | e2
    · obtain ⟨a, xs, z1, z2, z3, z4, z5⟩ := r.sl j _ e2
      rw [z3] at e4; cases e4
      exact ⟨a, ds, xs, z1, by rw [hβ' k j q]; exact z1, by rw [List.getElem?_map, e3]; rfl, e1, z4, z5⟩
    · obtain ⟨a, xs, z1, z2, z3, z4, z5⟩ := r.sl j _ e2
      rw [z3] at e4; cases e4
      exact ⟨a, ds, xs, z1, by rw [hβ' k j q]; exact z1, by rw [List.getElem?_map, e3]; rfl, e1, z4, z5⟩
  have live' : ∀ b, θ' b → H b ≠ none := fun b h => by
    rcases h with h | ⟨i, h, _⟩
    · exact r.lv b h
    · obtain ⟨xs, z⟩ := r.owned h; rw [z]; intro q; cases q
  refine ⟨θ', β, ⟨by rw [List.length_map, hva, hl], inj, fun i a q z => ?_, live', fun i a q => ?_, fun i a q => ?_, fun b h => ⟨.inl (r.tb b h).1, (r.tb b h).2⟩, fun k s q => ?_⟩, ⟨hid, fun b h => .inl h, fun H0 H1 os r0 R ex fr => ?_, fun H0 H1 os p r0 R ex fr np => ?_⟩⟩
  · obtain ⟨j, e1, f1⟩ := hβ i a q
    rcases z with z | ⟨l, z, n⟩
    · exact r.ap j a f1 z
    · obtain rfl := r.inj j l a f1 z
      exact n (ios_at e1)
  · obtain ⟨j, e1, f1⟩ := hβ i a q
    obtain ⟨_, ds, _, _, _, _, z, _⟩ := hioAt i j e1
    exact ⟨_, z, trivial⟩
  · obtain ⟨j, e1, f1⟩ := hβ i a q
    obtain ⟨_, ds, _, _, _, _, z, _⟩ := hioAt i j e1
    exact ⟨ds, z⟩
  · have hk : k < as.length := by rw [← hl]; exact (List.getElem?_eq_some_iff.mp q).1
    cases e : as[k]? with
    | none => rw [List.getElem?_eq_none_iff] at e; omega
    | some a =>
      cases a with
      | v d =>
        have z := (hat k).1 d e
        rw [q] at z
        cases z
        obtain ⟨x, e3, e4⟩ := arA_at ha e
        exact ⟨x, by rw [List.getElem?_map, e3]; rfl, by rw [hS]; exact e4⟩
      | io j =>
        obtain ⟨a, ds, xs, z1, z2, z3, z4, z5, z6⟩ := hioAt k j e
        rw [q] at z4
        cases z4
        exact ⟨a, xs, z2, z2, z3, z5, by rw [hS]; exact z6⟩
  · have hos : os.length = as.length := by rw [R.len, List.length_map, hva]
    have hall : ∀ (i : Nat) (s : Sl), os[i]? = some s → ∀ l : Nat, as[i]? = some (Ar.io l) → ∃ e, s = Sl.io e := fun i s q l q2 => by
      obtain ⟨a, _, _, _, z2, _⟩ := hioAt i l q2
      obtain ⟨es, z⟩ := R.pin i a z2
      rw [q] at z; cases z; exact ⟨es, rfl⟩
    have hin : ∀ i, i ∈ ios as → ∃ (k : Nat) (a : Addr) (es : List D), as[k]? = some (Ar.io i) ∧ α i = some a ∧ β k = some a ∧ os[k]? = some (Sl.io es) ∧ ((∃ ds, ρ[i]? = some (Sl.ow ds)) ∨ ∃ ds, ρ[i]? = some (Sl.io ds)) ∧ (∀ ds, ρ[i]? = some (.ow ds) → (upds ρ as os)[i]? = some (.ow es)) ∧ (∀ ds, ρ[i]? = some (.io ds) → (upds ρ as os)[i]? = some (.io es)) := fun i m => by
      obtain ⟨k, q⟩ := ios_of m
      obtain ⟨a, _, _, z1, z2, _⟩ := hioAt k i q
      obtain ⟨es, z⟩ := R.pin k a z2
      obtain ⟨ds, _, w⟩ := (hat k).2 i q
      obtain ⟨u1, u2⟩ := upds_in (ρ := ρ) (os := os) nd q z hall hos.symm
      exact ⟨k, a, es, q, z1, z2, z, w.elim (fun w => .inl ⟨ds, w⟩) (fun w => .inr ⟨ds, w⟩), u1, u2⟩
    refine ⟨by rw [upds_len]; exact r0.len, r0.inj, r0.ap, fun b h => (fr b (.inl h)).ne (r0.lv b h), fun i a q => ?_, fun i a q => ?_, fun b h => ⟨(r0.tb b h).1, (fr b (.inl (r0.tb b h).1)).tb (r0.tb b h).2⟩, fun i s q => ?_⟩
    · by_cases m : i ∈ ios as
      · obtain ⟨k, _, es, _, _, _, _, w, u1, u2⟩ := hin i m
        rcases w with ⟨ds, w⟩ | ⟨ds, w⟩
        · exact ⟨_, u1 ds w, trivial⟩
        · exact ⟨_, u2 ds w, trivial⟩
      · obtain ⟨s, z1, z2⟩ := r0.dom i a q
        exact ⟨s, by rw [upds_out m]; exact z1, z2⟩
    · obtain ⟨ds, z⟩ := r0.pin i a q
      by_cases m : i ∈ ios as
      · obtain ⟨k, _, es, _, _, _, _, w, u1, u2⟩ := hin i m
        exact ⟨es, u2 ds z⟩
      · exact ⟨ds, by rw [upds_out m]; exact z⟩
    · by_cases m : i ∈ ios as
      · obtain ⟨k, a, es, e1, z1, z2, z3, w, u1, u2⟩ := hin i m
        obtain ⟨a2, ys, y1, y2, y3, y4, y5⟩ := R.sl k _ z3
        rw [z2] at y1; cases y1
        rcases w with ⟨ds, w⟩ | ⟨ds, w⟩
        · rw [u1 ds w] at q
          cases q
          obtain ⟨b, xs, x1, x2, x3, x4, x5⟩ := r0.sl i _ w
          rw [z1] at x1; cases x1
          exact ⟨a, ys, z1, x2, x3, y4, by rw [hS] at y5; exact y5⟩
        · rw [u2 ds w] at q
          cases q
          obtain ⟨b, xs, x1, x2, x3, x4, x5⟩ := r0.sl i _ w
          rw [z1] at x1; cases x1
          exact ⟨a, ys, z1, x2, x3, y4, by rw [hS] at y5; exact y5⟩
      · rw [upds_out m] at q
        exact (r0.sl i s q).re rfl ex fun a xs z y => ((fr a (.inr ⟨i, z, m⟩)).lst y).trans y
  · have hSF : Sof (th θ' p) β = Sof (th θ p) α := funext fun b => propext (by rw [Sof_th, Sof_th, hid b])
    have hos : os.length = as.length := by rw [R.len, List.length_map, hva]
    have hall : ∀ (i : Nat) (s : Sl), os[i]? = some s → ∀ l : Nat, as[i]? = some (Ar.io l) → ∃ e, s = Sl.io e := fun i s q l q2 => by
      obtain ⟨a, _, _, _, z2, _⟩ := hioAt i l q2
      obtain ⟨es, z⟩ := R.pin i a z2
      rw [q] at z; cases z; exact ⟨es, rfl⟩
    have hin : ∀ i, i ∈ ios as → ∃ (k : Nat) (a : Addr) (es : List D), as[k]? = some (Ar.io i) ∧ α i = some a ∧ β k = some a ∧ os[k]? = some (Sl.io es) ∧ ((∃ ds, ρ[i]? = some (Sl.ow ds)) ∨ ∃ ds, ρ[i]? = some (Sl.io ds)) ∧ (∀ ds, ρ[i]? = some (.ow ds) → (upds ρ as os)[i]? = some (.ow es)) ∧ (∀ ds, ρ[i]? = some (.io ds) → (upds ρ as os)[i]? = some (.io es)) := fun i m => by
      obtain ⟨k, q⟩ := ios_of m
      obtain ⟨a, _, _, z1, z2, _⟩ := hioAt k i q
      obtain ⟨es, z⟩ := R.pin k a z2
      obtain ⟨ds, _, w⟩ := (hat k).2 i q
      obtain ⟨u1, u2⟩ := upds_in (ρ := ρ) (os := os) nd q z hall hos.symm
      exact ⟨k, a, es, q, z1, z2, z, w.elim (fun w => .inl ⟨ds, w⟩) (fun w => .inr ⟨ds, w⟩), u1, u2⟩
    refine ⟨by rw [upds_len]; exact r0.len, r0.inj, fun i a q z => ?ap, fun b h => ?lv, fun i a q => ?_, fun i a q => ?_, fun b h => ⟨.inl (r0.tb b h).1, (fr b (.inl (r0.tb b h).1)).tb (r0.tb b h).2⟩, fun i s q => ?_⟩
    case ap =>
      rcases z with z | z
      · exact r0.ap i a q z
      · by_cases m : i ∈ ios as
        · obtain ⟨k, a2, es, _, z1, z2, _⟩ := hin i m
          rw [q] at z1; cases z1
          exact R.ap k a z2 (.inr z)
        · subst z; exact np (.inr ⟨i, q, m⟩)
    case lv =>
      rcases h with h | h
      · exact (fr b (.inl h)).ne (r0.lv b h)
      · exact R.lv b (.inr h)
    · by_cases m : i ∈ ios as
      · obtain ⟨k, _, es, _, _, _, _, w, u1, u2⟩ := hin i m
        rcases w with ⟨ds, w⟩ | ⟨ds, w⟩
        · exact ⟨_, u1 ds w, trivial⟩
        · exact ⟨_, u2 ds w, trivial⟩
      · obtain ⟨s, z1, z2⟩ := r0.dom i a q
        exact ⟨s, by rw [upds_out m]; exact z1, z2⟩
    · obtain ⟨ds, z⟩ := r0.pin i a q
      by_cases m : i ∈ ios as
      · obtain ⟨k, _, es, _, _, _, _, w, u1, u2⟩ := hin i m
        exact ⟨es, u2 ds z⟩
      · exact ⟨ds, by rw [upds_out m]; exact z⟩
    · by_cases m : i ∈ ios as
      · obtain ⟨k, a, es, e1, z1, z2, z3, w, u1, u2⟩ := hin i m
        obtain ⟨a2, ys, y1, y2, y3, y4, y5⟩ := R.sl k _ z3
        rw [z2] at y1; cases y1
        rcases w with ⟨ds, w⟩ | ⟨ds, w⟩
        · rw [u1 ds w] at q
          cases q
          obtain ⟨b, xs, x1, x2, x3, x4, x5⟩ := r0.sl i _ w
          rw [z1] at x1; cases x1
          exact ⟨a, ys, z1, x2, x3, y4, by rw [hSF] at y5; exact y5⟩
        · rw [u2 ds w] at q
          cases q
          obtain ⟨b, xs, x1, x2, x3, x4, x5⟩ := r0.sl i _ w
          rw [z1] at x1; cases x1
          exact ⟨a, ys, z1, x2, x3, y4, by rw [hSF] at y5; exact y5⟩
      · rw [upds_out m] at q
        exact (r0.sl i s q).re rfl ex fun a xs z y => ((fr a (.inr ⟨i, z, m⟩)).lst y).trans y
end
end Den

namespace Den
variable [Tbs]
open PySem L2 Evl PySem.Spec PyProof.Rows
open Classical
section
variable {K : PySem.W.Frag} {W : WX} {X : Cx} {θ : Addr → Prop} {π α : Nat → Option Addr} {σ σ2 : L2.St} {H H1 : Hp} {ρ : En} {p : Addr} {o : HO} {n : Nat}

/-! calls -/
def wCall (S : WF) (wm : WM) : WE := fun ρ R E => wm ρ (fun as ρ2 => ∃ ps, pars ρ2 as = some ps ∧ (ios as).Nodup ∧ S ps (fun d os => R d (upds ρ2 as os)) (fun c os => E c (upds ρ2 as os))) E
def wCall0 (S : WF) (wm : WM) : WE := fun ρ R E => wm ρ (fun as ρ2 => ∃ ps, pars ρ2 as = some ps ∧ (ios as).Nodup ∧ S ps (fun d os => R d (upds ρ2 as os)) NoE) E
def wCallF (S : WFF) (wm : WM) : WA := fun ρ R E => wm ρ (fun as ρ2 => ∃ ps, pars ρ2 as = some ps ∧ (ios as).Nodup ∧ S ps (fun d os => R d (upds ρ2 as os)) (fun c os => E c (upds ρ2 as os))) E
theorem hid_eq {θ' : Addr → Prop} {β : Nat → Option Addr} (h : ∀ b, Sof θ' β b ↔ Sof θ α b) : Sof θ' β = Sof θ α := funext fun b => propext (h b)
theorem can_call {S : WF} {wm : WM} {t : TA} (hc : ∀ σ H Q, cM K W n wm σ H Q → t σ H Q) (σ : L2.St) (H : Hp) (Q : VK) : cE K W (wCall S wm) σ H Q → tCallS (toSp K n S) (L2.WE W) t σ H Q := by
  rintro ⟨θ, π, α, ρ, R, E, hR, hw, hq, he⟩
  refine hc _ _ _ ⟨θ, π, α, ρ, _, E, hR, hw, fun α2 vs H2 as ρ2 R2 s2 p2 l2 w2 => ?_, he⟩
  obtain ⟨ps, hp, nd, hS⟩ := w2
  obtain ⟨θ', β, r, v⟩ := view_of R2 p2 hp nd
  have hh := hid_eq v.hid
  refine ⟨θ', β, ps, _, _, by rw [arA_len p2, l2], r, hS, fun u H' d os r' ex fr dp hr => ?_, fun H' c os r' ex fr hr => ?_⟩
  · rw [hh] at ex dp
    have R3 := v.back H2 H' os R2 r' ex fr
    exact hq α2 u H' d _ R3 (s2.trans ⟨ex, fun b hb => fr b (v.sub b hb)⟩) dp hr
  · rw [hh] at ex
    have R3 := v.back H2 H' os R2 r' ex fr
    exact he α2 σ H' c _ R3 (s2.trans ⟨ex, fun b hb => fr b (v.sub b hb)⟩) hr
theorem can_call0 {S : WF} {wm : WM} {t : TA} (hc : ∀ σ H Q, cM K W n wm σ H Q → t σ H Q) (σ : L2.St) (H : Hp) (Q : VK) : cE K W (wCall0 S wm) σ H Q → tCall (toSp K n S) [] E0 t σ H Q := by
  rintro ⟨θ, π, α, ρ, R, E, hR, hw, hq, he⟩
  refine hc _ _ _ ⟨θ, π, α, ρ, _, E, hR, hw, fun α2 vs H2 as ρ2 R2 s2 p2 l2 w2 => ?_, he⟩
  obtain ⟨ps, hp, nd, hS⟩ := w2
  obtain ⟨θ', β, r, v⟩ := view_of R2 p2 hp nd
  have hh := hid_eq v.hid
  rw [List.append_nil]
  refine ⟨θ', β, ps, _, _, by rw [arA_len p2, l2], r, hS, fun u H' d os r' ex fr dp hr => ?_, fun H' c os r' ex fr hr => hr.elim⟩
  rw [hh] at ex dp
  have R3 := v.back H2 H' os R2 r' ex fr
  exact hq α2 u H' d _ R3 (s2.trans ⟨ex, fun b hb => fr b (v.sub b hb)⟩) dp hr
theorem can_callF {S : WFF} {wm : WM} {t : TA} (hc : ∀ σ H Q, cM K W n wm σ H Q → t σ H Q) (σ : L2.St) (H : Hp) (Q : VK) : cF K W (wCallF S wm) σ H Q → tCallS (toSpF K n S) (L2.WE W) t σ H Q := by
  rintro ⟨θ, π, α, ρ, R, E, hR, hw, hq, he⟩
  refine hc _ _ _ ⟨θ, π, α, ρ, _, E, hR, hw, fun α2 vs H2 as ρ2 R2 s2 p2 l2 w2 => ?_, he⟩
  obtain ⟨ps, hp, nd, hS⟩ := w2
  obtain ⟨θ', β, r, v⟩ := view_of R2 p2 hp nd
  have hh := hid_eq v.hid
  refine ⟨θ', β, ps, _, _, by rw [arA_len p2, l2], r, hS, fun p xs H' ds os r' ex fr np h1 dp hr => ?_, fun H' c os r' ex fr hr => ?_⟩
  · have hF : Sof (th θ' p) β = Sof (th θ p) α2 := funext fun b => propext (by rw [Sof_th, Sof_th, v.hid b])
    rw [hh, hF] at ex
    rw [hF] at dp
    have R3 := v.backF H2 H' os p R2 r' ex fr np
    exact hq α2 p xs H' ds _ R3 ⟨s2.1.trans ex, fun b hb => (s2.2 b hb).trans (fr b (v.sub b hb))⟩ (fun z => np (v.sub p z)) h1 dp hr
  · rw [hh] at ex
    have R3 := v.back H2 H' os R2 r' ex fr
    exact he α2 σ H' c _ R3 (s2.trans ⟨ex, fun b hb => fr b (v.sub b hb)⟩) hr
theorem passLN {X : Cx} : Passes (L2N.CX X.prog X.w) X E0 := fun _ _ _ _ _ _ _ h => by
  obtain ⟨_, _, _, _, _, _, _, _, _, _, _, _, z⟩ := h
  exact z.elim
section
variable {k : Nat} {f : Addr} {fd : FuncData} {ps : List Str} {S : WF} {SF : WFF} {x : Str} {q pos : Pos} {e : Expr} {es : List Expr} {wm : WM}
theorem dCall (F : FnOk X.prog X.w X.K X.mg X.base (L2N.CX X.prog X.w) k f fd ps (toSp X.K n S)) (hr : Room k X.A) (hg : Gl X x) (hm : X.mg x = some (.ref f)) (hk : PySem.W.keepIn X.K (.ref f) = true) (hb : Binds X.K fd ps []) (tk : L2N.Takes X W)
    (ha : PA X (e :: es) (cM X.K W n wm)) (hdb : (x == ("__debug__" : Str)) = false := by decide) (he : starEach (e :: es) X.env = (false, eval e X.env) :: starEach es X.env := by rfl) (hpl : (backTo pos (starEach es X.env)).any (·.1) = false := by rfl) :
    PE X (.Call (.Name x q) (e :: es) [] pos) (cE X.K W (wCall S wm)) := peI (pe_callS F hr hg hm hk hb (fun σ => L2N.passAt tk σ) ha hdb he hpl) (can_call (fun _ _ _ h => h))
theorem dCall0 (F : FnOk X.prog X.w X.K X.mg X.base (L2N.CX X.prog X.w) k f fd ps (toSp X.K n S)) (hr : Room k X.A) (hg : Gl X x) (hm : X.mg x = some (.ref f)) (hk : PySem.W.keepIn X.K (.ref f) = true) (hb : Binds X.K fd ps [])
    (ha : PA X (e :: es) (cM X.K W n wm)) (hdb : (x == ("__debug__" : Str)) = false := by decide) (he : starEach (e :: es) X.env = (false, eval e X.env) :: starEach es X.env := by rfl) (hpl : (backTo pos (starEach es X.env)).any (·.1) = false := by rfl) :
    PE X (.Call (.Name x q) (e :: es) [] pos) (cE X.K W (wCall0 S wm)) := peI (pe_call F hr hg hm hk hb .nil passLN ha hdb he hpl) (can_call0 (fun _ _ _ h => h))
theorem dCallF (F : FnOk X.prog X.w X.K X.mg X.base (L2N.CX X.prog X.w) k f fd ps (toSpF X.K n SF)) (hr : Room k X.A) (hg : Gl X x) (hm : X.mg x = some (.ref f)) (hk : PySem.W.keepIn X.K (.ref f) = true) (hb : Binds X.K fd ps []) (tk : L2N.Takes X W)
    (ha : PA X (e :: es) (cM X.K W n wm)) (hdb : (x == ("__debug__" : Str)) = false := by decide) (he : starEach (e :: es) X.env = (false, eval e X.env) :: starEach es X.env := by rfl) (hpl : (backTo pos (starEach es X.env)).any (·.1) = false := by rfl) :
    PE X (.Call (.Name x q) (e :: es) [] pos) (cF X.K W (wCallF SF wm)) := peI (pe_callS F hr hg hm hk hb (fun σ => L2N.passAt tk σ) ha hdb he hpl) (can_callF (fun _ _ _ h => h))
end

/-! a def by its body -/
def finS : Option Sl → Sl
  | some (.io ds) => .io ds
  | _ => .no
def fin (n : Nat) (ρ : En) : En := (List.range n).map fun i => finS ρ[i]?
def bxOf (n : Nat) (R : RC) (E : EC) : Bx := { nx := fun ρ => R .none (fin n ρ), rt := fun d ρ => R d (fin n ρ), rs := fun c ρ => E c (fin n ρ) }
theorem start_rel {vs : List V} {ps : List Sl} {N : List Str} {β : Nat → Option Addr} (r : Rel K θ β β (vs.map some) H ps) : Rel K θ β β (L2.start N vs) H (ps ++ List.replicate (N.length - vs.length) .no) := by
  have hl : ps.length = vs.length := by rw [r.len, List.length_map]
  have hβ : ∀ i a, β i = some a → i < ps.length := fun i a q => by
    obtain ⟨s, z, _⟩ := r.dom i a q
    exact (List.getElem?_eq_some_iff.mp z).1
  refine ⟨by simp [L2.start, hl], r.inj, r.ap, r.lv, fun i a q => ?_, fun i a q => ?_, r.tb, fun i s q => ?_⟩
  · obtain ⟨s, z⟩ := r.dom i a q
    exact ⟨s, by rw [List.getElem?_append_left (hβ i a q)]; exact z.1, z.2⟩
  · obtain ⟨s, z⟩ := r.pin i a q
    exact ⟨s, by rw [List.getElem?_append_left (hβ i a q)]; exact z⟩
  · by_cases hi : i < ps.length
    · rw [List.getElem?_append_left hi] at q
      have z := r.sl i s q
      have es : (L2.start N vs)[i]? = (vs.map some)[i]? := by
        unfold L2.start
        exact List.getElem?_append_left (by rw [List.length_map, ← hl]; exact hi)
      cases s with
      | no => trivial
      | va d => obtain ⟨w, z1, z2⟩ := z; exact ⟨w, es.trans z1, z2⟩
      | ow ds => obtain ⟨a, vs, z1, z2, z3, z4⟩ := z; exact ⟨a, vs, z1, z2, es.trans z3, z4⟩
      | io ds => obtain ⟨a, vs, z1, z2, z3, z4⟩ := z; exact ⟨a, vs, z1, z2, es.trans z3, z4⟩
      | ex a => exact es.trans z
    · rw [List.getElem?_append_right (by omega)] at q
      obtain ⟨_, e⟩ := List.getElem?_eq_some_iff.mp q
      simp at e
      subst e
      trivial
/-- at a def's end: the parameters that were lent -/
theorem fin_rel {θ' : Addr → Prop} {vs : List V} {ps : List Sl} {β α' : Nat → Option Addr} {σ' : L2.St} {H' : Hp} {ρ' : En} (r : Rel K θ β β (vs.map some) H ps) (r' : Rel K θ' β α' σ' H' ρ') (s : Ex (hidS (Sof θ β) H) (hidS (Sof θ' α') H')) :
    Rel K θ' β β (vs.map some) H' (fin vs.length ρ') ∧ Ex (hidS (Sof θ β) H) (hidS (Sof θ' β) H') ∧ Ex (hidS (Sof θ' α') H') (hidS (Sof θ' β) H') := by
  have hio : ∀ i a, β i = some a → α' i = some a := fun i a h => by
    obtain ⟨ds, z⟩ := r'.pin i a h
    obtain ⟨b, xs, z1, z2, _⟩ := r'.sl i _ z
    rw [h] at z2; cases z2
    exact z1
  have hsub : ∀ b, Sof θ' β b → Sof θ' α' b := fun b h => by
    rcases h with h | ⟨i, h⟩
    · exact .inl h
    · exact .inr ⟨i, hio i b h⟩
  have hx : Ex (hidS (Sof θ' α') H') (hidS (Sof θ' β) H') := fun b o q => by
    unfold hidS at q ⊢
    split at q
    · cases q
    · rename_i h
      rw [if_neg (fun z => h (hsub b z))]
      exact q
  have hl : ps.length = vs.length := by rw [r.len, List.length_map]
  have hβ : ∀ i a, β i = some a → i < vs.length := fun i a q => by
    obtain ⟨s, z, _⟩ := r.dom i a q
    have := (List.getElem?_eq_some_iff.mp z).1
    omega
  have hf : ∀ i, i < vs.length → (fin vs.length ρ')[i]? = some (finS ρ'[i]?) := fun i hi => by
    unfold fin
    rw [List.getElem?_map, List.getElem?_range hi]
    rfl
  refine ⟨⟨?_, r.inj, fun i a h => r'.ap i a (hio i a h), fun b h => r'.lv b h, fun i a q => ?_, fun i a q => ?_, r'.tb, fun i s q => ?_⟩, s.trans hx, hx⟩
  · unfold fin
    rw [List.length_map, List.length_range, List.length_map]
  · obtain ⟨ds, z⟩ := r'.pin i a q
    exact ⟨.io ds, by rw [hf i (hβ i a q), z]; rfl, trivial⟩
  · obtain ⟨ds, z⟩ := r'.pin i a q
    exact ⟨ds, by rw [hf i (hβ i a q), z]; rfl⟩
  · have hi : i < vs.length := by
      have := (List.getElem?_eq_some_iff.mp q).1
      unfold fin at this
      rw [List.length_map, List.length_range] at this
      exact this
    rw [hf i hi] at q
    cases q
    cases e : ρ'[i]? with
    | none => trivial
    | some s0 =>
      cases s0 with
      | io ds =>
        obtain ⟨a, xs, z1, z2, z3, z4, z5⟩ := r'.sl i _ e
        obtain ⟨s2, y, y0⟩ := r.dom i a z2
        obtain ⟨es, y⟩ := r.pin i a z2
        obtain ⟨b, ys, y1, y2, y3, y4, y5⟩ := r.sl i _ y
        rw [z2] at y1; cases y1
        exact ⟨a, xs, z2, z2, y3, z4, dpA_mono hx z5⟩
      | no => trivial
      | va d => trivial
      | ow ds => trivial
      | ex a => trivial
def bxF (n : Nat) (R : List D → En → Prop) (E : EC) : Bx := { nx := fun _ => False, rt := fun _ _ => False, rf := fun d ρ => R d (fin n ρ), rs := fun c ρ => E c (fin n ρ) }
theorem fnF {x qual : Str} {st : Stmt} {f : Addr} {fd : FuncData} {N ps : List Str} {k : Nat} {P : Program} {w : World} {mg : Str → Option Value} {base : Heap} {S : WFF} {wb : WS} (F : Fun K x qual st f fd) (Sc : FnScope N ps (defScope st))
    (hb : ∀ (cdv : Value) (A : Around) (outer : List Env) (s : Shared) (H : Hp) (E : XK), Room k (A.deeper (envOfC qual (defScope st) s.heap.objs.size f cdv)) →
      PSs (cxOf (L2N.CX P w) P w K mg base N qual (defScope st) f cdv A outer s H E) (defBody st) (cS K (fun cls d _ H => E cls d H) wb))
    (hw : ∀ pr R E, S pr R E → wb (bxF ps.length R E) (pr ++ List.replicate (N.length - ps.length) .no)) : FnOk P w K mg base (L2N.CX P w) (k + 1) f fd ps (toSpF K ps.length S) := by
  obtain ⟨oc, od, kV, doc, pm, an, cdv, ct, osl, rfl, lk, hcd⟩ := F.ex
  refine fn_of lk hcd Sc (fun vs H Q E ⟨_, _, _, _, _, h, _⟩ => h) fun A outer s H vs Q E hr hsp => ⟨_, hb cdv A outer s H E hr, ?_⟩
  obtain ⟨θ, β, pr, R, E', hl, r, hS, hq, he⟩ := hsp
  have e := hw pr R E' hS
  rw [← hl] at e
  refine ⟨θ, β, β, _, _, start_rel r, e, ⟨fun _ _ _ _ _ _ h => h.elim, fun _ _ _ _ _ _ h => h.elim, fun _ _ _ _ _ _ h => h.elim, fun _ _ _ _ _ _ _ _ _ h => h.elim, fun α' σ' p xs H' ds ρ' r' s' np h1 dp h => ?_, fun α' σ' H' c ρ' r' s' h => ?_⟩⟩
  · obtain ⟨r2, x1, x2⟩ := fin_rel r r' s'.1
    exact hq p xs H' ds _ r2 x1 s'.2 np h1 (dpA_mono x2 dp) h
  · obtain ⟨r2, x1, x2⟩ := fin_rel r r' s'.1
    exact he H' c _ r2 x1 s'.2 h
theorem fnS {x qual : Str} {st : Stmt} {f : Addr} {fd : FuncData} {N ps : List Str} {k : Nat} {P : Program} {w : World} {mg : Str → Option Value} {base : Heap} {S : WF} {wb : WS} (F : Fun K x qual st f fd) (Sc : FnScope N ps (defScope st))
    (hb : ∀ (cdv : Value) (A : Around) (outer : List Env) (s : Shared) (H : Hp) (E : XK), Room k (A.deeper (envOfC qual (defScope st) s.heap.objs.size f cdv)) →
      PSs (cxOf (L2N.CX P w) P w K mg base N qual (defScope st) f cdv A outer s H E) (defBody st) (cS K (fun cls d _ H => E cls d H) wb))
    (hw : ∀ pr R E, S pr R E → wb (bxOf ps.length R E) (pr ++ List.replicate (N.length - ps.length) .no)) : FnOk P w K mg base (L2N.CX P w) (k + 1) f fd ps (toSp K ps.length S) := by
  obtain ⟨oc, od, kV, doc, pm, an, cdv, ct, osl, rfl, lk, hcd⟩ := F.ex
  refine fn_of lk hcd Sc (fun vs H Q E ⟨_, _, _, _, _, h, _⟩ => h) fun A outer s H vs Q E hr hsp => ⟨_, hb cdv A outer s H E hr, ?_⟩
  obtain ⟨θ, β, pr, R, E', hl, r, hS, hq, he⟩ := hsp
  have e := hw pr R E' hS
  rw [← hl] at e
  refine ⟨θ, β, β, _, _, start_rel r, e, ⟨fun α' σ' H' ρ' r' s' h => ?_, fun _ _ _ _ _ _ h => h.elim, fun _ _ _ _ _ _ h => h.elim, fun α' σ' H' v d ρ' r' s' p h => ?_, fun α' σ' p xs H' ds ρ' r' s' np h1 dp h => ?_, fun α' σ' H' c ρ' r' s' h => ?_⟩⟩
  · obtain ⟨r2, x1, x2⟩ := fin_rel r r' s'.1
    exact hq .non H' .none _ r2 x1 s'.2 .non h
  · obtain ⟨r2, x1, x2⟩ := fin_rel r r' s'.1
    exact hq v H' d _ r2 x1 s'.2 (dp_mono x2 p) h
  · exact h.elim
  · obtain ⟨r2, x1, x2⟩ := fin_rel r r' s'.1
    exact he H' c _ r2 x1 s'.2 h

/-! raise, try -/
theorem Rel.putS {i : Nat} {x : Option V} {s : Sl} (r : Rel K θ π α σ H ρ) (hi : i < ρ.length) (hn : ∀ ds, ρ[i]? ≠ some (.io ds)) (hs : match s with | .no => True | .ex a => x = some (.ref a) | _ => False) :
    ∃ α', Rel K θ π α' (σ.set i x) H (ρ.set i s) ∧ Stp θ α H α' H := by
  have hπ : π i = none := by
    cases q : π i with
    | none => rfl
    | some a => obtain ⟨ds, z⟩ := r.pin i a q; exact absurd z (hn ds)
  have hx : Ex (hidS (Sof θ α) H) (hidS (Sof θ (fun k => if k = i then none else α k)) H) := fun b o q => by
    unfold hidS at q ⊢
    split at q
    · cases q
    · rename_i hh
      rw [if_neg]
      · exact q
      · rintro (z | ⟨k, z⟩)
        · exact hh (.inl z)
        · by_cases e : k = i
          · subst e; simp at z
          · exact hh (.inr ⟨k, by simpa [e] using z⟩)
  refine ⟨fun k => if k = i then none else α k, ⟨by simpa using r.len, fun k l b q1 q2 => ?_, fun k b q => ?_, r.lv, fun k b q => ?_, fun k b q => ?_, r.tb, fun k s' q => ?_⟩, ⟨hx, fun _ _ => FrO.refl _⟩⟩
  · by_cases e1 : k = i
    · subst e1; simp at q1
    · by_cases e2 : l = i
      · subst e2; simp at q2
      · exact r.inj k l b (by simpa [e1] using q1) (by simpa [e2] using q2)
  · by_cases e1 : k = i
    · subst e1; simp at q
    · exact r.ap k b (by simpa [e1] using q)
  · by_cases e1 : k = i
    · subst e1; simp at q
    · obtain ⟨s, z1, z2⟩ := r.dom k b (by simpa [e1] using q)
      exact ⟨s, by rw [List.getElem?_set_ne (Ne.symm e1)]; exact z1, z2⟩
  · have e1 : k ≠ i := fun z => by subst z; rw [hπ] at q; cases q
    obtain ⟨es, z⟩ := r.pin k b q
    exact ⟨es, by rw [List.getElem?_set_ne (Ne.symm e1)]; exact z⟩
  · by_cases e1 : k = i
    · subst e1
      rw [List.getElem?_set_self hi] at q
      cases q
      cases s with
      | no => trivial
      | ex a => exact (List.getElem?_set_self (by rw [← r.len]; exact hi)).trans (by rw [hs])
      | va d => exact hs.elim
      | ow ds => exact hs.elim
      | io ds => exact hs.elim
    · rw [List.getElem?_set_ne (Ne.symm e1)] at q
      have z := (r.sl k s' q).re (θ' := θ) (α' := fun k => if k = i then none else α k) (H' := H) (by simp [e1]) hx fun _ _ _ z => z
      have es : (σ.set i x)[k]? = σ[k]? := List.getElem?_set_ne (Ne.symm e1)
      cases s' with
      | no => trivial
      | va d => obtain ⟨w, z1, z2⟩ := z; exact ⟨w, es.trans z1, z2⟩
      | ow ds => obtain ⟨a, vs, z1, z2, z3, z4⟩ := z; exact ⟨a, vs, z1, z2, es.trans z3, z4⟩
      | io ds => obtain ⟨a, vs, z1, z2, z3, z4⟩ := z; exact ⟨a, vs, z1, z2, es.trans z3, z4⟩
      | ex a => exact es.trans z
abbrev WNo : WX := fun _ _ _ _ => False
def sufB (i : Nat) (B : Bx) : Bx := { nx := fun ρ => asgV i .no ρ B.nx, rt := B.rt, rf := B.rf, bk := fun ρ => asgV i .no ρ B.bk, ct := fun ρ => asgV i .no ρ B.ct, rs := NoE }
def wTry (cat : Addr → Option Bool) (i : Nat) (wb : WS) (ws : Addr → Addr → WS) : WS := fun B ρ => wb { B with rs := fun c ρ' => match cat c with
  | some true => ∀ a, asgV i (.ex a) ρ' fun ρ2 => ws a c (sufB i B) ρ2
  | some false => B.rs c ρ'
  | none => False } ρ
theorem dTry {cat : Addr → Option Bool} {cv : Value} {i : Nat} {s : Stmt} {wb : WS} {ws : Addr → Addr → WS} (hcat : ∀ c b, cat c = some b → PySem.W.exmOne K (.ref c) cv = some b)
    (h : PS X s (fun D σ H => (fun W' => cS K W' wb) (wAs K cv i (fun a cls d => fun D σ H => ∃ c, cls = .ref c ∧ d = none ∧ cS K WNo (ws a c) D σ H) W D) D σ H)) : PS X s (cS K W (wTry cat i wb ws)) := psI h fun De σ H ⟨θ, π, α, ρ, B, hR, hw, hf⟩ => by
  refine ⟨θ, π, α, ρ, _, hR, hw, ⟨hf.nx, hf.bk, hf.ct, hf.rt, hf.rf, fun α' σ' H' c ρ' r s' q => ?_⟩⟩
  dsimp only at q
  cases e : cat c with
  | none => rw [e] at q; exact q.elim
  | some b =>
    rw [e] at q
    refine ⟨b, hcat c b e, fun hb a ha => ?_, fun hb => ?_⟩
    · subst hb
      refine ⟨c, rfl, rfl, ?_⟩
      obtain ⟨a1, a2, a3⟩ := asgV_of (q a)
      obtain ⟨α2, r2, s2⟩ := r.putS (x := some (.ref a)) (s := .ex a) a1 a2 rfl
      have s3 := s'.trans s2
      refine ⟨θ, π, α2, _, _, r2, a3, ⟨fun α4 σ4 H4 ρ4 r4 s4 q4 => ?_, fun α4 σ4 H4 ρ4 r4 s4 q4 => ?_, fun α4 σ4 H4 ρ4 r4 s4 q4 => ?_, (hf.step s3).rt, (hf.step s3).rf, fun _ _ _ _ _ _ _ z => z⟩⟩
      · obtain ⟨b1, b2, b3⟩ := asgV_of q4
        obtain ⟨α5, r5, s5⟩ := r4.putS (x := none) (s := .no) b1 b2 trivial
        exact hf.nx α5 _ H4 _ r5 ((s3.trans s4).trans s5) b3
      · obtain ⟨b1, b2, b3⟩ := asgV_of q4
        obtain ⟨α5, r5, s5⟩ := r4.putS (x := none) (s := .no) b1 b2 trivial
        exact hf.bk α5 _ H4 _ r5 ((s3.trans s4).trans s5) b3
      · obtain ⟨b1, b2, b3⟩ := asgV_of q4
        obtain ⟨α5, r5, s5⟩ := r4.putS (x := none) (s := .no) b1 b2 trivial
        exact hf.ct α5 _ H4 _ r5 ((s3.trans s4).trans s5) b3
    · subst hb
      exact hf.rs α' σ' H' c ρ' r s' q
end
end Den

namespace Den
variable [Tbs]
open PySem L2 Evl PySem.Spec PyProof.Rows
open Classical
section
variable {K : PySem.W.Frag} {W : WX} {X : Cx} {S : Addr → Prop} {H : Hp} {n : Nat}

/-! + -/
def rCatL (K : PySem.W.Frag) : R2 := fun x y H Q => ∃ a b xs ys, x = .ref a ∧ y = .ref b ∧ SqL K H a xs ∧ SqL K H b ys ∧ xs.length + ys.length ≤ sizeLine ∧ ∀ p, H p = none → Q (.ref p) (upd H p (.lst (xs ++ ys)))
theorem op_catL : OpR X (binaryOp .Add) (rCatL X.K) := by
  intro pins s σ H x y v u Q I rx ry h
  obtain ⟨a, b, xs, ys, rfl, rfl, ha, hb, hz, q⟩ := h
  cases rx
  cases ry
  obtain ⟨its, r, ⟨⟨cls, dd, data, sl⟩, n, ho, hc, hdd, hd⟩, _⟩ := I.list ha
  obtain ⟨its2, r2, ⟨⟨cls2, dd2, data2, sl2⟩, n2, ho2, hc2, hdd2, hd2⟩, _⟩ := I.list hb
  simp only at hc hd hc2 hd2
  subst hc hd hc2 hd2
  have hz' : its.toArray.size + its2.toArray.size ≤ sizeLine := by rw [List.size_toArray, List.size_toArray, ← r.length, ← r2.length]; exact hz
  have e : its.toArray ++ its2.toArray = (its ++ its2).toArray := by simp
  refine concat_meets ⟨_, ho, rfl⟩ ⟨_, ho2, rfl⟩ noFill_list_add seq_list_add PySem.F.slot_list_add PySem.F.entry_list_add (PySem.F.args_list_add_2 _ _) (list_addW a b its.toArray its2.toArray n n2 dd dd2 sl sl2 hz') ⟨ho, ho2, ?_⟩
  rw [e]
  exact ⟨.ref _, _, I.lnew (t' := s.toks) (r.append r2) (by rw [List.length_append]; omega), rfl, q _ I.fresh⟩
def rStrAdd : R2 := fun x y H Q => ∃ i j, x = .str i ∧ y = .str j ∧ i.length + j.length ≤ sizeLine ∧ Q (.str (i ++ j)) H
def rAdd' (K : PySem.W.Frag) : R2 := fun x y H Q => rI0 (fun i j => .int (i + j)) x y H Q ∨ rStrAdd x y H Q ∨ rCatL K x y H Q ∨ rCatA K x y H Q
theorem op_addA : OpR X (binaryOp .Add) (rAdd' X.K) := op_add.or (op_add_str.or (op_catL.or op_catA))
def fAdd (d e : D) (k : D → Prop) : Prop := match d, e with
  | .int i, .int j => k (.int (i + j))
  | .str x, .str y => x.length + y.length ≤ sizeLine ∧ k (.str (x ++ y))
  | .list xs, .list ys => xs.length + ys.length ≤ sizeLine ∧ k (.list (xs ++ ys))
  | .tuple xs, .tuple ys => xs.length + ys.length ≤ sizeLine ∧ k (.tuple (xs ++ ys))
  | _, _ => False
theorem dpA_nil {G : Hp} {vs : List V} (h : DpAll K G vs []) : vs = [] := by cases h; rfl
theorem dpA_nil' {G : Hp} {ds : List D} (h : DpAll K G [] ds) : ds = [] := by cases h; rfl
theorem sr_add : SR K (rAdd' K) fAdd := by
  intro S H x y d e Q R lv hx hy hf q
  unfold fAdd at hf
  split at hf
  · cases hx.int; cases hy.int
    exact .inl ⟨_, _, rfl, rfl, q _ H _ (Ex.refl _) (.int _) hf⟩
  · cases hx.str; cases hy.str
    exact .inr (.inl ⟨_, _, rfl, rfl, hf.1, q _ H _ (Ex.refl _) (.str _) hf.2⟩)
  · obtain ⟨a, vs, rfl, h1, h2⟩ := hx.lst
    obtain ⟨b, ws, rfl, h3, h4⟩ := hy.lst
    exact .inr (.inr (.inl ⟨a, b, vs, ws, rfl, rfl, h1, h3, by rw [dpA_len h2, dpA_len h4]; exact hf.1, fun p hp => q _ _ _ (Ex.new hp) (new_lst lv hp (dpA_app h2 h4)) hf.2⟩))
  · rename_i xs ys
    obtain ⟨a, vs, rfl, h1, h2⟩ := hx.tup
    obtain ⟨b, ws, rfl, h3, h4⟩ := hy.tup
    refine .inr (.inr (.inr ⟨a, b, vs, ws, rfl, rfl, h1, h3, by rw [dpA_len h2, dpA_len h4]; exact hf.1, fun e => ?_, fun _ e => ?_, fun _ _ p hp => q _ _ _ (Ex.new hp) (new_tup lv hp (dpA_app h2 h4)) hf.2⟩))
    · subst e
      cases dpA_nil' h2
      have hf2 := hf.2
      rw [List.nil_append] at hf2
      cases hy with
      | val h => exact q _ H _ (Ex.refl _) h hf2
    · subst e
      cases dpA_nil' h4
      have hf2 := hf.2
      rw [List.append_nil] at hf2
      cases hx with
      | val h => exact q _ H _ (Ex.refl _) h hf2
  · exact hf.elim

/-! whole numbers -/
def f2I (C : Int → Int → Prop) (g : Int → Int → D) (d e : D) (k : D → Prop) : Prop := match d, e with
  | .int i, .int j => C i j ∧ k (g i j)
  | _, _ => False
def f2i (g : Int → Int → D) (d e : D) (k : D → Prop) : Prop := match d, e with
  | .int i, .int j => k (g i j)
  | _, _ => False
theorem sr_I {C : Int → Int → Prop} {g : Int → Int → V} {g' : Int → Int → D} (hg : ∀ i j G, Dp K G (g i j) (g' i j)) : SR K (rI C g) (f2I C g') := by
  intro S H x y d e Q R lv hx hy hf q
  unfold f2I at hf
  split at hf
  · cases hx.int; cases hy.int
    exact ⟨_, _, rfl, rfl, hf.1, q _ H _ (Ex.refl _) (hg _ _ _) hf.2⟩
  · exact hf.elim
theorem sr_i {g : Int → Int → V} {g' : Int → Int → D} (hg : ∀ i j G, Dp K G (g i j) (g' i j)) : SR K (rI0 g) (f2i g') := by
  intro S H x y d e Q R lv hx hy hf q
  unfold f2i at hf
  split at hf
  · cases hx.int; cases hy.int
    exact ⟨_, _, rfl, rfl, q _ H _ (Ex.refl _) (hg _ _ _) hf⟩
  · exact hf.elim
abbrev fSub := f2i fun i j => .int (i - j)
theorem sr_sub : SR K (rI0 fun i j => .int (i - j)) fSub := sr_i fun _ _ _ => .int _
abbrev fMul := f2I CMulX fun i j => .int (i * j)
theorem sr_mul : SR K (rI CMulX fun i j => .int (i * j)) fMul := sr_I fun _ _ _ => .int _
def CDivA (_ j : Int) : Prop := j ≠ 0 ∧ j.natAbs.log2 < 9000
theorem op_fdivA : OpR X (binaryOp .FloorDiv) (rI CDivA fun i j => .int (i.fdiv j)) := opI fun _ _ _ _ _ _ _ hc q => floordiv_int hc.1 q (.inl (PyProof.noPylong_of_log2 hc.2))
abbrev fDiv := f2I CDivA fun i j => .int (i.fdiv j)
theorem sr_div : SR K (rI CDivA fun i j => .int (i.fdiv j)) fDiv := sr_I fun _ _ _ => .int _
abbrev fMod := f2I (fun _ j => j ≠ 0) fun i j => .int (i.fmod j)
theorem sr_mod : SR K (rI (fun _ j => j ≠ 0) fun i j => .int (i.fmod j)) fMod := sr_I fun _ _ _ => .int _
abbrev fPow := f2I CPow fun i j => .int (i ^ j.toNat)
theorem sr_pow : SR K (rI CPow fun i j => .int (i ^ j.toNat)) fPow := sr_I fun _ _ _ => .int _
abbrev fShl := f2I CShl fun i j => .int (i * 2 ^ j.toNat)
theorem sr_shl : SR K (rI CShl fun i j => .int (i * 2 ^ j.toNat)) fShl := sr_I fun _ _ _ => .int _
abbrev fShr := f2I (fun _ j => 0 ≤ j) fun i j => .int (i / 2 ^ j.toNat)
theorem sr_shr : SR K (rI (fun _ j => 0 ≤ j) fun i j => .int (i / 2 ^ j.toNat)) fShr := sr_I fun _ _ _ => .int _
abbrev fBand := f2i fun i j => .int (Builtin.bitAnd i j)
theorem sr_band : SR K (rI0 fun i j => .int (Builtin.bitAnd i j)) fBand := sr_i fun _ _ _ => .int _
abbrev fBor := f2i fun i j => .int (Builtin.bitOr i j)
theorem sr_bor : SR K (rI0 fun i j => .int (Builtin.bitOr i j)) fBor := sr_i fun _ _ _ => .int _
abbrev fBxor := f2i fun i j => .int (Builtin.bitXor i j)
theorem sr_bxor : SR K (rI0 fun i j => .int (Builtin.bitXor i j)) fBxor := sr_i fun _ _ _ => .int _
def fNeg (d : D) (k : D → Prop) : Prop := match d with
  | .int i => k (.int (-i))
  | _ => False
theorem su_neg : SU K (rU fun i => .int (-i)) fNeg := by
  intro S H x d Q R lv hx hf q
  unfold fNeg at hf
  split at hf
  · cases hx.int; exact ⟨_, rfl, q _ H _ (Ex.refl _) (.int _) hf⟩
  · exact hf.elim

/-! comparisons -/
abbrev fLt := f2i fun i j => .bool (decide (i < j))
theorem sr_lt : SR K (rI0 fun i j => .bl (decide (i < j))) fLt := sr_i fun _ _ _ => .bl _
abbrev fLe := f2i fun i j => .bool (decide (i ≤ j))
theorem sr_le : SR K (rI0 fun i j => .bl (decide (i ≤ j))) fLe := sr_i fun _ _ _ => .bl _
abbrev fGt := f2i fun i j => .bool (decide (j < i))
theorem sr_gt : SR K (rI0 fun i j => .bl (decide (j < i))) fGt := sr_i fun _ _ _ => .bl _
abbrev fGe := f2i fun i j => .bool (decide (j ≤ i))
theorem sr_ge : SR K (rI0 fun i j => .bl (decide (j ≤ i))) fGe := sr_i fun _ _ _ => .bl _
def rEqA (K : PySem.W.Frag) : R2 := fun x y H Q => rEq x y H Q ∨ rEqD K x y H Q
def rNeA (K : PySem.W.Frag) : R2 := fun x y H Q => rNe x y H Q ∨ rNeD K x y H Q
theorem op_eqA (hu : X.A.units + 64 < cLine) : OpR X (compareOp .Eq) (rEqA X.K) := op_eq.or (op_eqD hu)
theorem op_neA (hu : X.A.units + 64 < cLine) : OpR X (compareOp .NotEq) (rNeA X.K) := op_ne.or (op_neD hu)
def fEq (d e : D) (k : D → Prop) : Prop := match d, e with
  | .int i, .int j => k (.bool (decide (i = j)))
  | .str i, .str j => k (.bool (decide (i = j)))
  | d, e => SeqAt.shaped d = true ∧ SeqAt.shaped e = true ∧ k (.bool (PyData.eqv d e))
def fNe (d e : D) (k : D → Prop) : Prop := match d, e with
  | .int i, .int j => k (.bool (!decide (i = j)))
  | .str i, .str j => k (.bool (!decide (i = j)))
  | d, e => SeqAt.shaped d = true ∧ SeqAt.shaped e = true ∧ k (.bool (!PyData.eqv d e))
theorem sr_eq : SR K (rEqA K) fEq := by
  intro S H x y d e Q R lv hx hy hf q
  unfold fEq at hf
  split at hf
  · cases hx.int; cases hy.int
    exact .inl ⟨rfl, by rw [dec_int]; exact q _ H _ (Ex.refl _) (by rw [Bool.beq_eq_decide_eq]; exact .bl _) hf⟩
  · cases hx.str; cases hy.str
    exact .inl ⟨rfl, by rw [dec_str]; exact q _ H _ (Ex.refl _) (by rw [Bool.beq_eq_decide_eq]; exact .bl _) hf⟩
  · exact .inr ⟨_, _, hx.full, hy.full, hf.1, hf.2.1, q _ H _ (Ex.refl _) (.bl _) hf.2.2⟩
theorem sr_ne : SR K (rNeA K) fNe := by
  intro S H x y d e Q R lv hx hy hf q
  unfold fNe at hf
  split at hf
  · cases hx.int; cases hy.int
    exact .inl ⟨rfl, by rw [dec_int]; exact q _ H _ (Ex.refl _) (by rw [Bool.beq_eq_decide_eq]; exact .bl _) hf⟩
  · cases hx.str; cases hy.str
    exact .inl ⟨rfl, by rw [dec_str]; exact q _ H _ (Ex.refl _) (by rw [Bool.beq_eq_decide_eq]; exact .bl _) hf⟩
  · exact .inr ⟨_, _, hx.full, hy.full, hf.1, hf.2.1, q _ H _ (Ex.refl _) (.bl _) hf.2.2⟩
def fIsB (d e : D) (k : D → Prop) : Prop := match d, e with
  | .bool i, .bool j => k (.bool (decide (i = j)))
  | _, _ => False
def fNotB (d e : D) (k : D → Prop) : Prop := match d, e with
  | .bool i, .bool j => k (.bool (!decide (i = j)))
  | _, _ => False
theorem sr_isB : SR K rIsB fIsB := by
  intro S H x y d e Q R lv hx hy hf q
  unfold fIsB at hf
  split at hf
  · cases hx.bl; cases hy.bl; exact ⟨_, _, rfl, rfl, q _ H _ (Ex.refl _) (.bl _) hf⟩
  · exact hf.elim
theorem sr_notB : SR K rNotB fNotB := by
  intro S H x y d e Q R lv hx hy hf q
  unfold fNotB at hf
  split at hf
  · cases hx.bl; cases hy.bl; exact ⟨_, _, rfl, rfl, q _ H _ (Ex.refl _) (.bl _) hf⟩
  · exact hf.elim
/-- a < b < c -/
def wChain (f f' : D → D → (D → Prop) → Prop) (wa wb wc : WL) : WE := fun ρ R E => wa ρ (fun La ρ1 => wb ρ1 (fun Lb ρ2 => ∃ d e, La ρ2 d ∧ Lb ρ2 e ∧ f d e (fun z => ∃ k, z = .bool k ∧
  if k = true then wc ρ2 (fun Lc ρ3 => ∃ e' g, Lb ρ3 e' ∧ Lc ρ3 g ∧ f' e' g (fun z => R z ρ3)) E else R (.bool false) ρ2)) E) E
theorem can_chain {r r' : R2} {f f' : D → D → (D → Prop) → Prop} (hr : SR K r f) (hr' : SR K r' f') {wa wb wc : WL} (σ : L2.St) (H : Hp) (Q : VK) : cE K W (wChain f f' wa wb wc) σ H Q → tChain r r' (cL K W wa) (cL K W wb) (cL K W wc) σ H Q := by
  rintro ⟨θ, π, α, ρ, R, E, hR, hw, hq, he⟩
  refine ⟨θ, π, α, ρ, _, E, hR, hw, fun α1 v1 H1 L1 ρ1 R1 s1 l1 w1 => ?_, he⟩
  refine ⟨θ, π, α1, ρ1, _, E, R1, w1, fun α2 v2 H2 L2 ρ2 R2 s2 l2 w2 => ?_, he.step s1⟩
  obtain ⟨d, e, hd, he', hf⟩ := w2
  refine hr _ H2 _ _ d e _ _ R2.live (l1 α2 H2 ρ2 R2 s2 d hd) (l2 α2 H2 ρ2 R2 (Stp.refl ..) e he') hf fun v H' c ex dp rc => ?_
  obtain ⟨k, rfl, rc⟩ := rc
  refine ⟨k, dp_b dp, ?_⟩
  have Rx := R2.ext ex
  have sx := (s1.trans s2).trans (R2.stp ex)
  cases k with
  | true =>
    rw [if_pos rfl] at rc
    refine iteT ?_
    refine ⟨θ, π, α2, ρ2, _, E, Rx, rc, fun α3 v3 H3 L3 ρ3 R3 s3 l3 w3 => ?_, he.step sx⟩
    obtain ⟨e', g, h1, h2, h3⟩ := w3
    exact hr' _ H3 _ _ e' g Q _ R3.live (l2 α3 H3 ρ3 R3 ((R2.stp ex).trans s3) e' h1) (l3 α3 H3 ρ3 R3 (Stp.refl ..) g h2) h3 fun v' H4 c' ex' dp' rc' => hq α3 v' H4 c' ρ3 (R3.ext ex') ((sx.trans s3).trans (R3.stp ex')) dp' rc'
  | false =>
    rw [if_neg Bool.false_ne_true] at rc
    refine iteF ?_
    exact hq α2 _ H' _ ρ2 Rx sx (.bl _) rc
theorem dChain {op op' : CmpOp} {r r' : R2} {f f' : D → D → (D → Prop) → Prop} {a b c : Expr} {pos : Pos} {wa wb wc : WL} (ho : OpR X (compareOp op) r) (ho' : OpR X (compareOp op') r') (hr : SR K r f) (hr' : SR K r' f') (ha : PE X a (cL K W wa)) (hb : PE X b (cL K W wb)) (hc : PE X c (cL K W wc))
    (hm : lastMarks [op, op'] [b, c] = false := by with_unfolding_all rfl) : PE X (.Compare a [op, op'] [b, c] pos) (cE K W (wChain f f' wa wb wc)) := peI (pe_chain ho ho' ha hb hc hm) (can_chain hr hr')
theorem dTchain {op op' : CmpOp} {r r' : R2} {f f' : D → D → (D → Prop) → Prop} {a b c : Expr} {pos : Pos} {wa wb wc : WL} (ho : OpR X (compareOp op) r) (ho' : OpR X (compareOp op') r') (hr : SR K r f) (hr' : SR K r' f') (ha : PE X a (cL K W wa)) (hb : PE X b (cL K W wb)) (hc : PE X c (cL K W wc))
    (hm : lastMarks [op, op'] [b, c] = false := by with_unfolding_all rfl) : PT X (.Compare a [op, op'] [b, c] pos) (cT K W (wTb (wChain f f' wa wb wc))) :=
  ptI (pt_chain ho ho' ha hb hc hm) fun σ H Q q => can_chain hr hr' σ H _ (can_tb σ H Q q)

/-! subscripts -/
theorem ixN_len {α β : Type} {xs : List α} {ys : List β} {i : Int} (h : xs.length = ys.length) : ixN xs.length i = ixN ys.length i := by rw [h]
theorem dpA_at {G : Hp} {vs : List V} {ds : List D} {i : Int} {d : D} (h : DpAll K G vs ds) (hd : atI ds i = some d) : ∃ v, atI vs i = some v ∧ Dp K G v d := by
  unfold atI at hd ⊢
  rw [dpA_len h]
  cases q : ixN ds.length i with
  | none => rw [q] at hd; cases hd
  | some j =>
    rw [q] at hd
    exact dpA_get h hd
def fIx (d e : D) (k : D → Prop) : Prop := match d, e with
  | .list ds, .int i => ∃ x, atI ds i = some x ∧ k x
  | .tuple ds, .int i => ∃ x, atI ds i = some x ∧ k x
  | .str z, .int i => z.length ≤ sizeLine ∧ ∃ c, atI z.cps.toList i = some c ∧ k (.str ⟨#[c]⟩)
  | _, _ => False
theorem sr_ix : SR K (rIx K) fIx := by
  intro S H x y d e Q R lv hx hy hf q
  unfold fIx at hf
  split at hf
  · obtain ⟨c, hc, hf⟩ := hf
    obtain ⟨a, vs, rfl, h1, h2⟩ := hx.lst
    cases hy.int
    obtain ⟨v, h3, h4⟩ := dpA_at h2 hc
    exact .inl ⟨a, vs, _, v, rfl, rfl, h1, h3, q _ H _ (Ex.refl _) h4 hf⟩
  · obtain ⟨c, hc, hf⟩ := hf
    obtain ⟨a, vs, rfl, h1, h2⟩ := hx.tup
    cases hy.int
    obtain ⟨v, h3, h4⟩ := dpA_at h2 hc
    exact .inr (.inl ⟨a, vs, _, v, rfl, rfl, h1, h3, q _ H _ (Ex.refl _) h4 hf⟩)
  · obtain ⟨hz, c, hc, hf⟩ := hf
    cases hx.str; cases hy.int
    exact .inr (.inr ⟨_, _, c, rfl, rfl, hz, hc, q _ H _ (Ex.refl _) (.str _) hf⟩)
  · exact hf.elim

/-! slices -/
def wpNo : WO := fun ρ R _ => R none ρ
def wpAt (w : WE) : WO := fun ρ R E => w ρ (fun d ρ' => ∃ i, d = .int i ∧ R (some i) ρ') E
theorem dpNo : PO X none (cO K W wpNo) := poI po_none fun σ H Q ⟨θ, π, α, ρ, R, E, hR, hw, hq, he⟩ => hq α H none ρ hR (Stp.refl ..) hw
theorem dpAt {e : Expr} {w : WE} (h : PE X e (cE K W w)) : PO X (some e) (cO K W (wpAt w)) := poI (po_some h) fun σ H Q ⟨θ, π, α, ρ, R, E, hR, hw, hq, he⟩ =>
  ⟨θ, π, α, ρ, _, E, hR, hw, fun α1 v H1 d ρ1 R1 s1 p1 w1 => by
    obtain ⟨i, rfl, w1⟩ := w1
    exact ⟨i, dp_int p1, hq α1 H1 _ ρ1 R1 s1 w1⟩, he⟩
def cutG {α : Type} (xs : List α) (lo hi : Option Int) : List α := (xs.drop (HT.sIx xs.length 0 lo)).take (HT.sIx xs.length xs.length hi - HT.sIx xs.length 0 lo)
theorem dpA_drop {G : Hp} : ∀ {vs : List V} {ds : List D} (n : Nat), DpAll K G vs ds → DpAll K G (vs.drop n) (ds.drop n)
  | _, _, 0, h => h
  | _, _, _ + 1, .nil => .nil
  | _, _, n + 1, .cons _ hs => dpA_drop n hs
theorem dpA_take {G : Hp} : ∀ {vs : List V} {ds : List D} (n : Nat), DpAll K G vs ds → DpAll K G (vs.take n) (ds.take n)
  | _, _, 0, _ => .nil
  | _, _, _ + 1, .nil => .nil
  | _, _, n + 1, .cons h hs => .cons h (dpA_take n hs)
theorem dpA_cut {G : Hp} {vs : List V} {ds : List D} {lo hi : Option Int} (h : DpAll K G vs ds) : DpAll K G (cutV vs lo hi) (cutG ds lo hi) := by
  unfold cutV cutG
  rw [dpA_len h]
  exact dpA_take _ (dpA_drop _ h)
/-- a list's slice, new -/
def wSlL (w : WL) (wl wh : WO) : WA := fun ρ R E => w ρ (fun L ρ1 => wl ρ1 (fun lo ρ2 => wh ρ2 (fun hi ρ3 => ∃ ds, L ρ3 (.list ds) ∧ R (cutG ds lo hi) ρ3) E) E) E
theorem dSlL {e : Expr} {lo hi : Option Expr} {p2 pos : Pos} {w : WL} {wl wh : WO} (h : PE X e (cL X.K W w)) (hl : PO X lo (cO X.K W wl)) (hh : PO X hi (cO X.K W wh)) : PE X (.Subscript e (.Slice lo hi none p2) pos) (cF X.K W (wSlL w wl wh)) :=
  peI (pe_slice sl_list h hl hh) fun σ H Q => by
    rintro ⟨θ, π, α, ρ, R, E, hR, hw, hq, he⟩
    refine ⟨θ, π, α, ρ, _, E, hR, hw, fun α1 v1 H1 L1 ρ1 R1 s1 l1 w1 => ?_, he⟩
    refine ⟨θ, π, α1, ρ1, _, E, R1, w1, fun α2 H2 lo ρ2 R2 s2 w2 => ?_, he.step s1⟩
    refine ⟨θ, π, α2, ρ2, _, E, R2, w2, fun α3 H3 hi ρ3 R3 s3 w3 => ?_, he.step (s1.trans s2)⟩
    obtain ⟨ds, hd, w3⟩ := w3
    obtain ⟨a, vs, rfl, h1, h2⟩ := (l1 α3 H3 ρ3 R3 (s2.trans s3) _ hd).lst
    refine ⟨a, vs, rfl, h1, fun p hp => ?_⟩
    have e := hid_new (θ := θ) (α := α3) (o := .lst (cutV vs lo hi)) hp
    exact hq α3 p _ _ _ ρ3 (R3.hideNew hp) ⟨by rw [e]; exact ((s1.trans s2).trans s3).1, fun b hb => (((s1.trans s2).trans s3).2 b hb).trans ((R3.stpNew hp).2 b hb)⟩ (fun z => R3.lv p z hp) upd_same (by rw [e]; exact dpA_cut h2) w3

/-! built-in functions -/
def wB1 (f : D → (D → Prop) → Prop) (w : WL) : WE := wUn f w
def wB2 (f : D → D → (D → Prop) → Prop) (wa wb : WL) : WE := wOp f wa wb
theorem dB1 {r : List V → Hp → VK → Prop} {f : D → (D → Prop) → Prop} {e a : Expr} {w : WL} (h : ∀ ta, PE X a ta → PE X e (tCB r (tCons ta tNil))) (hr : SU K (fun x => r [x]) f) (ha : PE X a (cL K W w)) : PE X e (cE K W (wB1 f w)) :=
  peI (h _ ha) fun σ H Q q => can_un hr σ H Q q
theorem dB2 {r : List V → Hp → VK → Prop} {f : D → D → (D → Prop) → Prop} {e a b : Expr} {wa wb : WL} (h : ∀ ta tb, PE X a ta → PE X b tb → PE X e (tCB r (tCons ta (tCons tb tNil)))) (hr : SR K (fun x y => r [x, y]) f) (ha : PE X a (cL K W wa)) (hb : PE X b (cL K W wb)) : PE X e (cE K W (wB2 f wa wb)) :=
  peI (h _ _ ha hb) fun σ H Q q => can_op hr σ H Q q
def fAbs (d : D) (k : D → Prop) : Prop := match d with
  | .int i => k (.int (if i < 0 then -i else i))
  | _ => False
theorem su_abs : SU K (fun x H Q => ∃ i, [x] = [V.int i] ∧ Q (.int (if i < 0 then -i else i)) H) fAbs := by
  intro S H x d Q R lv hx hf q
  unfold fAbs at hf
  split at hf
  · cases hx.int; exact ⟨_, rfl, q _ H _ (Ex.refl _) (.int _) hf⟩
  · exact hf.elim
def fInt (d : D) (k : D → Prop) : Prop := match d with
  | .int i => k (.int i)
  | .bool b => k (.int (if b then 1 else 0))
  | _ => False
theorem su_int : SU K (fun x H Q => (∃ i, [x] = [V.int i] ∧ Q (.int i) H) ∨ ∃ k, [x] = [V.bl k] ∧ Q (.int (if k then 1 else 0)) H) fInt := by
  intro S H x d Q R lv hx hf q
  unfold fInt at hf
  split at hf
  · cases hx.int; exact .inl ⟨_, rfl, q _ H _ (Ex.refl _) (.int _) hf⟩
  · cases hx.bl; exact .inr ⟨_, rfl, q _ H _ (Ex.refl _) (.int _) hf⟩
  · exact hf.elim
def fLen (d : D) (k : D → Prop) : Prop := match d with
  | .str x => x.length ≤ sizeLine ∧ k (.int x.length)
  | .list ds => k (.int ds.length)
  | .tuple ds => k (.int ds.length)
  | _ => False
theorem su_len : SU K (fun x H Q => ∃ y n, [x] = [y] ∧ LenV K y H n ∧ Q (.int n) H) fLen := by
  intro S H x d Q R lv hx hf q
  unfold fLen at hf
  split at hf
  · cases hx.str; exact ⟨_, _, rfl, ⟨hf.1, rfl⟩, q _ H _ (Ex.refl _) (.int _) hf.2⟩
  · obtain ⟨a, vs, rfl, h1, h2⟩ := hx.lst
    exact ⟨_, _, rfl, .inl ⟨vs, h1, rfl⟩, q _ H _ (Ex.refl _) (by rw [dpA_len h2]; exact .int _) hf⟩
  · obtain ⟨a, vs, rfl, h1, h2⟩ := hx.tup
    exact ⟨_, _, rfl, .inr ⟨vs, h1, rfl⟩, q _ H _ (Ex.refl _) (by rw [dpA_len h2]; exact .int _) hf⟩
  · exact hf.elim
def fGcd (d e : D) (k : D → Prop) : Prop := match d, e with
  | .int a, .int b => k (.int ((Nat.gcd a.natAbs b.natAbs : Nat) : Int))
  | _, _ => False
theorem sr_gcd : SR K (fun x y => rGcd [x, y]) fGcd := by
  intro S H x y d e Q R lv hx hy hf q
  unfold fGcd at hf
  split at hf
  · cases hx.int; cases hy.int; exact ⟨_, _, rfl, q _ H _ (Ex.refl _) (.int _) hf⟩
  · exact hf.elim
/-- isinstance(x, T) -/
def tyN : D → String
  | .none => "NoneType" | .bool _ => "bool" | .int _ => "int" | .str _ => "str" | .list _ => "list" | .tuple _ => "tuple" | .dict _ => "dict"
theorem tyx_of {x : V} {d : D} (h : Dp K H x d) : TyX K H x (.type (tyN d)) := by
  cases h with
  | non => exact .base .non
  | bl b => exact .base (.bl b)
  | int i => exact .base (.int i)
  | str z => exact .base (.str z)
  | lst h hs =>
    rcases h with (h | ⟨o, h⟩) | ⟨o, its, n, h, hc, _⟩
    · exact .base (.lst h)
    · exact .base (.frz h)
    · exact .kList h hc
  | tup h hs =>
    rcases h with (h | ⟨o, h⟩) | ⟨o, its, n, h, hc, _⟩
    · exact .base (.tup h)
    · exact .fTuple h
    · exact .kTuple h hc
def isK (n : String) (d : D) : Bool := match d with
  | .int _ => n == "int"
  | .bool _ => n == "bool" || n == "int"
  | .str _ => n == "str"
  | .list _ => n == "list"
  | .tuple _ => n == "tuple"
  | _ => false
def wIsi (n : String) (w : WL) : WE := fun ρ R E => w ρ (fun L ρ1 => ∃ d, L ρ1 d ∧ R (.bool (isK n d)) ρ1) E
theorem dIsi {e a c : Expr} {n : String} {w : WL} (h : ∀ ta tb, PE X a ta → PE X c tb → PE X e (tCB (rIsi X.K) (tCons ta (tCons tb tNil)))) (ha : PE X a (cL X.K W w)) (hc : PE X c (tC (.ty n)))
    (hn : kitB "NoneType" n = some false ∧ kitB "bool" n = some (n == "bool" || n == "int") ∧ kitB "int" n = some (n == "int") ∧ kitB "str" n = some (n == "str") ∧ kitB "list" n = some (n == "list") ∧ kitB "tuple" n = some (n == "tuple")) : PE X e (cE X.K W (wIsi n w)) :=
  peI (h _ _ ha hc) fun σ H Q => by
    rintro ⟨θ, π, α, ρ, R, E, hR, hw, hq, he⟩
    refine ⟨θ, π, α, ρ, _, E, hR, hw, fun α1 v1 H1 L1 ρ1 R1 s1 l1 w1 => ?_, he⟩
    obtain ⟨d, hd, w1⟩ := w1
    have hx := (l1 α1 H1 ρ1 R1 (Stp.refl ..) d hd).full
    have ty := tyx_of hx
    obtain ⟨k1, k2, k3, k4, k5, k6⟩ := hn
    have fin : ∀ b, isK n d = b → PySem.W.kitOne X.K (.type (tyN d)) (.type n) = some b →
        tCons (fun σ H Q => Q v1 H) (tCons (tC (.ty n)) tNil) σ H1 (fun vs H2 => rIsi X.K vs H2 Q) := fun b hb hk =>
      ⟨v1, .ty n, _, .type n, b, rfl, .ty n, ty, hk, hq α1 _ H1 _ ρ1 R1 s1 (by rw [hb]; exact .bl b) w1⟩
    cases d with
    | none => exact fin false rfl (kit_ty k1)
    | bool b => exact fin _ rfl (kit_ty k2)
    | int i => exact fin _ rfl (kit_ty k3)
    | str i => exact fin _ rfl (kit_ty k4)
    | list i => exact fin _ rfl (kit_ty k5)
    | tuple i => exact fin _ rfl (kit_ty k6)
    | dict i => cases hx
end
end Den

set_option maxHeartbeats 2000000
namespace Den
variable [Tbs]
open PySem PySem.Spec PyProof.Rows HotX
section
variable {prog : Program} {w : World} {A : Around} {E : Value → Shared → Prop} {s : Shared}
theorem next_list_hot {it l x1 : Addr} {i : Nat} {items : Array Value} {Q : Option Value → Shared → Prop} (hot : HotAt A x1 s.heap)
    (hit : s.heap.IsListIter it l i) (hl : s.heap.IsList l items) (hx : items[i]? = none)
    (hQ : ∀ h', (∀ b o, b ≠ it → s.heap.get? b = some o → h'.get? b = some o) → Q none { s with heap := h' }) : wpAny (model prog w) A (pyNext (.ref it)) Q E s := by
  obtain ⟨o, ho, hc, hd⟩ := id hit
  obtain ⟨ol, hol, _, nl, hdl⟩ := hl
  obtain ⟨hh, o1, vs1, h1, d1, c1⟩ := hot
  have hne : x1 ≠ it := fun z => by
    subst z
    rw [ho] at h1; cases h1
    rw [hd] at d1; cases d1
    simp at c1
  unfold pyNext
  refine wpAny_bind (wpAny_attempt (wpAny_callSpecial?_slot (name := Str.ofString "__next__") hit.typeIs slot_listiter_next
    (wpAny_call_entry slot_listiter_next hit.typeIs entry_listiter_next ?_ (args_listiter_next _))))
  show wpAny _ _ (field (.ref it) 0 >>= _) _ _ s
  refine wpAny_bind (wpAny_field ho hd (x := .ref l) rfl ?_)
  show wpAny _ _ (if (Value.ref l == Value.none) = true then _ else _) _ _ s
  rw [if_neg (show ¬ ((Value.ref l == Value.none) = true) from Bool.false_ne_true)]
  show wpAny _ _ (field (.ref it) 1 >>= _) _ _ s
  refine wpAny_bind (wpAny_field ho hd (x := .int i 0) rfl ?_)
  show wpAny _ _ (seqItems? (.ref l) >>= _) _ _ s
  refine wpAny_bind (wpAny_seqItems hol hdl ?_)
  simp only [Int.toNat_natCast, hx]
  refine wpAny_bind (wpAny_rule (wpAny_bind (wpAny_setField ho hd (by simp) ?_)))
  show wpAny _ _ (newExc (.type "StopIteration") [] >>= _) _ _ _
  refine wpAny_bind ?_
  simp only [newExc, newTuple]
  refine wpAny_bind (wpAny_newObj_type ?_ (by size_fits))
  refine wpAny_bind (m := firstArgMember _ _) (wpAny_of_eq (a := Value.none) (by first | rfl | (simp only [firstArgMember]; rfl)) ?_)
  refine wpAny_newObj_type ?_ (by size_fits)
  have h1' := (Heap.get?_update_other s.heap (Obj.mapFields (·.setIfInBounds 0 Value.none)) (Ne.symm hne)).trans h1
  refine raiseNew_hot ⟨hh, o1, vs1, Heap.get?_push_of_some _ (Heap.get?_push_of_some _ h1'), d1, c1⟩ (Nat.ne_of_lt (Heap.lt_size (Heap.get?_push_of_some _ h1'))) (Heap.get?_push_size _ rfl) rfl (by first | (simp; done) | (simp; omega) | (simp only [Array.size_append]; simp; omega)) ?_
  refine wpAny_bind (wpAny_isInstance (T := "StopIteration") (b := true) ⟨_, Heap.get?_update_self _ (Heap.get?_push_size _ rfl) rfl, rfl⟩ isSubtype_stop ?_)
  refine wpAny_pure (hQ _ fun b o hb e => ?_)
  have e' := (Heap.get?_update_other s.heap (Obj.mapFields (·.setIfInBounds 0 Value.none)) (Ne.symm hb)).trans e
  rw [Heap.get?_update_other _ _ (Nat.ne_of_gt (Heap.lt_size (Heap.get?_push_of_some _ e')))]
  exact Heap.get?_push_of_some _ (Heap.get?_push_of_some _ e')
theorem next_tup_hot {it l x1 : Addr} {i : Nat} {items : Array Value} {Q : Option Value → Shared → Prop} (hot : HotAt A x1 s.heap)
    (hit : IsTupIter s.heap it l i) (hl : IsTup s.heap l items) (hx : items[i]? = none)
    (hQ : ∀ h', (∀ b o, b ≠ it → s.heap.get? b = some o → h'.get? b = some o) → Q none { s with heap := h' }) : wpAny (model prog w) A (pyNext (.ref it)) Q E s := by
  obtain ⟨o, ho, hc, hd⟩ := id hit
  obtain ⟨ol, hol, _, nl, hdl⟩ := hl
  obtain ⟨hh, o1, vs1, h1, d1, c1⟩ := hot
  have hne : x1 ≠ it := fun z => by
    subst z
    rw [ho] at h1; cases h1
    rw [hd] at d1; cases d1
    simp at c1
  unfold pyNext
  refine wpAny_bind (wpAny_attempt (wpAny_callSpecial?_slot (name := Str.ofString "__next__") hit.typeIs slot_tupleiter_next
    (wpAny_call_entry slot_tupleiter_next hit.typeIs entry_tupleiter_next ?_ (args_tupleiter_next _))))
  show wpAny _ _ (field (.ref it) 0 >>= _) _ _ s
  refine wpAny_bind (wpAny_field ho hd (x := .ref l) rfl ?_)
  show wpAny _ _ (if (Value.ref l == Value.none) = true then _ else _) _ _ s
  rw [if_neg (show ¬ ((Value.ref l == Value.none) = true) from Bool.false_ne_true)]
  show wpAny _ _ (field (.ref it) 1 >>= _) _ _ s
  refine wpAny_bind (wpAny_field ho hd (x := .int i 0) rfl ?_)
  show wpAny _ _ (seqItems? (.ref l) >>= _) _ _ s
  refine wpAny_bind (wpAny_seqItems hol hdl ?_)
  simp only [Int.toNat_natCast, hx]
  refine wpAny_bind (wpAny_rule (wpAny_bind (wpAny_setField ho hd (by simp) ?_)))
  show wpAny _ _ (newExc (.type "StopIteration") [] >>= _) _ _ _
  refine wpAny_bind ?_
  simp only [newExc, newTuple]
  refine wpAny_bind (wpAny_newObj_type ?_ (by size_fits))
  refine wpAny_bind (m := firstArgMember _ _) (wpAny_of_eq (a := Value.none) (by first | rfl | (simp only [firstArgMember]; rfl)) ?_)
  refine wpAny_newObj_type ?_ (by size_fits)
  have h1' := (Heap.get?_update_other s.heap (Obj.mapFields (·.setIfInBounds 0 Value.none)) (Ne.symm hne)).trans h1
  refine raiseNew_hot ⟨hh, o1, vs1, Heap.get?_push_of_some _ (Heap.get?_push_of_some _ h1'), d1, c1⟩ (Nat.ne_of_lt (Heap.lt_size (Heap.get?_push_of_some _ h1'))) (Heap.get?_push_size _ rfl) rfl (by first | (simp; done) | (simp; omega) | (simp only [Array.size_append]; simp; omega)) ?_
  refine wpAny_bind (wpAny_isInstance (T := "StopIteration") (b := true) ⟨_, Heap.get?_update_self _ (Heap.get?_push_size _ rfl) rfl, rfl⟩ isSubtype_stop ?_)
  refine wpAny_pure (hQ _ fun b o hb e => ?_)
  have e' := (Heap.get?_update_other s.heap (Obj.mapFields (·.setIfInBounds 0 Value.none)) (Ne.symm hb)).trans e
  rw [Heap.get?_update_other _ _ (Nat.ne_of_gt (Heap.lt_size (Heap.get?_push_of_some _ e')))]
  exact Heap.get?_push_of_some _ (Heap.get?_push_of_some _ e')
theorem unpack_tup_hot {t x1 : Addr} {items : Array Value} {Q : List Value → Shared → Prop} (hot : HotAt A x1 s.heap) (ht : IsTup s.heap t items)
    (hQ : ∀ h', Heap.ExtBut s.heap.objs.size s.heap h' → Q items.toList { s with heap := h' }) : wpAny (model prog w) A (unpackItems (.ref t) items.size none) Q E s := by
  have hlt : t ≠ s.heap.objs.size := by obtain ⟨o, ho, _⟩ := ht; exact Nat.ne_of_lt (Heap.lt_size ho)
  obtain ⟨hh, o1, vs1, h1, d1, c1⟩ := hot
  unfold unpackItems
  refine wpAny_bind ?_
  · unfold notIterableAtAll
    refine wpAny_bind (wpAny_specialOf ht.typeIs slot_tuple_iter.lookup ?_)
    refine wpAny_pure ?_
    simp only [Bool.false_eq_true, if_false]
    refine wpAny_bind (wpAny_holding (iter_tuple ht ?_))
    refine wpAny_bind (wpAny_holding (draw_tuple hlt items.size 0 _ _ ⟨_, Heap.get?_push_size _ rfl, rfl, rfl⟩ (ht.push _) (by omega) fun h₁ hit₁ hs₁ => ?_))
    have hall : List.take items.size (List.drop 0 items.toList) = items.toList := by
      rw [List.drop_zero]; exact List.take_of_length_le (by simp)
    rw [hall]
    rw [if_neg (by simp)]
    have ht₁ : IsTup h₁ t items := (ht.push _).extBut hs₁.extBut hlt
    have h11 : h₁.get? x1 = some o1 := hs₁.extBut x1 o1 (Nat.ne_of_lt (Heap.lt_size h1)) (Heap.get?_push_of_some _ h1)
    refine wpAny_bind (wpAny_holding (next_tup_hot ⟨hh, o1, vs1, h11, d1, c1⟩ hit₁ ht₁ (by simp) fun h₂ he₂ => ?_))
    simp only [Option.isSome_none, Bool.false_eq_true, if_false]
    refine wpAny_pure (hQ h₂ fun b o hb e => he₂ b o hb (hs₁.extBut b o hb (Heap.get?_push_of_some _ e)))
end
end Den
namespace Den
variable [Tbs]
open PySem L2 Evl PySem.Spec PyProof.Rows HotX
/-- an exception is handled, without a context -/
def HotS (X : Cx) : Prop := ∀ (pins : List (Addr × Obj)) (σ : L2.St) (H : Hp) (s : Shared), Inv X pins σ H s → ∃ x1, HotAt X.A x1 s.heap
theorem hotS_of {X : Cx} (h : L2H.HotC X) : HotS X := fun pins σ H s I => h.at I
section
variable {X : Cx}
theorem pg_tupH {es : List Expr} {k : Nat} {t : TGs} {n : Nat} {pos : Pos} (hc : HotS X) (h : PGs X es t)
    (hn : (assignEach es X.env).length = n := by rfl) (hst : (assignEach es X.env).findIdx? (·.1) = none := by rfl) : PG X (.Tuple es k pos) (gTup X.K n t) := by
  refine ⟨fun pins s σ H v u Q I r hw => ?_⟩
  obtain ⟨a, xs, e1, hq, hl, hw⟩ := hw
  subst e1
  cases r
  obtain ⟨its, rv, ht, hz⟩ := I.tuple hq
  obtain ⟨x1, hot⟩ := hc _ _ _ _ I
  have hsz : (assignEach es X.env).length = its.toArray.size := by simp [hn, ← hl, rv.length]
  rw [PyProof.Rows.assign_Tuple]
  refine wpAny_bind (wpAny_standAt ?_)
  unfold unpack
  rw [hsz, hst]
  refine wpAny_bind (wpAny_holding (unpack_tup_hot hot ht fun h' hx => ?_))
  have I1 : Inv X pins σ H { s with heap := h' } := I.kept (t' := s.toks) fun b o e => hx b o (Nat.ne_of_lt (Heap.lt_size e)) e
  exact h.run pins _ σ H xs _ Q I1 (by simpa using rv) hw
structure TurnS (P : Program) (w : World) (K : PySem.W.Frag) (tg : Expr) (J : It) (fp : List Addr) (it : Addr) (tn : Nat → Heap → Prop) : Prop where
  mem : it ∈ fp
  obj : ∀ i h, tn i h → ∀ b ∈ fp, ∃ o, h.get? b = some o ∧ ∀ v, o.data ≠ .cell v
  keep : ∀ i h h', tn i h → (∀ b ∈ fp, ∀ o, h.get? b = some o → h'.get? b = some o) → tn i h'
  item : ∀ (X : Cx), X.prog = P → X.w = w → X.K = K → HotS X → ∀ (i : Nat) (pins : List (Addr × Obj)) (s : Shared) (σ : L2.St) (H : Hp) (E : Value → Shared → Prop), Inv X pins σ H s → (∀ b ∈ fp, FpOk X pins H b) → tn i s.heap → J.go i H →
    wpAny (model P w) X.A (pyNext (.ref it)) (fun r s1 => ∃ u, r = some u ∧
      wpAny (model P w) X.A (letOwnedTupleGo tg (.ref it) u) (fun _ s2 => ∃ x H', Inv X pins σ H' s2 ∧ RelV x u ∧ J.yld i H x H' ∧ tn (i + 1) s2.heap ∧ ∀ b ∈ fp, H' b = none) E s1) E s
  done : ∀ (X : Cx), X.prog = P → X.w = w → X.K = K → HotS X → ∀ (i : Nat) (pins : List (Addr × Obj)) (s : Shared) (σ : L2.St) (H : Hp) (E : Value → Shared → Prop), Inv X pins σ H s → (∀ b ∈ fp, FpOk X pins H b) → tn i s.heap → J.stop i H →
    wpAny (model P w) X.A (pyNext (.ref it)) (fun r s1 => r = none ∧ Inv X pins σ H s1) E s
  self : ∀ (A : Around) (i : Nat) (s : Shared) (Q : Value → Shared → Prop) (E : Value → Shared → Prop), tn i s.heap → Q (.ref it) s → wpAny (model P w) A (pyIter (.ref it)) Q E s
theorem turn_listS {P : Program} {w : World} {K : PySem.W.Frag} {tg : Expr} (a it : Addr) : TurnS P w K tg (Itl K a) [it] it (fun i h => h.IsListIter it a i) where
  mem := by simp
  obj := fun i h st b hb => by
    have e : b = it := by simpa using hb
    subst e
    obtain ⟨o, e, c, d⟩ := st
    exact ⟨o, e, fun v z => by rw [d] at z; cases z⟩
  keep := fun i h h' st k => st.at fun o e => k it (by simp) o e
  item := by
    intro X hP hw hK hc i pins s σ H E I hf st hg
    subst hP hw hK
    obtain ⟨xs, x, hq, hx⟩ := hg
    obtain ⟨its, rv, p, hz⟩ := I.list hq
    obtain ⟨u, hu, ru⟩ := rv.get hx
    obtain ⟨f0, f1, f2, f3, f4, f5⟩ := hf it (by simp)
    refine wpAny_pyNext_list_item st p.isList (x := u) (by simpa using hu) fun h' st' sb => ?_
    have I1 : Inv X pins σ H { s with heap := h' } := I.turned (t' := s.toks) (fun b o hb e => (sb.2 b hb).trans e) f0 f1 f3 f4 f5
    obtain ⟨o, e, c, d⟩ := id st'
    exact ⟨u, rfl, go_of (s := { s with heap := h' }) e c d (by decide) ⟨x, H, I1, ru, ⟨rfl, fun ys hy => by rw [I.list_inj hy hq]; exact hx⟩, st', fun b hb => (hf b hb).1⟩⟩
  done := by
    intro X hP hw hK hc i pins s σ H E I hf st hg
    subst hP hw hK
    obtain ⟨xs, hq, hx⟩ := hg
    obtain ⟨its, rv, p, hz⟩ := I.list hq
    obtain ⟨f0, f1, f2, f3, f4, f5⟩ := hf it (by simp)
    obtain ⟨x1, hot⟩ := hc _ _ _ _ I
    have hl := rv.length
    exact next_list_hot hot st p.isList (by simp; omega) fun h' eb => ⟨rfl, I.turned (t' := s.toks) (fun b o hb e => eb b o hb e) f0 f1 f3 f4 f5⟩
  self := fun _ _ _ _ _ st h => wpAny_pyIter_listiter st h
def PIES (X : Cx) (pins : List (Addr × Obj)) (σ : L2.St) (tg : Expr) (R : It → Hp → Prop) (itv : Value) (s2 : Shared) : Prop :=
  ∃ (it : Addr) (fp : List Addr) (tn : Nat → Heap → Prop) (J : It) (H' : Hp), itv = .ref it ∧ Inv X pins σ H' s2 ∧ TurnS X.prog X.w X.K tg J fp it tn ∧ tn 0 s2.heap ∧ (∀ b ∈ fp, FpOk X pins H' b) ∧ R J H'
structure PIS (X : Cx) (tg iter : Expr) (wi : TI) : Prop where
  run : ∀ (pins : List (Addr × Obj)) (s : Shared) (σ : L2.St) (H : Hp) (R : It → Hp → Prop), Inv X pins σ H s → wi σ H R →
    wpAny (model X.prog X.w) X.A (eval iter X.env) (fun v s1 => wpAny (model X.prog X.w) X.A (pyIter v) (PIES X pins σ tg R) X.xe s1) X.xe s
theorem pi_listS {tg : Expr} {l : Expr} {tl : TE} (hl : PE X l tl) : PIS X tg l (iList X.K tl) := by
  refine ⟨fun pins s σ H R I h => ?_⟩
  refine thn (hl.run pins s σ H _ I h) fun v s1 ⟨x, H1, I1, r1, q1⟩ => ?_
  obtain ⟨a, e, ⟨xs, hq⟩, q⟩ := q1
  subst e
  cases r1
  obtain ⟨its, rv, p, hz⟩ := I1.list hq
  refine wpAny_pyIter_list p.isList ?_
  refine ⟨s1.heap.objs.size, [s1.heap.objs.size], _, _, H1, rfl, I1.kept (t' := s1.toks) fun b o e => Heap.get?_push_of_some _ e, turn_listS a _, ⟨_, Heap.get?_push_size _ rfl, rfl, rfl⟩, fun b hb => ?_, q⟩
  have e : b = s1.heap.objs.size := by simpa using hb
  subst e
  exact I1.fpOk (Nat.le_refl _) (I1.hok.fresh (Nat.le_refl _))
theorem piSI {tg e : Expr} {t t' : TI} (h : PIS X tg e t) (k : ∀ σ H R, t' σ H R → t σ H R) : PIS X tg e t' := ⟨fun pins s σ H Q I q => h.run pins s σ H Q I (k _ _ _ q)⟩
/-- a comprehension within an except suite -/
theorem lc_coreS {pins : List (Addr × Obj)} {s : Shared} {σ : L2.St} {H : Hp} {Q : VK} {pos' : Pos} {use : Option (Value → Sem Unit)} {Qf : Value → Shared → Prop} {elt tg iter : Expr} {ifs : List Expr} {scope : Scope} {own : List (Str × Nat)} {pos : Pos} {wi : TI} {g : TG} {tt : TT} {te : TE}
    (hot : L2H.HotC X) (hN : X.N.Nodup) (I : Inv X pins σ H s) (hi : PIS X tg iter wi) (ok : BlkOk X.N X.env.scope scope own)
    (hg : ∀ (s : Shared) (H : Hp) (C : Addr) (cl : List (Str × Addr)) (fp : List Addr), HotS (X.blk s H scope (compEnvC scope cl C X.env) fp) → PG (X.blk s H scope (compEnvC scope cl C X.env) fp) tg g) (ht : ∀ (s : Shared) (H : Hp) (C : Addr) (cl : List (Str × Addr)) (fp : List Addr), PTs (X.blk s H scope (compEnvC scope cl C X.env) fp) ifs tt)
    (he : ∀ (s : Shared) (H : Hp) (C : Addr) (cl : List (Str × Addr)) (fp : List Addr), PE (X.blk s H scope (compEnvC scope cl C X.env) fp) elt te) (hs : ∀ x, foldedSetIterable iter X.env x = pure x)
    (h : tLc wi g tt te (own.map (·.2)) σ H Q)
    (hRR : ∀ D C s' m H', Inv X pins σ H' s' → Q (.ref D) H' → s'.heap.Ns C m → FpOk X pins H' C → compPost (model X.prog X.w) X.A X.xe use Qf (.ref D) C (.ok .next) s') :
    wpAny (model X.prog X.w) X.A (comprehension (.ListComp elt [⟨tg, iter, ifs, 0⟩] scope pos) scope X.env pos' (newList []) false (eval iter X.env) use) Qf X.xe s := by
  have hfree : ∀ y ∈ scope.names, y.2 = .free → ∃ c, X.env.cells.lookup y.1 = some c := fun y hy e => by
    rcases ok.free y hy e with k | k
    · exact I.ok.has _ (.inl k)
    · exact I.ok.has _ (.inr k)
  refine wpAny_comprehension_free (use := use) rfl hs (closure_ok hfree) ok.kind (fun y hy e => by rw [ok.uniq y hy, e])
    (thn (hi.run pins s σ H _ I h) fun xv s1 hx => thn hx fun itv s2 h2 => ?_)
  obtain ⟨it, fp, tn, J, H2, e, I2, T, st2, f2, q⟩ := h2
  subst e
  refine wpAny_newObj_type (newEnv_comp ?_) (by show 0 ≤ sizeLine; decide)
  generalize hD : s2.heap.objs.size = D
  have hDn : H2 D = none := I2.hok.fresh (Nat.le_of_eq hD)
  obtain ⟨W, ⟨m0, w0⟩, turn⟩ := q D hDn
  generalize hs3 : ({ s2 with heap := s2.heap.push { cls := .type "list", data := .seq ([] : List Value).toArray } } : Shared) = s3
  have I3 : Inv X pins σ (upd H2 D (.lst [])) s3 := by
    rw [← hs3]
    refine I2.laid (t' := s2.toks) (fun b o e => Heap.get?_push_of_some _ e) (Nat.le_of_eq hD) ⟨Nat.zero_le _, [], 0, .nil, ?_⟩
    rw [← hD]
    exact Heap.get?_push_size _ rfl
  have h3 : s3.heap = s2.heap.push { cls := .type "list", data := .seq ([] : List Value).toArray } := by rw [← hs3]
  have sz : ∀ b ∈ fp, b < s2.heap.objs.size := fun b hb => by
    obtain ⟨o, e, _⟩ := T.obj _ _ st2 b hb
    exact Heap.lt_size e
  have f3 : ∀ b ∈ fp, FpOk X pins (upd H2 D (.lst [])) b ∧ b < s3.heap.objs.size := fun b hb => by
    have hlt := sz b hb
    refine ⟨⟨?_, (f2 b hb).2⟩, by rw [h3, Heap.size_push]; exact Nat.lt_succ_of_lt hlt⟩
    rw [upd_ne (by rw [← hD]; exact Nat.ne_of_lt hlt)]
    exact (f2 b hb).1
  have st3 : tn 0 s3.heap := T.keep _ _ _ st2 fun b _ o e => by rw [h3]; exact Heap.get?_push_of_some _ e
  have I4 := block_start I3 ok hN f3
  -- the handled exception is kept in the block
  obtain ⟨px, ⟨hhd, v1, ev1, cv1⟩, hpx⟩ := hot
  have P1 := I3.pin px (List.mem_append_left _ hpx)
  have hotB : HotS (X.blk s3 (upd H2 D (.lst [])) scope (compEnvC scope (cellsFrom (s3.heap.objs.size + 1) scope.names (cloFrom X.env.cells scope.names [])) s3.heap.objs.size X.env) fp) := fun pins' σ' H' s' I' => by
    refine ⟨px.1, hhd, px.2, v1, ?_, ev1, cv1⟩
    refine I'.base.keep px.1 px.2 P1.1 P1.2.1 (fun hm => ?_) fun hm => ?_
    · exact (List.mem_cons.mp (I3.stkSub px.1 hm)).elim P1.2.2.1 P1.2.2.2.1
    · exact (f3 px.1 hm).1.2.2.2.2.2 px (List.mem_append_left _ hpx) rfl
  have pg := hg s3 (upd H2 D (.lst [])) s3.heap.objs.size (cellsFrom (s3.heap.objs.size + 1) scope.names (cloFrom X.env.cells scope.names [])) fp hotB
  have pt := ht s3 (upd H2 D (.lst [])) s3.heap.objs.size (cellsFrom (s3.heap.objs.size + 1) scope.names (cloFrom X.env.cells scope.names [])) fp
  have pe := he s3 (upd H2 D (.lst [])) s3.heap.objs.size (cellsFrom (s3.heap.objs.size + 1) scope.names (cloFrom X.env.cells scope.names [])) fp
  show codeAny _ _ (.compStart (.ListComp elt [⟨tg, iter, ifs, 0⟩] scope pos) 0 (.ref it) (.ref D) (compEnvC scope (cellsFrom (s3.heap.objs.size + 1) scope.names (cloFrom X.env.cells scope.names [])) s3.heap.objs.size X.env)) (compPost (model X.prog X.w) X.A X.xe use Qf (.ref D) s3.heap.objs.size) { s3 with heap := pushCells (s3.heap.push { cls := .type "dict", data := .dict #[] }) scope.names }
  have nfp : ∀ b ∈ fp, (upd H2 D (.lst [])) b = none := fun b hb => (f3 b hb).1.1
  generalize hce : compEnvC scope (cellsFrom (s3.heap.objs.size + 1) scope.names (cloFrom X.env.cells scope.names [])) s3.heap.objs.size X.env = ce at I4 pg pt pe hotB ⊢
  have cL : ce.locals = s3.heap.objs.size := by subst hce; rfl
  generalize hH3 : upd H2 D (.lst []) = H3 at I3 I4 pg pt pe w0 nfp f3 hotB
  generalize hs4 : ({ s3 with heap := pushCells (s3.heap.push { cls := .type "dict", data := .dict #[] }) scope.names } : Shared) = s4 at I4 ⊢
  have st4 : tn 0 s4.heap := T.keep _ _ _ st3 fun b _ o e => by rw [← hs4]; exact pushCells_keeps _ _ _ _ (Heap.get?_push_of_some _ e)
  have stat : ∀ {σ' : L2.St} {H' : Hp} {s' : Shared}, Inv (X.blk s3 H3 scope ce fp) [] σ' H' s' → (∀ b ∈ fp, H' b = none) → ∀ b ∈ fp, FpOk (X.blk s3 H3 scope ce fp) [] H' b := fun {σ' H' s'} I' hn b hb =>
    ⟨hn b hb, (I'.ok.exf b hb).1, I'.ok.exfs b hb, .inl hb, fun x c e => (I'.ok.exf b hb).2 x c e, fun p hp => absurd (show p ∈ ([] : List (Addr × Obj)) ++ [] from hp) (by simp)⟩
  have loop : codeAny (model X.prog X.w) X.A (.compLoop (.ListComp elt [⟨tg, iter, ifs, 0⟩] scope pos) 0 (.ref it) (.ref D) ce) (compPost (model X.prog X.w) X.A X.xe use Qf (.ref D) s3.heap.objs.size) s4 := by
    refine compLoop_any (fun n s' => ∃ i H', Inv (X.blk s3 H3 scope ce fp) [] (wipe σ (own.map (·.2))) H' s' ∧ tn i s'.heap ∧ (∀ b ∈ fp, H' b = none) ∧ W i n H') ?_ m0 ⟨0, H3, I4, st4, nfp, w0⟩
    rintro n s5 ⟨i, H5, I5, st5, n5, w5⟩
    rcases turn i n H5 w5 with ⟨stop, qq⟩ | ⟨go, Nx, hNx, step⟩
    · have td := T.done (X.blk s3 H3 scope ce fp) rfl rfl rfl hotB i [] s5 _ H5 (fun _ _ => False) I5 (stat I5 n5) st5 stop
      refine thnF td fun r s6 ⟨hr, I6⟩ => ?_
      subst hr
      have I7 : Inv X pins σ H5 s6 := I3.call' (ch := fp) I6.os I6.base I6.hok I6.bare fun b hb => ⟨(f3 b hb).1.2.2.2.1, (f3 b hb).1.2.1, (f3 b hb).1.2.2.2.2.1, (f3 b hb).1.2.2.2.2.2⟩
      have nC : H5 s3.heap.objs.size = none := by
        have z : H5 ce.locals = none := I6.free
        rw [cL] at z
        exact z
      obtain ⟨m, hn, _⟩ := I6.loc
      have hn : s6.heap.Ns ce.locals m := hn
      rw [cL] at hn
      exact hRR D s3.heap.objs.size s6 m H5 I7 qq hn (I3.fpOk (Nat.le_refl _) nC)
    · have ti := T.item (X.blk s3 H3 scope ce fp) rfl rfl rfl hotB i [] s5 _ H5 (fun _ _ => False) I5 (stat I5 n5) st5 go
      refine thnF ti fun r s6 ⟨u, hr, h6⟩ => ?_
      subst hr
      refine thnF h6 fun _ s7 ⟨x, H7, I7, r7, y7, st7, n7⟩ => ?_
      have I7' := I7.pinned (stat I7 n7) (T.obj _ _ st7)
      refine thnF (pg.run _ s7 _ H7 x u _ I7' r7 (step x H7 y7)) fun _ s8 ⟨σ8, H8, I8, hw8, q8⟩ => ?_
      refine thnF (pt.run _ s8 σ8 H8 _ I8 q8) fun b s9 ⟨H9, I9, q9⟩ => ?_
      have fin : ∀ {s' : Shared} {H' : Hp}, Inv (X.blk s3 H3 scope ce fp) ([] ++ pinsAt fp s7.heap) σ8 H' s' → Nx H' → ∃ m, m < n ∧ ∃ i H', Inv (X.blk s3 H3 scope ce fp) [] (wipe σ (own.map (·.2))) H' s' ∧ tn i s'.heap ∧ (∀ b ∈ fp, H' b = none) ∧ W i m H' := fun {s' H'} I' nx => by
        obtain ⟨m', hm, w'⟩ := hNx H' nx
        have pin' : ∀ b ∈ fp, ∀ o, s7.heap.get? b = some o → s'.heap.get? b = some o ∧ H' b = none := fun b hb o e =>
          let z := I'.pin (b, o) (List.mem_append_right _ (List.mem_append_right _ (mem_pinsAt hb e)))
          ⟨z.1, z.2.1⟩
        have hl : (wipe σ (own.map (·.2))).length = σ8.length := by rw [← hw8, wipe_length]
        refine ⟨m', hm, i + 1, H', (I'.unpinned (pins := [])).weak hl (fun j v e => ?_), T.keep _ _ _ st7 fun b hb o e => (pin' b hb o e).1, fun b hb => ?_, w'⟩
        · rw [← hw8] at e
          exact (wipe_some e).1
        · obtain ⟨o, e, _⟩ := T.obj _ _ st7 b hb
          exact (pin' b hb o e).2
      cases b with
      | false =>
        simp only [Bool.false_eq_true, if_false] at q9 ⊢
        exact fin I9 q9
      | true =>
        simp only [if_true] at q9 ⊢
        refine thnF (pe.run _ s9 σ8 H9 _ I9 q9) fun z s10 ⟨yv, H10, I10, r10, acc, hD10, hz10, nx⟩ => ?_
        exact app_ok (X := X.blk s3 H3 scope ce fp) I10 hD10 hz10 r10 fun s11 I11 => fin I11 nx
  exact codeAny_compStart_list loop (T.self X.A 0 _ _ _ st4 loop)
theorem pe_lcS {elt tg iter : Expr} {ifs : List Expr} {scope : Scope} {own : List (Str × Nat)} {pos : Pos} {wi : TI} {g : TG} {tt : TT} {te : TE}
    (hot : L2H.HotC X) (hN : X.N.Nodup) (hi : PIS X tg iter wi) (ok : BlkOk X.N X.env.scope scope own)
    (hg : ∀ (s : Shared) (H : Hp) (C : Addr) (cl : List (Str × Addr)) (fp : List Addr), HotS (X.blk s H scope (compEnvC scope cl C X.env) fp) → PG (X.blk s H scope (compEnvC scope cl C X.env) fp) tg g) (ht : ∀ (s : Shared) (H : Hp) (C : Addr) (cl : List (Str × Addr)) (fp : List Addr), PTs (X.blk s H scope (compEnvC scope cl C X.env) fp) ifs tt)
    (he : ∀ (s : Shared) (H : Hp) (C : Addr) (cl : List (Str × Addr)) (fp : List Addr), PE (X.blk s H scope (compEnvC scope cl C X.env) fp) elt te) (hs : ∀ x, foldedSetIterable iter X.env x = pure x := by intro _; rfl) :
    PE X (.ListComp elt [⟨tg, iter, ifs, 0⟩] scope pos) (tLc wi g tt te (own.map (·.2))) := by
  refine ⟨fun pins s σ H Q I h => ?_⟩
  rw [eval_ListComp]
  refine lc_coreS hot hN I hi ok hg ht he hs h fun D C s' m H' I' q hn f => ⟨m, hn, fun h'' sb => ?_⟩
  obtain ⟨f0, f1, f2, f3, f4, f5⟩ := f
  exact ⟨.ref D, H', I'.turned (t' := s'.toks) (fun b o hb e => (sb.2 b hb).trans e) f0 f1 f3 f4 f5, rfl, q⟩
theorem ps_setLcS {i : Nat} {y : Str} {py : Pos} {elt tg iter : Expr} {ifs : List Expr} {scope : Scope} {own : List (Str × Nat)} {pos spos : Pos} {wi : TI} {g : TG} {tt : TT} {te : TE} (hot : L2H.HotC X) (hN : X.N.Nodup) (hy : X.N[i]? = some y) (hyl : X.env.scope.names.lookup y = some .local)
    (hsw : swapsWith (.ListComp elt [⟨tg, iter, ifs, 0⟩] scope pos) (some (.Name y py)) spos.line X.env = pure true) (hi : PIS X tg iter wi) (ok : BlkOk X.N X.env.scope scope own)
    (hg : ∀ (s : Shared) (H : Hp) (C : Addr) (cl : List (Str × Addr)) (fp : List Addr), HotS (X.blk s H scope (compEnvC scope cl C X.env) fp) → PG (X.blk s H scope (compEnvC scope cl C X.env) fp) tg g) (ht : ∀ (s : Shared) (H : Hp) (C : Addr) (cl : List (Str × Addr)) (fp : List Addr), PTs (X.blk s H scope (compEnvC scope cl C X.env) fp) ifs tt)
    (he : ∀ (s : Shared) (H : Hp) (C : Addr) (cl : List (Str × Addr)) (fp : List Addr), PE (X.blk s H scope (compEnvC scope cl C X.env) fp) elt te) (hs : ∀ x, foldedSetIterable iter X.env x = pure x := by intro _; rfl) :
    PS X (.Assign [.Name y py] (.ListComp elt [⟨tg, iter, ifs, 0⟩] scope pos) spos) (tAsg (tLc wi g tt te (own.map (·.2))) (gName i)) := by
  refine ⟨fun pins s σ H D I h => ?_⟩
  rw [exec_Assign_Name_used _ _ _ _ hsw]
  refine wpAny_bind (wpAny_standAt (wpAny_bind ?_))
  show wpAny _ X.A (do let _ ← comprehension (.ListComp elt [⟨tg, iter, ifs, 0⟩] scope pos) scope X.env (firstIterPos [⟨tg, iter, ifs, 0⟩] pos) (newList []) false (eval iter X.env) (some (assign (.Name y py) X.env))) _ _ s
  have h : tLc wi g tt te (own.map (·.2)) σ H (fun x H1 => gName i x σ H1 D.nx) := h
  refine wpAny_bind (thn (lc_coreS (Qf := fun _ s' => SP X pins D .next s') hot hN I hi ok hg ht he hs h fun L C s' m H' I' q hn f => ?_) fun _ s' hq => wpAny_pure (wpAny_pure hq))
  show wpAny _ _ (assign (.Name y py) X.env (.ref L)) _ _ _
  refine wpAny_assign_Name (store_ok2 (v := V.ref L) I' hN hy (.inl hyl) rfl (fun s2 I2 ⟨a, sb, ha⟩ => ?_) (.inr hyl))
  obtain ⟨f0, f1, f2, f3, f4, f5⟩ := f
  have haC : C ≠ a := by
    rcases ha with z | z
    · rw [z]; exact f1
    · exact fun e => f4 y a z e.symm
  refine ⟨m, hn.sameBut sb haC, fun h3 sb3 => ?_⟩
  exact ⟨_, H', I2.turned (t' := s2.toks) (fun b o hb e => (sb3.2 b hb).trans e) f0 f1 f3 f4 f5, q⟩
end
end Den

namespace Den
variable [Tbs]
open PySem L2 Evl PySem.Spec PyProof.Rows HotX
open Classical
section
variable {K : PySem.W.Frag} {W : WX} {X : Cx} {θ : Addr → Prop} {π α : Nat → Option Addr} {σ σ2 : L2.St} {H H1 : Hp} {ρ : En} {p : Addr} {o : HO} {n : Nat}

theorem diLS {tg e : Expr} {w : WE} (h : PIS X tg e (iList K (cE K W w))) : PIS X tg e (cI K W (wiL w)) := piSI h fun σ H Q ⟨θ, π, α, ρ, R, E, hR, hw, hq, he⟩ =>
  ⟨θ, π, α, ρ, _, E, hR, hw, fun α1 v H1 d ρ1 R1 s1 p1 w1 => by
    obtain ⟨ds, rfl, w1⟩ := w1
    cases p1 with
    | lst h1 hs => exact ⟨_, rfl, ⟨_, ex_l hidS_ex h1⟩, hq α1 _ H1 ds ρ1 R1 s1 (walks_list h1 hs) w1⟩, he⟩

/-! isinstance of the exception that is handled -/
theorem call_isP {a D : Addr} {oe : Obj} (C : ExcC X.K D) (hp : (a, oe) ∈ X.pn) (hz : Zc (.ref D) none oe) (hf : ∃ vs, oe.data = .fields vs) : CallR X (.builtin "isinstance") (rIsE X.K D a) := by
  intro pins s σ H xs us Q I r h
  obtain ⟨c, cv, b, rfl, hcv, e, q⟩ := h
  cases r with
  | cons rx rr =>
    cases rr with
    | cons rt rr =>
      cases rr
      cases rx
      have ec := hcv _ rt
      subst ec
      obtain ⟨hget, _⟩ := I.pin (a, oe) (List.mem_append.mpr (.inl hp))
      obtain ⟨vs, hv⟩ := hf
      have J : PySem.W.InstAt s.heap a oe D none := by
        obtain ⟨oc, od, oda, osl⟩ := oe
        obtain ⟨h1, h2⟩ := hz
        dsimp only at h1 h2 hv
        subst h1 h2 hv
        exact ⟨hget, rfl, rfl, trivial⟩
      exact PySem.W.kia_one (PySem.W.handS_kitx_exc C.hg C.hk C.hs C.hd C.ha C.hn C.ht C.hm) I.kIn J e (fun z => nomatch z) fun tk => ⟨.bl b, H, I.kept (t' := tk) fun _ _ z => z, rfl, q⟩
def wIsX (i : Nat) (a : Addr) (b : Bool) : WE := fun ρ R E => ρ[i]? = some (.ex a) ∧ R (.bool b) ρ
theorem dIsX {e : Expr} {i : Nat} {a D : Addr} {b : Bool} {c : V} {cv : Value} (h : PE X e (tCB (rIsE X.K D a) (tCons (tVar i) (tCons (tC c) tNil)))) (hc : ∀ u, RelV c u → u = cv) (hk : PySem.W.kitOne X.K (.ref D) cv = some b) : PE X e (cE X.K W (wIsX i a b)) :=
  peI h fun σ H Q ⟨θ, π, α, ρ, R, E, hR, hw, hq, he⟩ =>
    ⟨.ref a, hR.sl i _ hw.1, c, cv, b, rfl, hc, hk, hq α _ H _ ρ hR (Stp.refl ..) (.bl b) hw.2⟩

/-! the def that tells an exception's name -/
structure FnT (P : Program) (w : World) (K : PySem.W.Frag) (mg : Str → Option Value) (base : Heap) (k : Nat) (f : Addr) (fd : FuncData) (ps : List Str) (c : Addr) (t : Str) : Prop where
  run : ∀ (A : Around) (outer : List Env) (s : Shared) (H : Hp) (args : Args) (p : Addr × Obj) (Q : VK), L2H.RoomH k A → L2H.Hot1 A p → L2H.PinOk outer H s p → Env0 P w K mg base A outer s H → L2N.Zn (.ref c) none p.2 → (∀ b, Tbs.T b → isTb (H b)) →
    BindsTo s fd args (ps.zip [.ref p.1]) → (∀ H', ExT H H' → Q (.str t) H') → codeAny (model P w) A (.call (.ref f) args) (CR CX0 outer P w H s Q E0) s
/-- the context of its body -/
abbrev cxT (P : Program) (w : World) (K : PySem.W.Frag) (mg : Str → Option Value) (base : Heap) (N : List Str) (qual : Str) (scope : Scope) (f : Addr) (cd : Value) (A : Around) (outer : List Env) (s : Shared) (H : Hp) (p : Addr × Obj) : Cx := L2H.cxH CX0 P w K mg base N qual scope f cd A outer s H E0 p
theorem fnT {P : Program} {w : World} {mg : Str → Option Value} {base : Heap} {k : Nat} {x qual y : Str} {st : Stmt} {f c : Addr} {fd : FuncData} {N : List Str} {t : Str} {wb : Addr → WS} (F : Fun K x qual st f fd) (S : FnScope (y :: N) [y] (defScope st))
    (hb : ∀ (cdv : Value) (A : Around) (outer : List Env) (s : Shared) (H : Hp) (p : Addr × Obj), L2H.Hot1 A p → L2H.RoomH k (A.deeper (envOfC qual (defScope st) s.heap.objs.size f cdv)) → L2N.Zn (.ref c) none p.2 →
      PSs (cxT P w K mg base (y :: N) qual (defScope st) f cdv A outer s H p) (defBody st) (cS K WNo (wb p.1)))
    (hw : ∀ a, wb a { nx := fun _ => False, rt := fun d _ => d = .str t } (.ex a :: N.map fun _ => .no)) : FnT P w K mg base (k + 1) f fd [y] c t := by
  obtain ⟨oc, od, kV, doc, pm, an, cdv, ct, osl, rfl, lk, hcd⟩ := F.ex
  refine ⟨fun A outer s H args p Q hr hot hpin e0 hz htb hbt hQ => ?_⟩
  have KX : K.In s.heap := e0.mod.kin.keeps fun b o e => (e0.bs b o e).1
  have lim : s.heap.NoLimit := e0.mod.nolimit.keeps fun b o e => (e0.bs b o e).1
  have r : Vals [V.ref p.1] [Value.ref p.1] := .cons rfl .nil
  have hkind : ∀ z ∈ [y].zip [Value.ref p.1], (defScope st).names.lookup z.1 = some .local ∨ ((defScope st).names.lookup z.1 = some .cell ∧ ((cellsFrom (s.heap.objs.size + 1) (defScope st).names []).lookup z.1).isSome = true) := fun ⟨n, v⟩ hy => by
    rcases S.par n (List.of_mem_zip hy).1 with q | q
    · exact .inl q
    · exact .inr ⟨q, PySem.W.cellsFrom_some _ _ _ (.inl q)⟩
  refine codeAny_call_function hr.depth (KX _ _ lk) rfl S.co S.gen rfl (PySem.W.codeRec_of KX hcd) (hbt _ _ _ _ ?_)
  refine wpAny_newFunctionEnv_cells S.kind hkind fun env he s1 x => ?_
  subst he
  refine ⟨lim.keeps x.toInCall.keep, codeAny_func ?_⟩
  have ht := hb cdv A outer s H p hot (hr.deeper _) hz
  have I : Inv (cxT P w K mg base (y :: N) qual (defScope st) f cdv A outer s H p) [] (L2.start (y :: N) [.ref p.1]) H s1 := L2H.inv_startH S hpin e0 rfl r x
  have hRel : Rel K Tbs.T (fun _ => none) (fun _ => none) (L2.start (y :: N) [.ref p.1]) H (.ex p.1 :: N.map fun _ => .no) := by
    refine Rel.mk (by simp [L2.start]) (fun _ _ _ h => nomatch h) (fun _ _ h => nomatch h) (fun b h => by obtain ⟨ps, z, _⟩ := htb b h; rw [z]; intro q; cases q) (fun _ _ h => nomatch h) (fun _ _ h => nomatch h) (fun b h => ⟨h, htb b h⟩) (fun i s q => ?_)
    cases i with
    | zero =>
      have e : Sl.ex p.1 = s := Option.some.inj q
      subst e
      rfl
    | succ i =>
      have q : (N.map fun _ => Sl.no)[i]? = some s := q
      rw [List.getElem?_map] at q
      cases z : N[i]? with
      | none => rw [z] at q; cases q
      | some y => rw [z] at q; cases q; trivial
  refine wpAny_mono (ht.run [] s1 (L2.start (y :: N) [.ref p.1]) H { nx := fun _ _ => False, rt := Q } I ⟨_, _, _, _, _, hRel, hw p.1, ⟨fun _ _ _ _ _ _ h => h.elim, fun _ _ _ _ _ _ h => h.elim, fun _ _ _ _ _ _ h => h.elim, fun α' σ' H' v d ρ' r' s' dp h => ?_, fun _ _ _ _ _ _ _ _ _ _ _ _ h => h.elim, fun _ _ _ _ _ _ _ h => h.elim⟩⟩) (fun fl s' hs => ?_) fun e s' hs => hs
  · subst h
    cases dp
    have hS : Sof Tbs.T (fun _ => none) = Tbs.T := funext fun b => propext ⟨fun z => z.elim id fun ⟨i, z⟩ => (by cases z), fun z => .inl z⟩
    refine hQ H' ⟨?_, s'.2⟩
    have z := s'.1
    rw [hS] at z
    refine z.trans fun b o q => ?_
    unfold hidS at q ⊢
    split at q
    · cases q
    · rename_i h
      rw [if_neg (fun t => h (.inl t))]
      exact q
  have fin : ∀ {σ' : L2.St} {H' : Hp} {v : V} {u : Value}, Inv (cxT P w K mg base (y :: N) qual (defScope st) f cdv A outer s H p) [] σ' H' s' → RelV v u → Q v H' → CE outer P w H s Q u s' :=
    fun {σ' H' v u} J rv q => ⟨v, H', J.os, J.bare, J.base, J.hok, rv, q⟩
  cases fl with
  | ret u =>
    obtain ⟨v, σ', H', J, rv, q⟩ := hs
    exact fin J rv q
  | next => obtain ⟨_, _, _, q⟩ := hs; exact False.elim q
  | brk => obtain ⟨_, _, _, q⟩ := hs; exact False.elim q
  | cont => obtain ⟨_, _, _, q⟩ := hs; exact False.elim q
def wTold (i : Nat) (a : Addr) (t : Str) : WE := fun ρ R E => ρ[i]? = some (.ex a) ∧ R (.str t) ρ
theorem dTold {k i : Nat} {f a c : Addr} {fd : FuncData} {y : Str} {t : Str} {oe : Obj} {x z : Str} {q q2 pos : Pos} (F : FnT X.prog X.w X.K X.mg X.base k f fd [y] c t) (hr : L2H.RoomH k X.A) (hp : (a, oe) ∈ X.pn) (hh : X.A.handled = some (.ref a)) (hz : L2N.Zn (.ref c) none oe) (hf : ∃ vs, oe.data = .fields vs)
    (hg : Gl X x) (hm : X.mg x = some (.ref f)) (hk : PySem.W.keepIn X.K (.ref f) = true) (hb : Binds X.K fd [y] []) (hv : PE X (.Name z q2) (tVar i)) (hdb : (x == ("__debug__" : Str)) = false := by decide) (he : starEach [.Name z q2] X.env = [(false, eval (.Name z q2) X.env)] := by rfl) :
    PE X (.Call (.Name x q) [.Name z q2] [] pos) (cE X.K W (wTold i a t)) := by
  refine ⟨fun pins s σ H Q I h => ?_⟩
  obtain ⟨θ, π, α, ρ, R, E, hR, ⟨hw1, hw2⟩, hq, hex⟩ := h
  refine wpAny_Call_Name_kw (ld_glob I hg hm ?_ hdb)
  have ha : PA X [.Name z q2] (tCons (tVar i) tNil) := pa_cons hv pa_nil
  refine PySem.W.callWith_K (h₀ := X.base) I.ok.mod.kin hk (thn (ha.run pos pins s σ H (fun vs H' => vs = [.ref a] ∧ H' = H) I ⟨.ref a, hR.sl i _ hw1, rfl, rfl⟩) fun us s1 ⟨vs, H1, I1, r, e1, e2⟩ => ⟨I1.kIn, ?_⟩) he rfl
  subst e1 e2
  have eu : us = [.ref a] := by
    cases r with
    | cons rx rr => cases rr; cases rx; rfl
  subst eu
  have P1 := I1.pin (a, oe) (List.mem_append_left _ hp)
  obtain ⟨fv, hfv⟩ := hf
  have hot : L2H.Hot1 X.A (a, oe) := ⟨hh, fv, hfv, hz.2.2 fv hfv⟩
  have hpin : L2H.PinOk X.stack H1 s1 (a, oe) := ⟨P1.1, P1.2.1, fun hm => (List.mem_cons.mp (I1.stkSub a hm)).elim P1.2.2.1 P1.2.2.2.1, P1.2.2.2.2⟩
  have b := hb s1 [.ref a] I1.kIn rfl
  refine wpAny_call (codeAny_mono (F.run X.A X.stack s1 H1 ⟨[.ref a], []⟩ (a, oe) Q hr hot hpin I1.env0 hz (fun b h => (hR.tb b h).2) b fun H' ex => hq α _ H' _ ρ (hR.extT ex).1 (hR.extT ex).2 (.str t) hw2) fun r s' hq => ?_)
  cases r with
  | error e => exact hq.elim
  | ok fl =>
    cases fl with
    | ret u => exact I1.after hq
    | next => exact False.elim hq
    | brk => exact False.elim hq
    | cont => exact False.elim hq

/-! a suite by the exception's class -/
def wSuite (nm : Addr → Option Str) (w : Addr → Str → WS) : Addr → Addr → WS := fun a c B ρ => ∃ t, nm c = some t ∧ w a t B ρ
theorem suite_by {st : List Stmt} {a : Addr} {oe : Obj} {cls : Value} {d : Option Addr} {nm : Addr → Option Str} {w : Addr → Str → WS} (hz : L2N.Zn cls d oe)
    (h : ∀ c t, nm c = some t → L2N.Zn (.ref c) none oe → PSs X st (cS K WNo (w a t))) : PSs X st (fun D σ H => ∃ c, cls = .ref c ∧ d = none ∧ cS K WNo (wSuite nm w a c) D σ H) := by
  refine ⟨fun pins s σ H D I q => ?_⟩
  obtain ⟨c, rfl, rfl, θ, π, α, ρ, B, hR, ⟨t, ht, hw⟩, hf⟩ := q
  exact (h c t ht hz).run pins s σ H D I ⟨θ, π, α, ρ, B, hR, hw, hf⟩
def catOf (nm : Addr → Option Str) : Addr → Option Bool := fun c => (nm c).map fun _ => true
theorem dTryAs {x n : Str} {cv : Value} {i : Nat} {body suite : List Stmt} {b₀ : Stmt} {np pos pos' : Pos} {cat : Addr → Option Bool} {wb : WS} {ws : Addr → Addr → WS} (hcat : ∀ c b, cat c = some b → PySem.W.exmOne X.K (.ref c) cv = some b)
    (h1 : X.stack = X.env :: X.outer) (h2 : X.env.frame = some X.env.locals) (nd : X.N.Nodup) (hn : X.N[i]? = some n) (hk : X.env.kindOf n = some .local) (hx : Names X x cv) (tk : L2N.Takes X W)
    (hb : ∀ (W2 : WX) pn xe, L2N.Takes (X.tr pn xe) W2 → PassesOwn (model X.prog X.w) X.A X.env xe → PSs (X.tr pn xe) body (cS X.K W2 wb))
    (hs : ∀ a oe cls d pn, L2N.Zn cls d oe → (∃ vs, oe.data = .fields vs) → PSs (X.suite a ((a, oe) :: pn)) (b₀ :: suite) (fun D σ H => ∃ c, cls = .ref c ∧ d = none ∧ cS X.K WNo (ws a c) D σ H)) :
    PS X (.Try body [.ExceptHandler (some (.Name x np)) (some n) (b₀ :: suite) pos'] [] [] pos) (cS X.K W (wTry cat i wb ws)) :=
  dTry hcat (L2N.ps_try_as (tb := fun W' => cS X.K W' wb) (ts := fun a cls d => fun D σ H => ∃ c, cls = .ref c ∧ d = none ∧ cS X.K WNo (ws a c) D σ H) h1 h2 nd hn hk hx tk hb hs)
theorem markH {j k : Nat} {A : Around} {v : Option Value} (h : Room k A) (hj : j ≤ k) : L2H.RoomH j (A.mark v) := ⟨(L2H.roomH_of (h.mono hj)).dp, (L2H.roomH_of (h.mono hj)).un⟩
end
end Den

namespace Den
variable [Tbs]
open PySem L2 Evl PySem.Spec PyProof.Rows
open Classical
section
variable {K : PySem.W.Frag} {W : WX} {X : Cx} {θ : Addr → Prop} {π α : Nat → Option Addr} {σ σ2 : L2.St} {H H1 : Hp} {ρ : En} {p : Addr} {o : HO} {n : Nat}
theorem dGi {x : Str} {pos : Pos} {i : Int} (hg : Gl X x) (hm : ∃ t, X.mg x = some (.int i t)) (hd : (x == ("__debug__" : Str)) = false := by decide) : PE X (.Name x pos) (cE K W (wC (.int i))) := by
  obtain ⟨t, hm⟩ := hm
  exact dC (pe_glob (v := .int i) hg hm ⟨_, rfl⟩ hd) fun _ => .int _
theorem dGs {x : Str} {pos : Pos} {i : Str} (hg : Gl X x) (hm : ∃ t, X.mg x = some (.str i t)) (hd : (x == ("__debug__" : Str)) = false := by decide) : PE X (.Name x pos) (cE K W (wC (.str i))) := by
  obtain ⟨t, hm⟩ := hm
  exact dC (pe_glob (v := .str i) hg hm ⟨_, rfl⟩ hd) fun _ => .str _
theorem dI {i : Int} {j : Nat} {pos : Pos} : PE X (.Constant (.int i) j pos) (cE K W (wC (.int i))) := dC pe_int fun _ => .int _
theorem dB {i : Bool} {j : Nat} {pos : Pos} : PE X (.Constant (.bool i) j pos) (cE K W (wC (.bool i))) := dC pe_bl fun _ => .bl _
theorem dZ {j : Nat} {pos : Pos} : PE X (.Constant .none j pos) (cE K W (wC .none)) := dC pe_non fun _ => .non
theorem dX {x : Str} {j : Nat} {pos : Pos} : PE X (.Constant (.str x) j pos) (cE K W (wC (.str x))) := dC pe_str fun _ => .str _
theorem can_fe {w : WA} (σ : L2.St) (H : Hp) (Q : VK) (h : cE K W (wFE w) σ H Q) : cF K W w σ H Q := by
  obtain ⟨θ, π, α, ρ, R, E, hR, hw, hq, he⟩ := h
  refine ⟨θ, π, α, ρ, _, E, hR, hw, fun α1 p vs H1 ds ρ1 R1 s1 np h1 p1 w1 => ?_, he⟩
  obtain ⟨R2, hx⟩ := R1.unhide np h1
  have hnp : ¬ Sof θ α1 p := fun z => by
    rcases z with z | ⟨i, z⟩
    · exact np z
    · exact R1.ap i p z (.inr rfl)
  exact hq α1 (.ref p) H1 _ ρ1 R2 ⟨s1.1.trans hx, s1.2⟩ (.lst (.inl (.inl (by rw [hidS_in hnp]; exact h1))) (dpA_mono hx p1)) w1
section
variable {vs : List Nat} {wi : WI} {wg : WG} {wt : WT} {we : WE} {s : Stmt} {g : TG} {e : Expr}
theorem dLcF (h : PE X e (tLc (cI K W wi) (cGv K W vs wg) (cT K W wt) (cE K W we) vs)) : PE X e (cF K W (wLc vs wi wg wt we)) := peI h can_lc
theorem dLcSF (h : PS X s (tAsg (tLc (cI K W wi) (cGv K W vs wg) (cT K W wt) (cE K W we) vs) g)) : PS X s (tAsg (cF K W (wLc vs wi wg wt we)) g) := psI h fun D σ H q => can_lc σ H _ q
theorem dLcSE (h : PS X s (tAsg (tLc (cI K W wi) (cGv K W vs wg) (cT K W wt) (cE K W we) vs) g)) : PS X s (tAsg (cE K W (wFE (wLc vs wi wg wt we))) g) := psI (dLcSF h) fun D σ H q => can_fe σ H _ q
end
/-- over a list, a tuple -/
def iLT (K : PySem.W.Frag) (tl : TE) : TI := fun σ H R => tl σ H fun x H1 => ∃ a, x = .ref a ∧ (((∃ xs, SqL K H1 a xs) ∧ R (Itl K a) H1) ∨ ((∃ xs, SqT K H1 a xs) ∧ R (Itt K a) H1))
theorem pi_lt {tg l : Expr} {tl : TE} (hl : PE X l tl) : PI X tg l (iLT X.K tl) := by
  refine ⟨fun pins s σ H R I h => ?_⟩
  refine thn (hl.run pins s σ H _ I h) fun v s1 ⟨x, H1, I1, r1, q1⟩ => ?_
  obtain ⟨a, e, q1⟩ := q1
  subst e
  cases r1
  rcases q1 with ⟨⟨xs, hq⟩, q⟩ | ⟨⟨xs, hq⟩, q⟩
  · obtain ⟨its, rv, p, hz⟩ := I1.list hq
    refine wpAny_pyIter_list p.isList ?_
    refine ⟨s1.heap.objs.size, [s1.heap.objs.size], _, _, H1, rfl, I1.kept (t' := s1.toks) fun b o e => Heap.get?_push_of_some _ e, turn_list a _, ⟨_, Heap.get?_push_size _ rfl, rfl, rfl⟩, fun b hb => ?_, q⟩
    have e : b = s1.heap.objs.size := by simpa using hb
    subst e
    exact I1.fpOk (Nat.le_refl _) (I1.hok.fresh (Nat.le_refl _))
  · obtain ⟨its, rv, p, hz⟩ := I1.tuple hq
    refine wpAny_pyIter_tuple (show s1.heap.IsTuple a its.toArray from p) ?_
    refine ⟨s1.heap.objs.size, [s1.heap.objs.size], _, _, H1, rfl, I1.kept (t' := s1.toks) fun b o e => Heap.get?_push_of_some _ e, turn_tuple a _, ⟨_, Heap.get?_push_size _ rfl, rfl, rfl⟩, fun b hb => ?_, q⟩
    have e : b = s1.heap.objs.size := by simpa using hb
    subst e
    exact I1.fpOk (Nat.le_refl _) (I1.hok.fresh (Nat.le_refl _))
def wiA (w : WE) : WI := fun ρ R E => w ρ (fun d ρ' => match d with
  | .list ds => R ds ρ'
  | .tuple ds => R ds ρ'
  | _ => False) E
theorem diA {tg e : Expr} {w : WE} (h : PI X tg e (iLT K (cE K W w))) : PI X tg e (cI K W (wiA w)) := piI h fun σ H Q ⟨θ, π, α, ρ, R, E, hR, hw, hq, he⟩ =>
  ⟨θ, π, α, ρ, _, E, hR, hw, fun α1 v H1 d ρ1 R1 s1 p1 w1 => by
    split at w1
    · cases p1 with
      | lst h1 hs => exact ⟨_, rfl, .inl ⟨⟨_, ex_l hidS_ex h1⟩, hq α1 _ H1 _ ρ1 R1 s1 (walks_list h1 hs) w1⟩⟩
    · cases p1 with
      | tup h1 hs => exact ⟨_, rfl, .inr ⟨⟨_, ex_t hidS_ex h1⟩, hq α1 _ H1 _ ρ1 R1 s1 (walks_tup h1 hs) w1⟩⟩
    · exact w1.elim, he⟩
end
end Den

namespace Den
variable [Tbs]
open PySem L2 Evl PySem.Spec PyProof.Rows
open Classical
theorem kit_int : kitB "NoneType" "int" = some false ∧ kitB "bool" "int" = some (("int" : String) == "bool" || ("int" : String) == "int") ∧ kitB "int" "int" = some (("int" : String) == "int") ∧ kitB "str" "int" = some (("int" : String) == "str") ∧ kitB "list" "int" = some (("int" : String) == "list") ∧ kitB "tuple" "int" = some (("int" : String) == "tuple") := by decide +kernel
theorem kit_bool : kitB "NoneType" "bool" = some false ∧ kitB "bool" "bool" = some (("bool" : String) == "bool" || ("bool" : String) == "int") ∧ kitB "int" "bool" = some (("bool" : String) == "int") ∧ kitB "str" "bool" = some (("bool" : String) == "str") ∧ kitB "list" "bool" = some (("bool" : String) == "list") ∧ kitB "tuple" "bool" = some (("bool" : String) == "tuple") := by decide +kernel
theorem kit_str : kitB "NoneType" "str" = some false ∧ kitB "bool" "str" = some (("str" : String) == "bool" || ("str" : String) == "int") ∧ kitB "int" "str" = some (("str" : String) == "int") ∧ kitB "str" "str" = some (("str" : String) == "str") ∧ kitB "list" "str" = some (("str" : String) == "list") ∧ kitB "tuple" "str" = some (("str" : String) == "tuple") := by decide +kernel
theorem kit_list : kitB "NoneType" "list" = some false ∧ kitB "bool" "list" = some (("list" : String) == "bool" || ("list" : String) == "int") ∧ kitB "int" "list" = some (("list" : String) == "int") ∧ kitB "str" "list" = some (("list" : String) == "str") ∧ kitB "list" "list" = some (("list" : String) == "list") ∧ kitB "tuple" "list" = some (("list" : String) == "tuple") := by decide +kernel
theorem kit_tuple : kitB "NoneType" "tuple" = some false ∧ kitB "bool" "tuple" = some (("tuple" : String) == "bool" || ("tuple" : String) == "int") ∧ kitB "int" "tuple" = some (("tuple" : String) == "int") ∧ kitB "str" "tuple" = some (("tuple" : String) == "str") ∧ kitB "list" "tuple" = some (("tuple" : String) == "list") ∧ kitB "tuple" "tuple" = some (("tuple" : String) == "tuple") := by decide +kernel
/-- the law: any ints, at most 63, and it gives True -/
def SLaw : WF := fun ps R _ => ∃ ns : List Int, ns.length ≤ 63 ∧ (∀ z ∈ ns, Builtin.Int.intBits z ≤ 1048576) ∧ ps = [.va (.list (ns.map PyData.int))] ∧ R (.bool true) [.no]
def spLaw (K : PySem.W.Frag) : Sp := fun vs H Q _ => ∃ (a : Addr) (ns : List Int), vs = [.ref a] ∧ (∀ b, Tbs.T b → isTb (H b)) ∧ SqL K H a (ns.map V.int) ∧ ns.length ≤ 63 ∧ (∀ z ∈ ns, Builtin.Int.intBits z ≤ 1048576) ∧ ∀ H', Q (.bl true) H'
theorem spLaw_imp {K : PySem.W.Frag} {vs : List V} {H : Hp} {Q : VK} {E : XK} (h : spLaw K vs H Q E) : toSp K 1 SLaw vs H Q E := by
  obtain ⟨a, ns, rfl, ht, hs, hl, hbits, k⟩ := h
  have hS : Sof Tbs.T (fun _ => none) = Tbs.T := funext fun b => propext ⟨fun z => z.elim id fun ⟨i, z⟩ => (by cases z), fun z => .inl z⟩
  have hs' : SqL K (hidS Tbs.T H) a (ns.map V.int) := by
    rcases hs with (h | ⟨o, h⟩) | h
    · exact .inl (.inl (by rw [hidS_in (fun z => by obtain ⟨ps, q, _⟩ := ht a z; rw [h] at q; cases q)]; exact h))
    · exact .inl (.inr ⟨o, by rw [hidS_in (fun z => by obtain ⟨ps, q, _⟩ := ht a z; rw [h] at q; cases q)]; exact h⟩)
    · exact .inr h
  refine ⟨Tbs.T, fun _ => none, [.va (.list (ns.map PyData.int))], fun d _ => d = .bool true, NoE, rfl, Rel.mk rfl (fun _ _ _ h => nomatch h) (fun _ _ h => nomatch h) (fun b h => by obtain ⟨ps, z, _⟩ := ht b h; rw [z]; intro q; cases q) (fun _ _ h => nomatch h) (fun _ _ h => nomatch h) (fun b h => ⟨h, ht b h⟩) (fun i s q => ?_), ⟨ns, hl, hbits, rfl, rfl⟩, fun v H' d os _ _ _ dp hd => ?_, fun _ _ _ _ _ _ z => z.elim⟩
  · cases i with
    | zero =>
      have q : Sl.va (.list (ns.map PyData.int)) = s := Option.some.inj q
      subst q
      exact ⟨.ref a, rfl, by rw [hS]; exact .lst hs' (dpA_ints ns)⟩
    | succ i => simp at q
  · subst hd
    cases dp
    exact k H'
end Den

namespace Den
variable [Tbs]
open PySem L2 Evl PySem.Spec PyProof.Rows
section
variable {nx : En → Prop} {rt : D → En → Prop} {rf : List D → En → Prop} {bk ct : En → Prop} {rs : Addr → En → Prop} {B : Bx} {ρ ρ' : En} {R : RC} {E : EC} {T : Bool → En → Prop} {A : List D → En → Prop} {M : List Ar → En → Prop} {i j : Nat} {d e : D} {w wa wb wc : WE} {ws wz : WS} {ls la lb lc : WL} {wt ta tb : WT} {ar : WA} {wm : WM} {wi : WI} {wg : WG} {P Q : Prop} {k : D → Prop}
theorem s_next (h : nx ρ) : wNext ⟨nx, rt, rf, bk, ct, rs⟩ ρ := h
theorem s_seq (h : ws ⟨wz ⟨nx, rt, rf, bk, ct, rs⟩, rt, rf, bk, ct, rs⟩ ρ) : wSeq ws wz ⟨nx, rt, rf, bk, ct, rs⟩ ρ := h
theorem s_set (h : w ρ (fun d ρ' => asgV i (.va d) ρ' nx) rs) : wSet i w ⟨nx, rt, rf, bk, ct, rs⟩ ρ := h
theorem s_setO (h : ar ρ (fun d ρ' => asgV i (.ow d) ρ' nx) rs) : wSetO i ar ⟨nx, rt, rf, bk, ct, rs⟩ ρ := h
theorem s_asgn (h : w ρ (fun d ρ' => wg d ρ' nx rs) rs) : wAsg w wg ⟨nx, rt, rf, bk, ct, rs⟩ ρ := h
theorem s_ret (h : w ρ rt rs) : wRet w ⟨nx, rt, rf, bk, ct, rs⟩ ρ := h
theorem s_retN (h : rt .none ρ) : wRetN ⟨nx, rt, rf, bk, ct, rs⟩ ρ := h
theorem s_retF (h : ar ρ rf rs) : wRetF ar ⟨nx, rt, rf, bk, ct, rs⟩ ρ := h
theorem s_drop (h : w ρ (fun _ ρ' => nx ρ') rs) : wDrop w ⟨nx, rt, rf, bk, ct, rs⟩ ρ := h
theorem s_ifs (h : wt ρ (fun c ρ' => if c = true then ws ⟨nx, rt, rf, bk, ct, rs⟩ ρ' else wz ⟨nx, rt, rf, bk, ct, rs⟩ ρ') rs) : wIfS wt ws wz ⟨nx, rt, rf, bk, ct, rs⟩ ρ := h
theorem s_break (h : bk ρ) : wBreak ⟨nx, rt, rf, bk, ct, rs⟩ ρ := h
theorem s_cont (h : ct ρ) : wCont ⟨nx, rt, rf, bk, ct, rs⟩ ρ := h
theorem s_raise {c : Addr} (h : rs c ρ) : wRaise c ⟨nx, rt, rf, bk, ct, rs⟩ ρ := h
/-- ρ at i is not a lent list -/
def nio : Option Sl → Bool
  | some (.io _) => false
  | none => false
  | _ => true
theorem s_asg {s : Sl} (ρ' : En) (h1 : nio ρ[i]? = true) (e : ρ.set i s = ρ') (h : nx ρ') : asgV i s ρ nx := by
  unfold asgV
  rw [← e] at h
  cases q : ρ[i]? with
  | none => rw [q] at h1; cases h1
  | some x =>
    cases x with
    | io ds => rw [q] at h1; cases h1
    | no => exact h
    | va d => exact h
    | ow ds => exact h
    | ex a => exact h
theorem s_app (h : (∃ k, ownd ρ j k) ∧ w ρ (fun d ρ' => ownd ρ' j fun ds f => ds.length < sizeLine ∧ nx (f (ds ++ [d]))) rs) : wApp j w ⟨nx, rt, rf, bk, ct, rs⟩ ρ := h
theorem s_put (h : w ρ (fun d ρ1 => (∃ k, ownd ρ1 j k) ∧ ls ρ1 (fun L ρ2 => ∃ (z : Int), L ρ2 (.int z) ∧ ownd ρ2 j fun ds f => ∃ m, ixN ds.length z = some m ∧ nx (f (ds.set m d))) rs) rs) : wPut j w ls ⟨nx, rt, rf, bk, ct, rs⟩ ρ := h
theorem s_owd {k : List D → (List D → En) → Prop} (ds : List D) (h : ρ[j]? = some (.ow ds)) (q : k ds fun es => ρ.set j (.ow es)) : ownd ρ j k := by unfold ownd; rw [h]; exact q
theorem s_oio {k : List D → (List D → En) → Prop} (ds : List D) (h : ρ[j]? = some (.io ds)) (q : k ds fun es => ρ.set j (.io es)) : ownd ρ j k := by unfold ownd; rw [h]; exact q
theorem s_unp {is : List Nat} (h : ls ρ (fun L ρ1 => ∃ ds, L ρ1 (.list ds) ∧ asgAll is ds ρ1 nx) rs) : wUnp is ls ⟨nx, rt, rf, bk, ct, rs⟩ ρ := h
theorem s_unpT {is : List Nat} (h : ls ρ (fun L ρ1 => ∃ ds, L ρ1 (.tuple ds) ∧ asgAll is ds ρ1 nx) rs) : wUnpT is ls ⟨nx, rt, rf, bk, ct, rs⟩ ρ := h
theorem s_all0 (h : nx ρ) : asgAll [] [] ρ nx := h
theorem s_alls {is : List Nat} {ds : List D} (h : asgV i (.va d) ρ fun ρ' => asgAll is ds ρ' nx) : asgAll (i :: is) (d :: ds) ρ nx := h
theorem s_gname (h : asgV i (.va d) ρ nx) : wgName i d ρ nx rs := h
theorem s_gtup {is : List Nat} {ds : List D} (h : asgAll is ds ρ nx) : wgTup is (.tuple ds) ρ nx rs := ⟨_, rfl, h⟩
theorem s_glst {is : List Nat} {ds : List D} (h : asgAll is ds ρ nx) : wgLst is (.list ds) ρ nx rs := ⟨_, rfl, h⟩
theorem s_for (h : wi ρ (fun ds ρ1 => ∃ Inv : Nat → En → Prop, Inv 0 ρ1 ∧
  (∀ i d ρ', ds[i]? = some d → Inv i ρ' → wg d ρ' (fun ρ2 => ws ⟨Inv (i + 1), rt, rf, nx, Inv (i + 1), rs⟩ ρ2) rs) ∧ ∀ ρ', Inv ds.length ρ' → nx ρ') rs) : wFor wi wg ws ⟨nx, rt, rf, bk, ct, rs⟩ ρ := h
def catK (o : Option Bool) (T F : Prop) : Prop := match o with
  | some true => T
  | some false => F
  | none => False
theorem catK_t {o : Option Bool} {T F : Prop} (e : o = some true) (h : T) : catK o T F := by subst e; exact h
theorem catK_f {o : Option Bool} {T F : Prop} (e : o = some false) (h : F) : catK o T F := by subst e; exact h
theorem s_try {cat : Addr → Option Bool} {wx : Addr → Addr → WS} (h : ws ⟨nx, rt, rf, bk, ct, fun c ρ' => catK (cat c) (∀ a, asgV i (.ex a) ρ' fun ρ2 => wx a c ⟨fun ρ => asgV i .no ρ nx, rt, rf, fun ρ => asgV i .no ρ bk, fun ρ => asgV i .no ρ ct, NoE⟩ ρ2) (rs c ρ')⟩ ρ) : wTry cat i ws wx ⟨nx, rt, rf, bk, ct, rs⟩ ρ := h
theorem s_suite {nm : Addr → Option Str} {wx : Addr → Str → WS} {a c : Addr} {t : Str} (e : nm c = some t) (h : wx a t B ρ) : wSuite nm wx a c B ρ := ⟨t, e, h⟩
theorem s_told {a : Addr} {t : Str} (e : ρ[i]? = some (.ex a)) (h : R (.str t) ρ) : wTold i a t ρ R E := ⟨e, h⟩
theorem s_isX {a : Addr} {b : Bool} (e : ρ[i]? = some (.ex a)) (h : R (.bool b) ρ) : wIsX i a b ρ R E := ⟨e, h⟩
theorem s_L {L : (En → D → Prop) → En → Prop} (h : w ρ (fun d ρ' => L (fun _ d' => d' = d) ρ') E) : wL w ρ L E := h
theorem s_N (d : D) {L : (En → D → Prop) → En → Prop} (e : rd ρ j = some d) (h : L (fun ρ' d => rd ρ' j = some d) ρ) : wN j ρ L E := ⟨⟨d, e⟩, h⟩
theorem s_C (h : R d ρ) : wC d ρ R E := h
theorem s_Va (d : D) (e : ρ[j]? = some (.va d)) (h : R d ρ) : wV j ρ R E := by unfold wV; rw [e]; exact h
theorem s_Vo (ds : List D) (e : ρ[j]? = some (.ow ds)) (h : R (.list ds) (ρ.set j (.va (.list ds)))) : wV j ρ R E := by unfold wV; rw [e]; exact h
theorem s_VF (ds : List D) (e : ρ[j]? = some (.ow ds)) (h : A ds (ρ.set j .no)) : wVF j ρ A E := by unfold wVF; rw [e]; exact h
theorem s_op {f : D → D → (D → Prop) → Prop} (h : la ρ (fun La ρ1 => lb ρ1 (fun Lb ρ2 => ∃ d e, La ρ2 d ∧ Lb ρ2 e ∧ f d e (fun z => R z ρ2)) E) E) : wOp f la lb ρ R E := h
theorem s_un {f : D → (D → Prop) → Prop} (h : la ρ (fun La ρ1 => ∃ d, La ρ1 d ∧ f d (fun z => R z ρ1)) E) : wUn f la ρ R E := h
theorem s_B1 {f : D → (D → Prop) → Prop} (h : la ρ (fun La ρ1 => ∃ d, La ρ1 d ∧ f d (fun z => R z ρ1)) E) : wB1 f la ρ R E := h
theorem s_B2 {f : D → D → (D → Prop) → Prop} (h : la ρ (fun La ρ1 => lb ρ1 (fun Lb ρ2 => ∃ d e, La ρ2 d ∧ Lb ρ2 e ∧ f d e (fun z => R z ρ2)) E) E) : wB2 f la lb ρ R E := h
theorem s_isi {n : String} (h : la ρ (fun L ρ1 => ∃ d, L ρ1 d ∧ R (.bool (isK n d)) ρ1) E) : wIsi n la ρ R E := h
theorem s_chain {f f' : D → D → (D → Prop) → Prop} (h : la ρ (fun La ρ1 => lb ρ1 (fun Lb ρ2 => ∃ d e, La ρ2 d ∧ Lb ρ2 e ∧ f d e (fun z => ∃ k, z = .bool k ∧
  if k = true then lc ρ2 (fun Lc ρ3 => ∃ e' g, Lb ρ3 e' ∧ Lc ρ3 g ∧ f' e' g (fun z => R z ρ3)) E else R (.bool false) ρ2)) E) E) : wChain f f' la lb lc ρ R E := h
theorem s_Tb (h : w ρ (fun d ρ' => ∃ b, d = .bool b ∧ T b ρ') E) : wTb w ρ T E := h
theorem s_And (h : ta ρ (fun b ρ1 => if b = true then tb ρ1 T E else T false ρ1) E) : wAnd ta tb ρ T E := h
theorem s_Or (h : ta ρ (fun b ρ1 => if b = true then T true ρ1 else tb ρ1 T E) E) : wOr ta tb ρ T E := h
theorem s_Not (h : ta ρ (fun b ρ1 => T (!b) ρ1) E) : wNot ta ρ T E := h
theorem s_AndV (h : wa ρ (fun d ρ1 => ∃ b, d = .bool b ∧ if b = true then wb ρ1 R E else R (.bool false) ρ1) E) : wAndV wa wb ρ R E := h
theorem s_OrV (h : wa ρ (fun d ρ1 => ∃ b, d = .bool b ∧ if b = true then R (.bool true) ρ1 else wb ρ1 R E) E) : wOrV wa wb ρ R E := h
theorem s_NotV (h : wa ρ (fun d ρ1 => ∃ b, d = .bool b ∧ R (.bool (!b)) ρ1) E) : wNotV wa ρ R E := h
theorem s_If (h : wt ρ (fun b ρ1 => if b = true then wa ρ1 R E else wb ρ1 R E) E) : wIf wt wa wb ρ R E := h
theorem s_aNil (h : A [] ρ) : waNil ρ A E := h
theorem s_aCons (h : w ρ (fun d ρ1 => ar ρ1 (fun ds ρ2 => A (d :: ds) ρ2) E) E) : waCons w ar ρ A E := h
theorem s_Tup (h : ar ρ (fun ds ρ' => R (.tuple ds) ρ') E) : wTup ar ρ R E := h
theorem s_FE (h : ar ρ (fun ds ρ' => R (.list ds) ρ') E) : wFE ar ρ R E := h
theorem s_mNil (h : M [] ρ) : wmNil ρ M E := h
theorem s_mV (h : w ρ (fun d ρ1 => wm ρ1 (fun as ρ2 => M (.v d :: as) ρ2) E) E) : wmV w wm ρ M E := h
theorem s_mIo (d : D) (e : rd ρ j = some d) (h : wm ρ (fun as ρ2 => M (.io j :: as) ρ2) E) : wmIo j wm ρ M E := ⟨⟨d, e⟩, h⟩
theorem s_call {S : WF} (h : wm ρ (fun as ρ2 => ∃ ps, pars ρ2 as = some ps ∧ (ios as).Nodup ∧ S ps (fun d os => R d (upds ρ2 as os)) (fun c os => E c (upds ρ2 as os))) E) : wCall S wm ρ R E := h
theorem s_call0 {S : WF} (h : wm ρ (fun as ρ2 => ∃ ps, pars ρ2 as = some ps ∧ (ios as).Nodup ∧ S ps (fun d os => R d (upds ρ2 as os)) NoE) E) : wCall0 S wm ρ R E := h
theorem s_callF {S : WFF} (h : wm ρ (fun as ρ2 => ∃ ps, pars ρ2 as = some ps ∧ (ios as).Nodup ∧ S ps (fun d os => A d (upds ρ2 as os)) (fun c os => E c (upds ρ2 as os))) E) : wCallF S wm ρ A E := h
theorem s_args {as : List Ar} {G : List Sl → Prop} (ps : List Sl) (e : pars ρ as = some ps) (n : (ios as).Nodup) (h : G ps) : ∃ ps, pars ρ as = some ps ∧ (ios as).Nodup ∧ G ps := ⟨ps, e, n, h⟩
theorem s_iAl {ds : List D} (h : A ds ρ) : (match (PyData.list ds), ρ with
  | .list ds, ρ' => A ds ρ'
  | .tuple ds, ρ' => A ds ρ'
  | _, _ => False) := h
theorem s_iA {G : List D → En → Prop} (h : w ρ (fun d ρ' => match d with
  | .list ds => G ds ρ'
  | .tuple ds => G ds ρ'
  | _ => False) E) : wiA w ρ G E := h
theorem s_iL {G : List D → En → Prop} (h : w ρ (fun d ρ' => ∃ ds, d = .list ds ∧ G ds ρ') E) : wiL w ρ G E := h
theorem s_iT {G : List D → En → Prop} (h : w ρ (fun d ρ' => ∃ ds, d = .tuple ds ∧ G ds ρ') E) : wiT w ρ G E := h
theorem s_iR1 {G : List D → En → Prop} (h : ar ρ (fun ds ρ' => ∃ n : Int, ds = [.int n] ∧ (-(2 ^ 62) ≤ n ∧ n < 2 ^ 62) ∧ G (rng 0 n.toNat) ρ') E) : wiR1 ar ρ G E := h
theorem s_iR1e {n : Int} {G : List D → Prop} (h : G (rng 0 n.toNat)) (g : -(2 ^ 62) ≤ n ∧ n < 2 ^ 62) : ∃ m : Int, ([.int n] : List D) = [.int m] ∧ (-(2 ^ 62) ≤ m ∧ m < 2 ^ 62) ∧ G (rng 0 m.toNat) := ⟨n, rfl, g, h⟩
theorem s_pNo {G : Option Int → En → Prop} (h : G none ρ) : wpNo ρ G E := h
theorem s_pAt {G : Option Int → En → Prop} (h : w ρ (fun d ρ' => ∃ i, d = .int i ∧ G (some i) ρ') E) : wpAt w ρ G E := h
theorem s_slL {wl wh : WO} (h : ls ρ (fun L ρ1 => wl ρ1 (fun lo ρ2 => wh ρ2 (fun hi ρ3 => ∃ ds, L ρ3 (.list ds) ∧ A (cutG ds lo hi) ρ3) E) E) E) : wSlL ls wl wh ρ A E := h
theorem s_Yes (h : T true ρ) : wYes ρ T E := h
/-- the values -/
theorem s_i {g : Int → Int → D} {a b : Int} (h : k (g a b)) : f2i g (.int a) (.int b) k := h
theorem s_I {C : Int → Int → Prop} {g : Int → Int → D} {a b : Int} (h : k (g a b)) (c : C a b) : f2I C g (.int a) (.int b) k := ⟨c, h⟩
theorem s_powl {a b : Int} (r : Int) (c : CPow a b) (e : a ^ b.toNat = r) (h : k (.int r)) : f2I CPow (fun i j => .int (i ^ j.toNat)) (.int a) (.int b) k := ⟨c, by show k (.int (a ^ b.toNat)); rw [e]; exact h⟩
theorem s_addi {a b : Int} (h : k (.int (a + b))) : fAdd (.int a) (.int b) k := h
theorem s_addl {a b : List D} (h : k (.list (a ++ b))) (c : a.length + b.length ≤ sizeLine) : fAdd (.list a) (.list b) k := ⟨c, h⟩
theorem s_addt {a b : List D} (h : k (.tuple (a ++ b))) (c : a.length + b.length ≤ sizeLine) : fAdd (.tuple a) (.tuple b) k := ⟨c, h⟩
theorem s_adds {a b : Str} (h : k (.str (a ++ b))) (c : a.length + b.length ≤ sizeLine) : fAdd (.str a) (.str b) k := ⟨c, h⟩
theorem s_neg {a : Int} (h : k (.int (-a))) : fNeg (.int a) k := h
theorem s_eqi {a b : Int} (h : k (.bool (decide (a = b)))) : fEq (.int a) (.int b) k := h
theorem s_nei {a b : Int} (h : k (.bool (!decide (a = b)))) : fNe (.int a) (.int b) k := h
theorem s_eqs {a b : Str} (h : k (.bool (decide (a = b)))) : fEq (.str a) (.str b) k := h
theorem s_nes {a b : Str} (h : k (.bool (!decide (a = b)))) : fNe (.str a) (.str b) k := h
theorem s_isB {a b : Bool} (h : k (.bool (decide (a = b)))) : fIsB (.bool a) (.bool b) k := h
theorem s_notB {a b : Bool} (h : k (.bool (!decide (a = b)))) : fNotB (.bool a) (.bool b) k := h
theorem s_ixl {ds : List D} {z : Int} (x : D) (e : atI ds z = some x) (h : k x) : fIx (.list ds) (.int z) k := ⟨x, e, h⟩
theorem s_ixt {ds : List D} {z : Int} (x : D) (e : atI ds z = some x) (h : k x) : fIx (.tuple ds) (.int z) k := ⟨x, e, h⟩
theorem s_abs {a : Int} (h : k (.int (if a < 0 then -a else a))) : fAbs (.int a) k := h
theorem s_int {a : Int} (h : k (.int a)) : fInt (.int a) k := h
theorem s_lenl {ds : List D} (h : k (.int ds.length)) : fLen (.list ds) k := h
theorem s_lent {ds : List D} (h : k (.int ds.length)) : fLen (.tuple ds) k := h
theorem s_gcd {a b : Int} (h : k (.int ((Nat.gcd a.natAbs b.natAbs : Nat) : Int))) : fGcd (.int a) (.int b) k := h
/-- ways -/
theorem s_ift {c : Bool} (e : c = true) (h : P) : if c = true then P else Q := by rw [if_pos e]; exact h
theorem s_iff {c : Bool} (e : c = false) (h : Q) : if c = true then P else Q := by rw [e]; exact h
theorem s_ifd {p : Prop} [Decidable p] (h1 : p → P) (h2 : ¬p → Q) : if decide p = true then P else Q := by
  by_cases h : p
  · rw [if_pos (decide_eq_true h)]; exact h1 h
  · rw [decide_eq_false h]; exact h2 h
theorem s_ifn {p : Prop} [Decidable p] (h1 : ¬p → P) (h2 : p → Q) : if (!decide p) = true then P else Q := by
  by_cases h : p
  · rw [decide_eq_true h]; exact h2 h
  · rw [decide_eq_false h]; exact h1 h
theorem s_ifb {c : Bool} (h1 : c = true → P) (h2 : c = false → Q) : if c = true then P else Q := by
  cases c
  · exact h2 rfl
  · exact h1 rfl
/-- calls: what comes back -/
theorem up_v {as : List Ar} {s : Sl} {os : List Sl} : upds ρ (.v d :: as) (s :: os) = upds ρ as os := rfl
theorem up_nil : upds ρ [] [] = ρ := rfl
theorem s_fr0 (h : nx ρ) : forRun wg ws ⟨nx, rt, rf, bk, ct, rs⟩ [] ρ := h
theorem s_frs {ds : List D} (h : wg d ρ (fun ρ2 => ws ⟨forRun wg ws ⟨nx, rt, rf, bk, ct, rs⟩ ds, rt, rf, nx, forRun wg ws ⟨nx, rt, rf, bk, ct, rs⟩ ds, rs⟩ ρ2) rs) : forRun wg ws ⟨nx, rt, rf, bk, ct, rs⟩ (d :: ds) ρ := h
theorem s_run {ds : List D} (bk ct : En → Prop) (es : List D) (e : ds = es) (h : forRun wg ws ⟨nx, rt, rf, bk, ct, rs⟩ es ρ) : ∃ Inv : Nat → En → Prop, Inv 0 ρ ∧
  (∀ i d ρ', ds[i]? = some d → Inv i ρ' → wg d ρ' (fun ρ2 => ws ⟨Inv (i + 1), rt, rf, nx, Inv (i + 1), rs⟩ ρ2) rs) ∧ ∀ ρ', Inv ds.length ρ' → nx ρ' := by
  subst e
  exact for_run (B := ⟨nx, rt, rf, bk, ct, rs⟩) h
theorem s_inv {ds : List D} (Inv : Nat → En → Prop) (h0 : Inv 0 ρ) (h : ∀ i d ρ', ds[i]? = some d → Inv i ρ' → wg d ρ' (fun ρ2 => ws ⟨Inv (i + 1), rt, rf, nx, Inv (i + 1), rs⟩ ρ2) rs) (hn : ∀ ρ', Inv ds.length ρ' → nx ρ') : ∃ Inv : Nat → En → Prop, Inv 0 ρ ∧
  (∀ i d ρ', ds[i]? = some d → Inv i ρ' → wg d ρ' (fun ρ2 => ws ⟨Inv (i + 1), rt, rf, nx, Inv (i + 1), rs⟩ ρ2) rs) ∧ ∀ ρ', Inv ds.length ρ' → nx ρ' := ⟨Inv, h0, h, hn⟩
theorem s_cut {ds : List D} (Z : En → Prop) (hz : ∀ ρ', Z ρ' → nx ρ') (h : (∀ ρ', Z ρ' → nx ρ') → ∃ Inv : Nat → En → Prop, Inv 0 ρ ∧
  (∀ i d ρ', ds[i]? = some d → Inv i ρ' → wg d ρ' (fun ρ2 => ws ⟨Inv (i + 1), rt, rf, nx, Inv (i + 1), rs⟩ ρ2) rs) ∧ ∀ ρ', Inv ds.length ρ' → nx ρ') : ∃ Inv : Nat → En → Prop, Inv 0 ρ ∧
  (∀ i d ρ', ds[i]? = some d → Inv i ρ' → wg d ρ' (fun ρ2 => ws ⟨Inv (i + 1), rt, rf, nx, Inv (i + 1), rs⟩ ρ2) rs) ∧ ∀ ρ', Inv ds.length ρ' → nx ρ' := h hz
theorem s_lc {vs : List Nat} (h : wi ρ (fun ds ρ1 => ∃ Inv : Nat → List D → En → Prop, Inv 0 [] ρ1 ∧
  (∀ i d acc ρ', ds[i]? = some d → Inv i acc ρ' → okw ρ' vs ∧ wg d (wipeE ρ' vs) (fun ρ2 => wt ρ2 (fun b ρ3 =>
    if b = true then w ρ3 (fun y ρ4 => acc.length < sizeLine ∧ okw ρ4 vs ∧ Inv (i + 1) (acc ++ [y]) (back ρ' vs ρ4)) NoE else okw ρ3 vs ∧ Inv (i + 1) acc (back ρ' vs ρ3)) NoE) NoE) ∧
  ∀ acc ρ', Inv ds.length acc ρ' → A acc ρ') E) : wLc vs wi wg wt w ρ A E := h
theorem s_lr {vs : List Nat} {ds : List D} (h : lcRun vs wg wt w A ds [] ρ) : ∃ Inv : Nat → List D → En → Prop, Inv 0 [] ρ ∧
  (∀ i d acc ρ', ds[i]? = some d → Inv i acc ρ' → okw ρ' vs ∧ wg d (wipeE ρ' vs) (fun ρ2 => wt ρ2 (fun b ρ3 =>
    if b = true then w ρ3 (fun y ρ4 => acc.length < sizeLine ∧ okw ρ4 vs ∧ Inv (i + 1) (acc ++ [y]) (back ρ' vs ρ4)) NoE else okw ρ3 vs ∧ Inv (i + 1) acc (back ρ' vs ρ3)) NoE) NoE) ∧
  ∀ acc ρ', Inv ds.length acc ρ' → A acc ρ' := lc_run h
theorem s_lr0 {vs : List Nat} {acc : List D} (h : A acc ρ) : lcRun vs wg wt w A [] acc ρ := h
theorem s_lrs {vs : List Nat} {ds acc : List D} (o : okw ρ vs) (h : wg d (wipeE ρ vs) (fun ρ2 => wt ρ2 (fun b ρ3 =>
    if b = true then w ρ3 (fun y ρ4 => acc.length < sizeLine ∧ okw ρ4 vs ∧ lcRun vs wg wt w A ds (acc ++ [y]) (back ρ vs ρ4)) NoE else okw ρ3 vs ∧ lcRun vs wg wt w A ds acc (back ρ vs ρ3)) NoE) NoE) : lcRun vs wg wt w A (d :: ds) acc ρ := ⟨o, h⟩
end
end Den

namespace Den
variable [Tbs]
open PySem L2 Evl PySem.Spec PyProof.Rows
/-! any, all: pulled value by value; c is the truth value at which the pulling stops -/
section
variable {prog : Program} {w : World} {A : Around} {I : Addr} {c : Bool} {R : Bool → Shared → Prop} {E : Value → Shared → Prop}
def Pull (prog : Program) (w : World) (A : Around) (I : Addr) (c : Bool) (E : Value → Shared → Prop) : Nat → (Bool → Shared → Prop) → Shared → Prop
  | 0, R, s => wpAny (model prog w) A (pyNext (.ref I)) (fun o s' => (o = none ∧ R (!c) s') ∨ (o = some (.bool c) ∧ R c s')) E s
  | n + 1, R, s => wpAny (model prog w) A (pyNext (.ref I)) (fun o s' => (o = none ∧ R (!c) s') ∨ ∃ b, o = some (.bool b) ∧ ((b = c ∧ R c s') ∨ (b = !c ∧ Pull prog w A I c E n R s'))) E s
def outB (R : Bool → Shared → Prop) (E : Value → Shared → Prop) : Result → Shared → Prop := fun r s => match r with
  | .ok (.ret v) => ∃ b, v = .bool b ∧ R b s
  | .ok _ => False
  | .error e => E e s
theorem all_loop : ∀ (n : Nat) (s : Shared), Pull prog w A.in1 I false E n R s → codeAny (model prog w) A (.builtin "all.loop" ⟨[.ref I], []⟩) (outB R E) s
  | 0, s, h => by
    refine codeAny_builtin F.entry_all_loop ?_
    rw [Around.under_plainId F.plain_all_loop _]
    refine (wpAny_bind (wpAny_mono h (fun o s' q => ?_) fun e s' q => q) : wpAny _ A.in1 (pyNext (.ref I) >>= _) _ _ s)
    rcases q with ⟨e, q⟩ | ⟨e, q⟩
    · subst e
      exact wpAny_bind (wpAny_rule (wpAny_pure ⟨true, rfl, q⟩))
    · subst e
      exact wpAny_bind (wpAny_holding (wpAny_truthy_bool (wpAny_bind (wpAny_letGo (wpAny_bind (wpAny_rule (wpAny_pure ⟨false, rfl, q⟩)))))))
  | n + 1, s, h => by
    refine codeAny_builtin F.entry_all_loop ?_
    rw [Around.under_plainId F.plain_all_loop _]
    refine (wpAny_bind (wpAny_mono h (fun o s' q => ?_) fun e s' q => q) : wpAny _ A.in1 (pyNext (.ref I) >>= _) _ _ s)
    rcases q with ⟨e, q⟩ | ⟨b, e, q⟩
    · subst e
      exact wpAny_bind (wpAny_rule (wpAny_pure ⟨true, rfl, q⟩))
    · subst e
      refine wpAny_bind (wpAny_holding (wpAny_truthy_bool (wpAny_bind (wpAny_letGo ?_))))
      rcases q with ⟨e, q⟩ | ⟨e, q⟩
      · subst e
        exact wpAny_bind (wpAny_rule (wpAny_pure ⟨false, rfl, q⟩))
      · subst e
        exact wpAny_pure ⟨plainId_quiet F.plain_all_loop _, all_loop n s' q⟩
theorem any_loop : ∀ (n : Nat) (s : Shared), Pull prog w A.in1 I true E n R s → codeAny (model prog w) A (.builtin "any.loop" ⟨[.ref I], []⟩) (outB R E) s
  | 0, s, h => by
    refine codeAny_builtin F.entry_any_loop ?_
    rw [Around.under_plainId F.plain_any_loop _]
    refine (wpAny_bind (wpAny_mono h (fun o s' q => ?_) fun e s' q => q) : wpAny _ A.in1 (pyNext (.ref I) >>= _) _ _ s)
    rcases q with ⟨e, q⟩ | ⟨e, q⟩
    · subst e
      exact wpAny_bind (wpAny_rule (wpAny_pure ⟨false, rfl, q⟩))
    · subst e
      exact wpAny_bind (wpAny_holding (wpAny_truthy_bool (wpAny_bind (wpAny_letGo (wpAny_bind (wpAny_rule (wpAny_pure ⟨true, rfl, q⟩)))))))
  | n + 1, s, h => by
    refine codeAny_builtin F.entry_any_loop ?_
    rw [Around.under_plainId F.plain_any_loop _]
    refine (wpAny_bind (wpAny_mono h (fun o s' q => ?_) fun e s' q => q) : wpAny _ A.in1 (pyNext (.ref I) >>= _) _ _ s)
    rcases q with ⟨e, q⟩ | ⟨b, e, q⟩
    · subst e
      exact wpAny_bind (wpAny_rule (wpAny_pure ⟨false, rfl, q⟩))
    · subst e
      refine wpAny_bind (wpAny_holding (wpAny_truthy_bool (wpAny_bind (wpAny_letGo ?_))))
      rcases q with ⟨e, q⟩ | ⟨e, q⟩
      · subst e
        exact wpAny_bind (wpAny_rule (wpAny_pure ⟨true, rfl, q⟩))
      · subst e
        exact wpAny_pure ⟨plainId_quiet F.plain_any_loop _, any_loop n s' q⟩
theorem call_allP {x : Value} {s : Shared} {n : Nat} {Q : Value → Shared → Prop} (h : wpAny (model prog w) A.in1 (pyIter x) (fun it s2 => ∃ J, it = .ref J ∧ Pull prog w A.in1 J false E n (fun b s' => Q (.bool b) s') s2) E s) : wpAny (model prog w) A (call (.builtin "all") [x]) Q E s := by
  refine call_function_tree F.kind_all F.plain_all F.entry_all (F.args_all1 _) ?_
  unfold Builtin.«all»
  refine wpAny_bind (m := oneArg "all" _) (wpAny_pure (wpAny_bind (wpAny_mono h (fun it s2 q => ?_) fun e s' q => q)))
  obtain ⟨J, e, q⟩ := q
  subst e
  refine wpAny_pure ⟨plainId_quiet F.plain_all_loop _, codeAny_mono (all_loop n s2 q) fun r s' z => ?_⟩
  cases r with
  | error e => exact z
  | ok f =>
    cases f with
    | ret v => obtain ⟨b, e, z⟩ := z; subst e; exact z
    | next => exact z.elim
    | brk => exact z.elim
    | cont => exact z.elim
theorem call_anyP {x : Value} {s : Shared} {n : Nat} {Q : Value → Shared → Prop} (h : wpAny (model prog w) A.in1 (pyIter x) (fun it s2 => ∃ J, it = .ref J ∧ Pull prog w A.in1 J true E n (fun b s' => Q (.bool b) s') s2) E s) : wpAny (model prog w) A (call (.builtin "any") [x]) Q E s := by
  refine call_function_tree F.kind_any F.plain_any F.entry_any (F.args_any1 _) ?_
  unfold Builtin.«any»
  refine wpAny_bind (m := oneArg "any" _) (wpAny_pure (wpAny_bind (wpAny_mono h (fun it s2 q => ?_) fun e s' q => q)))
  obtain ⟨J, e, q⟩ := q
  subst e
  refine wpAny_pure ⟨plainId_quiet F.plain_any_loop _, codeAny_mono (any_loop n s2 q) fun r s' z => ?_⟩
  cases r with
  | error e => exact z
  | ok f =>
    cases f with
    | ret v => obtain ⟨b, e, z⟩ := z; subst e; exact z
    | next => exact z.elim
    | brk => exact z.elim
    | cont => exact z.elim
/-! a generator that is pulled -/
def YB (a : Addr) (g : Nat) (c : Bool) (R : Bool → Shared → Prop) : Protocol := fun _ _ v s kap => ∃ b, v = .bool b ∧
  ((b = c ∧ ∀ x : GenState, x.bare = true → R c (s.setGen g x)) ∨
    (b = !c ∧ g < s.gens.size ∧ s.heap.IsGen a g ∧ s.heap.NoLimit ∧ ∀ x : GenState, x.bare = true → kap (.send .none) ((s.setGen g x).setGen g .running)))
def RB (g : Nat) (c : Bool) (R : Bool → Shared → Prop) : GenEnd := fun _ _ r s => r = .ok .next ∧ ∀ h' : Heap, (∀ b o, s.heap.get? b = some o → h'.get? b = some o) → R (!c) { s.setGen g .finished with heap := h' }
theorem pull_gen {a : Addr} {g : Nat} (hh : A.handled = none) (hroom : A.depth < recursionLimit) : ∀ (n : Nat) (s : Shared) (x : GenState), s.heap.NoLimit → s.heap.IsGen a g → s.gens[g]? = some x →
    x.Goes (model prog w) A.in1 (RB g c R) (YB a g c R) n (.send .none) (s.setGen g .running) → Pull prog w A a c E n R s
  | 0, s, x, hl, hg, hx, go => by
    refine wpAny_pyNext_genexpQ (P := fun _ _ s₁ => ∀ h' : Heap, (∀ b o, s₁.heap.get? b = some o → h'.get? b = some o) → R (!c) { s₁.setGen g .finished with heap := h' }) (Y := YB a g c R) (n := 0) hh hl hroom hg hx go (fun v s1 y hb hv => ?_) fun s1 hp h' hk => .inl ⟨rfl, hp h' hk⟩
    obtain ⟨b, e, q⟩ := hv
    subst e
    rcases q with ⟨e2, q⟩ | ⟨e2, _, _, _, q⟩
    · exact .inr ⟨by rw [e2], q y hb⟩
    · exact (q .finished rfl).elim
  | n + 1, s, x, hl, hg, hx, go => by
    refine wpAny_pyNext_genexpQ (P := fun _ _ s₁ => ∀ h' : Heap, (∀ b o, s₁.heap.get? b = some o → h'.get? b = some o) → R (!c) { s₁.setGen g .finished with heap := h' }) (Y := YB a g c R) (n := n + 1) hh hl hroom hg hx go (fun v s1 y hb hv => ?_) fun s1 hp h' hk => .inl ⟨rfl, hp h' hk⟩
    obtain ⟨b, e, q⟩ := hv
    subst e
    refine .inr ⟨b, rfl, ?_⟩
    rcases q with ⟨e2, q⟩ | ⟨e2, hlt, hg1, hl1, q⟩
    · exact .inl ⟨e2, q y hb⟩
    · refine .inr ⟨e2, pull_gen hh hroom n _ y hl1 hg1 ?_ (q y hb)⟩
      simp [Shared.setGen, hlt]
/-- one turn: what is handed out is a truth value; T i: the state ahead of the turn i -/
structure GTurn (prog : Program) (w : World) (A : Around) (a : Addr) (g : Nat) (c : Bool) (R : Bool → Shared → Prop) (it : Addr) (tg elt : Expr) (env : Env) (n : Nat) (T : Nat → Shared → Prop) : Prop where
  done : ∀ s, T n s → wpAny (model prog w) A (pyNext (.ref it)) (fun o s' => o = none ∧ ∀ h' : Heap, (∀ b o, s'.heap.get? b = some o → h'.get? b = some o) → R (!c) { s'.setGen g .finished with heap := h' }) (fun _ _ => False) s
  item : ∀ i s, i < n → T i s → wpAny (model prog w) A (pyNext (.ref it)) (fun o s' => ∃ v, o = some v ∧ wpAny (model prog w) A (letOwnedTupleGo tg (.ref it) v) (fun _ s1 => wpAny (model prog w) A (assign tg env v) (fun _ s2 =>
    wpAny (model prog w) A (eval elt env) (fun y s3 => ∃ b, y = .bool b ∧ ((b = c ∧ ∀ x : GenState, x.bare = true → R c (s3.setGen g x)) ∨
      (b = !c ∧ g < s3.gens.size ∧ s3.heap.IsGen a g ∧ s3.heap.NoLimit ∧ ∀ x : GenState, x.bare = true → T (i + 1) ((s3.setGen g x).setGen g .running)))) (fun _ _ => False) s2) (fun _ _ => False) s1) (fun _ _ => False) s') (fun _ _ => False) s
theorem seg_turns {a it : Addr} {g n : Nat} {tg elt iter : Expr} {scope : Scope} {pos : Pos} {env : Env} {T : Nat → Shared → Prop} (hco : env.scope.isCoroutine = false)
    (G : GTurn prog w (A.over (.compLoop (.GeneratorExp elt [⟨tg, iter, [], 0⟩] scope pos) 0 (.ref it) .none env) []) a g c R it tg elt env n T) :
    ∀ (k i : Nat) (s₀ s : Shared), n - i = k → i ≤ n → T i s → Seg (model prog w) A (RB g c R) (YB a g c R) k s₀ (.compLoop (.GeneratorExp elt [⟨tg, iter, [], 0⟩] scope pos) 0 (.ref it) .none env)
      ((model prog w).den (.compLoop (.GeneratorExp elt [⟨tg, iter, [], 0⟩] scope pos) 0 (.ref it) .none env)) [] s := by
  intro k
  induction k with
  | zero =>
    intro i s₀ s hk hi ht
    have e : i = n := by omega
    subst e
    show Seg _ A _ _ _ s₀ _ ((compTurn (.GeneratorExp elt [⟨tg, iter, [], 0⟩] scope pos) 0 (.ref it) .none env).onRaise (leaving env)) [] s
    rw [compTurn_gen, Sem.onRaise_eq_wrap]
    refine seg_bind_wrap (wpAny_standAt (seg_bind_wrap (wpAny_mono (G.done s ht) (fun o s' q => ?_) fun _ _ q => q.elim)))
    obtain ⟨e, q⟩ := q
    subst e
    exact seg_end (.ok .next) ⟨rfl, q⟩
  | succ k ih =>
    intro i s₀ s hk hi ht
    have hlt : i < n := by omega
    show Seg _ A _ _ _ s₀ _ ((compTurn (.GeneratorExp elt [⟨tg, iter, [], 0⟩] scope pos) 0 (.ref it) .none env).onRaise (leaving env)) [] s
    rw [compTurn_gen, Sem.onRaise_eq_wrap]
    refine seg_bind_wrap (wpAny_standAt (seg_bind_wrap (wpAny_mono (G.item i s hlt ht) (fun o s' q => ?_) fun _ _ q => q.elim)))
    obtain ⟨v, e, q⟩ := q
    subst e
    refine seg_bind_wrap (wpAny_mono q (fun _ s1 q => seg_bind_wrap (wpAny_mono q (fun _ s2 q => ?_) fun _ _ q => q.elim)) fun _ _ q => q.elim)
    simp only [List.forIn_nil]
    refine seg_bind_wrap (wpAny_pure ?_)
    simp only [if_true]
    have hy : ∀ v, yieldOut env v = yieldValue v := fun v => by simp only [yieldOut, hco, Bool.false_eq_true, if_false]
    simp only [hy]
    rw [Sem.bind_eq_wrap', Sem.bind_eq_wrap', Sem.wrap_wrap, Sem.wrap_wrap]
    refine seg_wrap (wpAny_mono q (fun y s3 q => ?_) fun _ _ q => q.elim)
    obtain ⟨b, e, q⟩ := q
    subst e
    refine seg_at (seg_yield rfl rfl rfl ⟨b, rfl, ?_⟩)
    rcases q with q | ⟨e2, hlt2, hg, hl, q⟩
    · exact .inl q
    · exact .inr ⟨e2, hlt2, hg, hl, fun x hx => seg_again rfl (ih (i + 1) _ _ (by omega) hlt (q x hx))⟩
theorem seg_first {a it : Addr} {g n : Nat} {tg elt iter : Expr} {scope : Scope} {pos : Pos} {env : Env} {T : Nat → Shared → Prop} (hco : env.scope.isCoroutine = false)
    (G : GTurn prog w (A.over (.compLoop (.GeneratorExp elt [⟨tg, iter, [], 0⟩] scope pos) 0 (.ref it) .none env) []) a g c R it tg elt env n T)
    (hs : ∀ (s : Shared) (Q : Value → Shared → Prop) (E : Value → Shared → Prop), T 0 s → Q (.ref it) s → wpAny (model prog w) (A.over (.compStart (.GeneratorExp elt [⟨tg, iter, [], 0⟩] scope pos) 0 (.ref it) .none env) []) (pyIter (.ref it)) Q E s)
    (s₀ s : Shared) (ht : T 0 s) : Seg (model prog w) A (RB g c R) (YB a g c R) n s₀ (.compStart (.GeneratorExp elt [⟨tg, iter, [], 0⟩] scope pos) 0 (.ref it) .none env)
      ((model prog w).den (.compStart (.GeneratorExp elt [⟨tg, iter, [], 0⟩] scope pos) 0 (.ref it) .none env)) [] s := by
  have loop := seg_turns (iter := iter) (scope := scope) (pos := pos) hco G n 0 s₀ s (Nat.sub_zero _) (Nat.zero_le _) ht
  show Seg _ A _ _ _ s₀ _ ((compStart (.GeneratorExp elt [⟨tg, iter, [], 0⟩] scope pos) 0 (.ref it) .none env).onRaise (leaving env)) [] s
  unfold compStart
  rw [Sem.onRaise_eq_wrap]
  show Seg _ A _ _ _ s₀ _ ((ask >>= _).wrap _ _ _ _) [] s
  refine seg_bind_wrap (wpAny_askSetting ?_)
  split
  · exact seg_again rfl loop
  · refine seg_bind_wrap (wpAny_rule ?_)
    show Seg _ A _ _ _ s₀ _ ((standAt iter.pos >>= _).wrap _ _ _ _) [] s
    exact seg_bind_wrap (wpAny_standAt (seg_bind_wrap (hs s _ _ ht (seg_again rfl loop))))
end
end Den

namespace Den
variable [Tbs]
open PySem L2 Evl PySem.Spec PyProof.Rows
/-- the context of a generator expression's frame, made at s from X's frame; A: the around at which its turns run -/
def genCx (X : Cx) (A : Around) (s : Shared) (H : Hp) (N : List Str) (ex : List Addr) (env : Env) : Cx where
  prog := X.prog
  w := X.w
  K := X.K
  mg := X.mg
  base := X.base
  A := A
  N := N
  s_0 := s
  H_0 := H
  env := env
  outer := X.stack
  stack := env :: X.stack
  ex := ex
  fn := fun _ => false
  calm := true
  pn := []
  xe := fun _ _ => False
/-- the generator expression's own scope -/
structure GenSc (sc scope : Scope) : Prop where
  kind : scope.kind = .function
  co : scope.isCoroutine = false
  cell : ∀ y ∈ scope.names, y.2 ≠ .cell
  free : ∀ y ∈ scope.names, y.2 = .free → sc.names.lookup y.1 = some .cell ∨ sc.names.lookup y.1 = some .free
section
variable {X : Cx} {pins : List (Addr × Obj)} {σ τ : L2.St} {H : Hp} {s : Shared}
theorem GenSc.has {scope : Scope} (L : GenSc X.env.scope scope) (ok : X.Ok) : ∀ y ∈ scope.names, y.2 = .free → ∃ c, X.env.cells.lookup y.1 = some c := fun y hy e => by
  rcases L.free y hy e with k | k
  · exact ok.has _ (.inl k)
  · exact ok.has _ (.inr k)
theorem gen_start {A : Around} {scope : Scope} {N : List Str} {code : Value} {it : Value} {h1 : Heap} {G : Array GenState} {D : Drawn} {tk : Nat} {fp : List Addr} {ps : List (Addr × Obj)} (I : Inv X pins σ H s) (L : GenSc X.env.scope scope) (hA : A.handled = none)
    (hfr : A.frames = some (genEnv scope (cloFrom X.env.cells scope.names []) s.heap.objs.size code builtinsNs X.env :: X.stack)) (hns : h1.Ns s.heap.objs.size (fun y => if y = ".0" then some it else none)) (kp : ∀ b o, s.heap.get? b = some o → h1.get? b = some o) (hG : AllBare G)
    (hex : ∀ b ∈ fp, b < s.heap.objs.size ∧ (∀ o, X.base.get? b ≠ some o) ∧ b ∉ frs X.stack ∧ ∀ x c, X.env.cells.lookup x = some c → c ≠ b) (hlen : τ.length = N.length) (hτ : ∀ (i : Nat) (y : Str) (v : V), N[i]? = some y → τ[i]? = some (some v) → Vis scope y → X.N[i]? = some y ∧ σ[i]? = some (some v) ∧ scope.names.lookup y = some .free)
    (hps : ∀ p ∈ ps, h1.get? p.1 = some p.2 ∧ H p.1 = none ∧ p.1 ≠ s.heap.objs.size ∧ p.1 ∉ frs X.stack ∧ ∀ v, p.2.data ≠ .cell v) :
    Inv (genCx X A s H N fp (genEnv scope (cloFrom X.env.cells scope.names []) s.heap.objs.size code builtinsNs X.env)) ps τ H { s with heap := h1, gens := G, drawn := D, toks := tk } := by
  have e0 := I.env0
  have hfree := L.has I.ok
  have cm : ∀ {y c}, (cloFrom X.env.cells scope.names []).lookup y = some c → X.env.cells.lookup y = some c := fun {y c} e => by
    rcases cloFrom_mem (PySem.mem_of_lookup e) with hm | ⟨q1, q2⟩
    · cases hm
    · obtain ⟨c1, hc⟩ := hfree _ q1 rfl
      have hc : X.env.cells.lookup y = some c1 := hc
      have e2 : c = c1 := by
        rw [q2, hc] <;> rfl
      rw [e2]; exact hc
  have look : ∀ {y}, scope.names.lookup y = some .free → ∃ c, (cloFrom X.env.cells scope.names []).lookup y = some c := fun {y} hl =>
    mem_lookup (cloFrom_has (cells := X.env.cells) (acc := []) (show (y, NameKind.free) ∈ scope.names from PySem.mem_of_lookup hl))
  have cellK : ∀ {c : Addr} {v : Option Value}, s.heap.IsCell c v → h1.IsCell c v := fun {c v} ⟨o, ho, hd⟩ => ⟨o, kp _ _ ho, hd⟩
  refine ⟨⟨e0.mod, L.kind, I.ok.glob, rfl, Nat.le_refl _, fun y z c e1 e2 => I.ok.inj y z c (cm e1) (cm e2), fun y hy => ?_, fun y c z _ => ?_, fun _ => hA, hfr, .inr ⟨rfl, rfl⟩, fun b z => ⟨Nat.ne_of_lt (hex b z).1, fun x c e => (hex b z).2.2.2 x c (cm e)⟩, e0.bs, e0.bsz, fun b o e z => (hex b z).2.1 o e,
      fun b z => (hex b z).2.2.1, e0.funs, e0.frf⟩,
    rfl, hG, Un.kept kp, ⟨_, hns, fun i y v q1 q2 q3 => ?_⟩, fun y c e => ?_, e0.hok.fresh (Nat.le_refl _), fun y c e => I.freeC y c (cm e), fun q hq => ?_, e0.hok.kept kp, hlen⟩
  · have hy : scope.names.lookup y = some .cell ∨ scope.names.lookup y = some .free := hy
    rcases hy with hy | hy
    · exact absurd rfl (L.cell _ (PySem.mem_of_lookup hy))
    · exact look hy
  · have z : false = true := z
    cases z
  · obtain ⟨e1, e2, k⟩ := hτ i y v q1 q2 q3
    obtain ⟨m, hn, hl⟩ := I.loc
    have hvis : Vis X.env.scope y := (L.free _ (PySem.mem_of_lookup k) rfl).elim (fun k => .inr (.inl k)) (fun k => .inr (.inr k))
    obtain ⟨w', r, q⟩ := hl i y v e1 e2 hvis
    obtain ⟨c2, z2⟩ := look k
    refine ⟨w', r, .inr ⟨.inr k, c2, z2, ?_⟩⟩
    have c1 := cm z2
    rcases q with ⟨k', _⟩ | ⟨_, c3, e', z⟩
    · have k' : X.env.scope.names.lookup y = some .local := k'
      rcases L.free _ (PySem.mem_of_lookup k) rfl with k2 | k2 <;> rw [show X.env.scope.names.lookup y = _ from k2] at k' <;> cases k'
    · rw [c1] at e'
      cases e'
      exact cellK z
  · obtain ⟨w', z⟩ := I.cell y c (cm e)
    exact ⟨w', cellK z⟩
  · exact hps q (show q ∈ ([] : List (Addr × Obj)) ++ ps from hq)
theorem bare_set {s : Shared} {g : Nat} {x : GenState} (h : AllBare s.gens) (hx : x.bare = true) : AllBare (s.setGen g x).gens := by
  intro y hy
  rcases Array.mem_or_eq_of_mem_setIfInBounds hy with q | q
  · exact h y q
  · rw [q]; exact hx
theorem inv_gens {G : Array GenState} (I : Inv X pins σ H s) (hG : AllBare G) : Inv X pins σ H { s with gens := G } := ⟨I.ok, I.os, hG, I.base, I.loc, I.cell, I.free, I.freeC, I.pin, I.hok, I.len⟩
theorem inv_set {g : Nat} {x : GenState} (I : Inv X pins σ H s) (hx : x.bare = true) : Inv X pins σ H (s.setGen g x) := inv_gens I (bare_set I.bare hx)
/-- what is left when any, all are through -/
def Thru (X : Cx) (Qc : Bool → Hp → Prop) (b : Bool) (s : Shared) : Prop := ∃ ps σ H, Inv X ps σ H s ∧ Qc b H
theorem gturn {a it : Addr} {g n : Nat} {c : Bool} {tg elt : Expr} {J : It} {fp : List Addr} {tn : Nat → Heap → Prop} {gG : TG} {te : TE} {ps : List (Addr × Obj)} {o : Obj} {Iv : Nat → L2.St → Hp → Prop} {Qc : Bool → Hp → Prop} (hc : X.calm = true) (hx : X.xe = fun _ _ => False)
    (Tn : Turn X.prog X.w X.K tg J fp it tn) (hg : PG X tg gG) (he : PE X elt te) (hp : (a, o) ∈ ps) (ho : ∀ h : Heap, h.get? a = some o → h.IsGen a g)
    (hgo : ∀ i σ H, i < n → Iv i σ H → J.go i H ∧ ∀ x H2, J.yld i H x H2 → gG x σ H2 (fun σ2 H3 => te σ2 H3 (fun v H4 => ∃ b, v = .bl b ∧ ((b = c ∧ Qc c H4) ∨ (b = !c ∧ Iv (i + 1) σ2 H4)))))
    (hst : ∀ σ H, Iv n σ H → J.stop n H ∧ Qc (!c) H) :
    GTurn X.prog X.w X.A a g c (Thru X Qc) it tg elt X.env n (fun i s => ∃ σ H, Inv X ps σ H s ∧ (∀ b ∈ fp, FpOk X ps H b) ∧ tn i s.heap ∧ g < s.gens.size ∧ Iv i σ H) where
  done := by
    rintro s ⟨σ, H, I, hf, ht, _, iv⟩
    obtain ⟨st, q⟩ := hst σ H iv
    refine wpAny_mono (Tn.done X rfl rfl rfl hc n ps s σ H (fun _ _ => False) I hf ht st) (fun r s1 z => ⟨z.1, fun h' hk => ⟨ps, σ, H, ?_, q⟩⟩) fun _ _ z => z
    exact inv_gens (G := (s1.setGen g .finished).gens) (z.2.kept (t' := s1.toks) hk) (bare_set z.2.bare rfl)
  item := by
    rintro i s hi ⟨σ, H, I, hf, ht, hlt, iv⟩
    obtain ⟨go, stp⟩ := hgo i σ H hi iv
    refine GenW.wpAny_gsz (n := g + 1) hlt (wpAny_mono (Tn.item X rfl rfl rfl hc i ps s σ H (fun _ _ => False) I hf ht go) (fun r s1 z hs1 => ?_) fun _ _ z => z.elim)
    obtain ⟨u, e, z⟩ := z
    refine ⟨u, e, GenW.wpAny_gsz hs1 (wpAny_mono z (fun _ s2 z hs2 => ?_) fun _ _ z => z.elim)⟩
    obtain ⟨x, H2, I2, r2, y2, t2, f2⟩ := z
    have stat : ∀ b ∈ fp, FpOk X ps H2 b := fun b hb => ⟨f2 b hb, (hf b hb).2⟩
    have I2' := I2.pinned stat (Tn.obj _ _ t2)
    refine GenW.wpAny_gsz hs2 (wpAny_mono (hg.run _ s2 σ H2 x u _ I2' r2 (stp x H2 y2)) (fun _ s3 z hs3 => ?_) fun _ _ z => by rw [hx] at z; exact z.elim)
    obtain ⟨σ3, H3, I3, q3⟩ := z
    refine GenW.wpAny_gsz hs3 (wpAny_mono (he.run _ s3 σ3 H3 _ I3 q3) (fun y s4 z hs4 => ?_) fun _ _ z => by rw [hx] at z; exact z.elim)
    obtain ⟨v, H4, I4, r4, b, e4, q4⟩ := z
    subst e4
    have ey : y = .bool b := r4
    refine ⟨b, ey, ?_⟩
    rcases q4 with ⟨e5, q4⟩ | ⟨e5, q4⟩
    · exact .inl ⟨e5, fun x hx => ⟨_, σ3, H4, inv_set I4 hx, q4⟩⟩
    · refine .inr ⟨e5, hs4, ho _ (I4.unpinned.pin (a, o) (List.mem_append_right _ hp)).1, I4.nolimit, fun x hx => ⟨σ3, H4, inv_set (inv_set I4.unpinned hx) rfl, fun b hb => ?_, ?_, by simp [Shared.setGen]; exact hs4, q4⟩⟩
      · obtain ⟨o', e, d⟩ := Tn.obj _ _ t2 b hb
        exact ⟨(I4.pin (b, o') (List.mem_append_right _ (List.mem_append_right _ (mem_pinsAt hb e)))).2.1, (hf b hb).2⟩
      · exact Tn.keep _ _ _ t2 fun b hb o' e => (I4.pin (b, o') (List.mem_append_right _ (List.mem_append_right _ (mem_pinsAt hb e)))).1
end
end Den

namespace Den
variable [Tbs]
open PySem L2 Evl PySem.Spec PyProof.Rows
section
variable {X : Cx} {pins : List (Addr × Obj)} {σ τ : L2.St} {H : Hp} {s : Shared}
/-- the generator's object -/
abbrev genO (g : Nat) (q : Str) (t : Tok) : Obj := { cls := .type "generator", data := .fields #[.int g 0, .str "<genexpr>" (t + 1), .str q (t + 1 + 1)] }
/-- the generator expression is made: what its maker has then -/
theorem gen_make {c P : Addr} {tg elt iter : Expr} {gpos : Pos} {scope : Scope} {ti : TI} {k : Nat} {Q : Value → Shared → Prop} {R : It → Hp → Prop}
    (hr : Room k X.A) (TB : GxR.TabB X.base X.mg c P) (hcode : X.env.code = .ref c) (L : GenSc X.env.scope scope) (hdot : scope.names.lookup (".0" : Str) = some NameKind.local) (hi : PI X tg iter ti)
    (hs : ∀ v, genFold iter X.env v = pure v) (I : Inv X pins σ H s) (h : ti σ H fun J H1 => GxR.TabG H1 P ∧ R J H1)
    (hQ : ∀ (it : Addr) (fp : List Addr) (tn : Nat → Heap → Prop) (J : It) (H1 H2 : Hp) (s4 : Shared) (code : Value) (h1 : Heap) (t : Tok) (tk : Nat), R J H1 → GxR.Tabbed P H1 H2 → Inv X pins σ H2 s4 → Turn X.prog X.w X.K tg J fp it tn → tn 0 s4.heap → (∀ b ∈ fp, FpOk X pins H2 b) → (∀ b ∈ fp, b < s4.heap.objs.size) →
      h1.Ns s4.heap.objs.size (fun y => if y = ".0" then some (.ref it) else none) → (∀ b o, s4.heap.get? b = some o → h1.get? b = some o) → s4.heap.objs.size < h1.objs.size → 
      Q (.ref h1.objs.size) { s4 with gens := s4.gens.push (.fresh (.compStart (.GeneratorExp elt [⟨tg, iter, [], 0⟩] scope gpos) 0 (.ref it) .none (genEnv scope (cloFrom X.env.cells scope.names []) s4.heap.objs.size code builtinsNs X.env))), toks := tk, heap := h1.push (genO s4.gens.size (X.env.qual ++ "<genexpr>") t) }) :
    wpAny (model X.prog X.w) X.A (eval (.GeneratorExp elt [⟨tg, iter, [], 0⟩] scope gpos) X.env) Q X.xe s := by
  refine wpAny_GeneratorExp_make L.co (closure_ok (L.has I.ok)) L.cell hdot L.kind (by have := hr.dp; omega) (thn (hi.run pins s σ H _ I h) fun v s1 z => thn z fun itv s2 z => ?_) hs
  obtain ⟨it, fp, tn, J, H1, e, I2, T, t2, f2, ⟨ps, hP, ht⟩, hR⟩ := z
  subst e
  refine ⟨I2.nolimit, ?_⟩
  have hPs : s2.heap.get? P = some { cls := .none, data := .fields ps } := I2.hok P _ hP
  have cd : PySem.W.CodeHd s2.heap c P := TB.code.keeps fun b u e => I2.bk b u e
  have fpP : ∀ b ∈ fp, b ≠ P := fun b hb z => by have := (f2 b hb).1; rw [z, hP] at this; cases this
  have fplt : ∀ b ∈ fp, b < s2.heap.objs.size := fun b hb => by
    obtain ⟨o, e, _⟩ := T.obj _ _ t2 b hb
    exact Heap.lt_size e
  have cont : ∀ (code : Value) (h3 : Heap) (tk : Nat) (ps' : Array Value), Heap.ExtBut P s2.heap h3 → s2.heap.objs.size ≤ h3.objs.size → h3.get? P = some { cls := .none, data := .fields ps' } → (∃ more, ps' = ps ++ more) → TriplesOk ps'.toList →
      wpAny (model X.prog X.w) X.A (builtinsFor X.env.globals X.env.builtins) (fun bi s₄ => ∀ h', h'.Ns s₄.heap.objs.size (fun y => if y = ".0" then some (.ref it) else none) → Heap.SameBut s₄.heap.objs.size (s₄.heap.push { cls := .type "frame", data := .dict #[] }) h' →
          Q (.ref h'.objs.size) { s₄ with
            gens := s₄.gens.push (.fresh (.compStart (.GeneratorExp elt [⟨tg, iter, [], 0⟩] scope gpos) 0 (.ref it) .none (genEnv scope (cloFrom X.env.cells scope.names []) s₄.heap.objs.size code bi X.env))),
            toks := s₄.toks + 1 + 1 + 1,
            heap := h'.push { cls := .type "generator", data := .fields #[.int s₄.gens.size 0, .str "<genexpr>" (s₄.toks + 1), .str (X.env.qual ++ "<genexpr>") (s₄.toks + 1 + 1)] } }) X.xe { s2 with heap := h3, toks := tk } := by
    intro code h3 tk ps' hx hsz hP3 hmore ht3
    obtain ⟨more, em⟩ := hmore
    subst em
    obtain ⟨bm, ob, e1, e2, e3, e4, e5, e6, e7, e8⟩ := TB.bm
    have keep3 : ∀ b u, b ≠ P → s2.heap.get? b = some u → h3.get? b = some u := fun b u hb e => hx b u hb e
    refine wpAny_builtinsFor (m := X.mg) (by rw [I2.ok.glob]; exact (I2.mod.glob.keeps I2.bk).extBut hx TB.gP) e1 e2 (keep3 _ _ e4 (I2.bk _ _ e5)) e6 e7 e8 ?_
    have I4 := GxR.inv_tab (t' := tk) (g' := s2.gens) (d' := s2.drawn) (more := more) (h' := h3) I2 hP keep3 hP3 I2.bare
    intro h' hns hsb
    have kp : ∀ b o, h3.get? b = some o → h'.get? b = some o := fun b o e => hsb.extBut b o (Nat.ne_of_lt (Heap.lt_size e)) (Heap.get?_push_of_some _ e)
    have sz : h'.objs.size = h3.objs.size + 1 := by rw [hsb.1, Heap.size_push]
    refine hQ it fp tn J H1 _ _ code h' tk _ hR ⟨⟨_, upd_same, ht3⟩, fun b hb => upd_ne hb⟩ I4 T (T.keep _ _ _ t2 fun b hb o e => keep3 b o (fpP b hb) e) (fun b hb => ⟨by rw [upd_ne (fpP b hb)]; exact (f2 b hb).1, (f2 b hb).2⟩) (fun b hb => Nat.lt_of_lt_of_le (fplt b hb) hsz) hns kp (by show h3.objs.size < h'.objs.size; omega)
  cases hf : codeAmong gpos ps.toList with
  | none =>
    refine wpAny_genexprCodeX hcode (cd.code hPs ht) (cd.tab hPs) hf fun c' h' tk hx hge hlt hco' _ htab' _ => ?_
    obtain ⟨o1, vs, f1, tf, fl, tg', inF, tx, tt, op, _, _, _, _, _, _, _, _, _, htr, _⟩ := hco'
    exact cont _ h' tk _ hx (Nat.le_trans hge (Nat.le_of_lt hlt)) htab'.2 ⟨_, rfl⟩ htr
  | some cv =>
    refine wpAny_genexprCode_hit hcode (cd.code hPs ht) hf ?_
    exact cont cv s2.heap s2.toks ps (Heap.ExtBut.refl _ _) (Nat.le_refl _) hPs ⟨#[], by simp⟩ ht
end
end Den

namespace Den
variable [Tbs]
open PySem L2 Evl PySem.Spec PyProof.Rows
section
variable {X : Cx} {pins : List (Addr × Obj)} {σ τ : L2.St} {H : Hp} {s : Shared}
theorem pull_mono {prog : Program} {w : World} {A : Around} {I : Addr} {c : Bool} {E : Value → Shared → Prop} {R R' : Bool → Shared → Prop} (h : ∀ b s, R b s → R' b s) : ∀ (n : Nat) (s : Shared), Pull prog w A I c E n R s → Pull prog w A I c E n R' s
  | 0, s, q => wpAny_mono q (fun _ _ z => z.imp (fun z => ⟨z.1, h _ _ z.2⟩) fun z => ⟨z.1, h _ _ z.2⟩) fun _ _ z => z
  | n + 1, s, q => wpAny_mono q (fun _ _ z => z.imp (fun z => ⟨z.1, h _ _ z.2⟩) fun ⟨b, e, z⟩ => ⟨b, e, z.imp (fun z => ⟨z.1, h _ _ z.2⟩) fun z => ⟨z.1, pull_mono h n _ z.2⟩⟩) fun _ _ z => z
/-- any, all of a generator expression: turn by turn; tf: the captured names' slots as the generator sees them -/
def tGenB (P : Addr) (c : Bool) (tf : L2.St → L2.St) (ti : TI) (gG : TG) (te : TE) : TE := fun σ H Q => ti σ H fun J H1 => GxR.TabG H1 P ∧ ∀ H2, GxR.Tabbed P H1 H2 → ∃ (n : Nat) (Iv : Nat → L2.St → Hp → Prop), Iv 0 (tf σ) H2 ∧
  (∀ i σ' H', i < n → Iv i σ' H' → J.go i H' ∧ ∀ x H3, J.yld i H' x H3 → gG x σ' H3 (fun σ2 H4 => te σ2 H4 (fun v H5 => ∃ b, v = .bl b ∧ ((b = c ∧ Q (.bl c) H5) ∨ (b = !c ∧ Iv (i + 1) σ2 H5))))) ∧ ∀ σ' H', Iv n σ' H' → J.stop n H' ∧ Q (.bl (!c)) H'
abbrev genA (A : Around) (tg iter elt : Expr) (scope : Scope) (gpos : Pos) (it : Addr) (env : Env) : Around := A.in1.in1.over (.compLoop (.GeneratorExp elt [⟨tg, iter, [], 0⟩] scope gpos) 0 (.ref it) .none env) []
theorem pe_allG {c P : Addr} {tg elt iter : Expr} {p pos gpos : Pos} {scope : Scope} {ti : TI} {gG : TG} {te : TE} {k : Nat} {N : List Str} {tf : L2.St → L2.St}
    (hr : Room (k + 1) X.A) (hg : Gl X "all") (hm : X.mg "all" = none) (hb : bootBuiltins "all" = some (.builtin "all")) (TB : GxR.TabB X.base X.mg c P) (hcode : X.env.code = .ref c) (L : GenSc X.env.scope scope) (hdot : scope.names.lookup (".0" : Str) = some NameKind.local) (hi : PI X tg iter ti)
    (hs : ∀ v, genFold iter X.env v = pure v)
    (hlen : ∀ σ : L2.St, σ.length = X.N.length → (tf σ).length = N.length) (hτ : ∀ (σ : L2.St) (i : Nat) (y : Str) (v : V), N[i]? = some y → (tf σ)[i]? = some (some v) → Vis scope y → X.N[i]? = some y ∧ σ[i]? = some (some v) ∧ scope.names.lookup y = some .free)
    (hbody : ∀ (A : Around) (s : Shared) (H : Hp) (fp : List Addr) (code : Value), Room k A → PG (genCx X A s H N fp (genEnv scope (cloFrom X.env.cells scope.names []) s.heap.objs.size code builtinsNs X.env)) tg gG ∧ PE (genCx X A s H N fp (genEnv scope (cloFrom X.env.cells scope.names []) s.heap.objs.size code builtinsNs X.env)) elt te)
    (he : starEach [.GeneratorExp elt [⟨tg, iter, [], 0⟩] scope gpos] X.env = (false, eval (.GeneratorExp elt [⟨tg, iter, [], 0⟩] scope gpos) X.env) :: starEach [] X.env := by rfl) :
    PE X (.Call (.Name "all" p) [.GeneratorExp elt [⟨tg, iter, [], 0⟩] scope gpos] [] pos) (tGenB P false tf ti gG te) := by
  refine ⟨fun pins s σ H Q I h => ?_⟩
  refine wpAny_Call_Name_kw (ld_blt I hg hm hb ?_)
  refine PyProof.Rows.callWith_builtin1 ?_ he (by rfl)
  rw [he]
  show wpAny _ _ (spliced ((false, eval (.GeneratorExp elt [⟨tg, iter, [], 0⟩] scope gpos) X.env) :: backTo pos (starEach [] X.env))) _ _ s
  refine Calls.spliced_cons (gen_make hr TB hcode L hdot hi hs I h fun it fp tn J H1 H2 s4 code h1 t tk hR hT I4 T t0 f0 flt hns kp hsz => ?_)
  refine Calls.spliced_nil ?_
  obtain ⟨n, Iv, iv0, hgo, hst⟩ := hR H2 hT
  have isg : (h1.push (genO s4.gens.size (X.env.qual ++ "<genexpr>") t)).IsGen h1.objs.size s4.gens.size := ⟨_, _, _, Heap.get?_push_size _ rfl, rfl, rfl, rfl⟩
  have kp2 : ∀ b o, s4.heap.get? b = some o → (h1.push (genO s4.gens.size (X.env.qual ++ "<genexpr>") t)).get? b = some o := fun b o e => Heap.get?_push_of_some _ (kp b o e)
  have hnew : s4.heap.objs.size ≤ h1.objs.size := Nat.le_of_lt hsz
  have hfr : (genA X.A tg iter elt scope gpos it (genEnv scope (cloFrom X.env.cells scope.names []) s4.heap.objs.size code builtinsNs X.env)).frames = some (genEnv scope (cloFrom X.env.cells scope.names []) s4.heap.objs.size code builtinsNs X.env :: X.stack) := by
    have q := I4.ok.frames
    show (X.A.frames).map _ = _
    rw [q]; rfl
  have hroomA : Room k (genA X.A tg iter elt scope gpos it (genEnv scope (cloFrom X.env.cells scope.names []) s4.heap.objs.size code builtinsNs X.env)) := by
    have d := hr.dp
    have u := hr.un
    refine ⟨hr.hd, ?_, ?_⟩
    · show X.A.depth + 0 + 1 + 3 * k + 5 < _
      omega
    · have e : (genA X.A tg iter elt scope gpos it (genEnv scope (cloFrom X.env.cells scope.names []) s4.heap.objs.size code builtinsNs X.env)).units ≤ X.A.units + 8 := by
        show X.A.in1.in1.units + 0 + _ ≤ _
        simp [Around.in1, Code.cUnits]
        show X.A.units + 2 + 3 * 1 ≤ _
        omega
      omega
  have hps : ∀ q ∈ [(h1.objs.size, genO s4.gens.size (X.env.qual ++ "<genexpr>") t)], (h1.push (genO s4.gens.size (X.env.qual ++ "<genexpr>") t)).get? q.1 = some q.2 ∧ H2 q.1 = none ∧ q.1 ≠ s4.heap.objs.size ∧ q.1 ∉ frs X.stack ∧ ∀ v, q.2.data ≠ .cell v := by
    intro q hq
    rw [List.mem_singleton.mp hq]
    refine ⟨Heap.get?_push_size _ rfl, I4.hok.fresh hnew, Nat.ne_of_gt hsz, fun z => ?_, fun v z => by cases z⟩
    rcases List.mem_cons.mp (I4.stkSub _ z) with e | e
    · have q1 := I4.lt
      rw [← e] at q1
      exact Nat.lt_irrefl _ (Nat.lt_of_lt_of_le q1 hnew)
    · exact I4.nofs hnew e
  have hex : ∀ b ∈ fp, b < s4.heap.objs.size ∧ (∀ o, X.base.get? b ≠ some o) ∧ b ∉ frs X.stack ∧ ∀ x c, X.env.cells.lookup x = some c → c ≠ b := by
    intro b hb
    obtain ⟨q1, q2, q3, q4, q5, q6⟩ := f0 b hb
    refine ⟨flt b hb, fun o e => ?_, fun z => ?_, q5⟩
    · rcases q4 with z | z
      · exact I4.ok.noex b o e z
      · exact Nat.lt_irrefl _ (Nat.lt_of_lt_of_le (Heap.lt_size e) (Nat.le_trans I4.ok.bsz z))
    · rcases List.mem_cons.mp (I4.stkSub _ z) with e | e
      · exact q2 e
      · exact q3 e
  have J0 := gen_start (D := s4.drawn) (tk := tk) (fp := fp) (τ := tf σ) I4 L hroomA.hd hfr (hns.keeps fun b o e => Heap.get?_push_of_some _ e) kp2 (AllBare.push I4.bare (g := .fresh (.compStart (.GeneratorExp elt [⟨tg, iter, [], 0⟩] scope gpos) 0 (.ref it) .none (genEnv scope (cloFrom X.env.cells scope.names []) s4.heap.objs.size code builtinsNs X.env))) rfl) hex (hlen σ I4.len) (hτ σ) hps
  have bd := hbody _ s4 H2 fp code hroomA
  have fpg : ∀ b ∈ fp, FpOk (genCx X (genA X.A tg iter elt scope gpos it (genEnv scope (cloFrom X.env.cells scope.names []) s4.heap.objs.size code builtinsNs X.env)) s4 H2 N fp (genEnv scope (cloFrom X.env.cells scope.names []) s4.heap.objs.size code builtinsNs X.env)) [(h1.objs.size, genO s4.gens.size (X.env.qual ++ "<genexpr>") t)] H2 b := by
    intro b hb
    refine ⟨(f0 b hb).1, Nat.ne_of_lt (flt b hb), (hex b hb).2.2.1, .inl hb, fun x c e => ((J0.ok.exf b hb).2 x c e), fun q hq => ?_⟩
    have hq : q ∈ [] ++ [(h1.objs.size, genO s4.gens.size (X.env.qual ++ "<genexpr>") t)] := hq
    rw [List.mem_singleton.mp hq]
    exact Nat.ne_of_gt (Nat.lt_of_lt_of_le (flt b hb) hnew)
  have GT := gturn (X := (genCx X (genA X.A tg iter elt scope gpos it (genEnv scope (cloFrom X.env.cells scope.names []) s4.heap.objs.size code builtinsNs X.env)) s4 H2 N fp (genEnv scope (cloFrom X.env.cells scope.names []) s4.heap.objs.size code builtinsNs X.env))) (c := false) (g := s4.gens.size) (a := h1.objs.size) (n := n) (Iv := Iv) (Qc := fun b H' => Q (.bl b) H') (J := J) (tn := tn) (it := it) rfl rfl T bd.1 bd.2 (List.mem_singleton.mpr rfl) (fun h e => ⟨genO s4.gens.size (X.env.qual ++ "<genexpr>") t, _, _, e, rfl, rfl, rfl⟩) hgo hst
  have tn0 : tn 0 (h1.push (genO s4.gens.size (X.env.qual ++ "<genexpr>") t)) := T.keep _ _ _ t0 fun b hb o e => kp2 b o e
  refine call_allP (n := n) (wpAny_pyIter_gen isg ⟨_, rfl, pull_mono (R := Thru (genCx X (genA X.A tg iter elt scope gpos it (genEnv scope (cloFrom X.env.cells scope.names []) s4.heap.objs.size code builtinsNs X.env)) s4 H2 N fp (genEnv scope (cloFrom X.env.cells scope.names []) s4.heap.objs.size code builtinsNs X.env)) fun b H' => Q (.bl b) H') (fun b s' z => ?_) n _ (pull_gen (A := X.A.in1) hr.hd (by have := hr.dp; show X.A.depth < _; omega) n _ _ J0.nolimit isg (Array.getElem?_push_size ..) ⟨rfl, ?_⟩)⟩)
  · obtain ⟨ps', σ', H', IG, q⟩ := z
    obtain ⟨hh, g', d', t', os'⟩ := s'
    have os1 : os' = s4.os := IG.os
    subst os1
    exact ⟨.bl b, H', I4.call (h' := hh) (g' := g') (d' := d') (t' := t') (ch := fp) IG.base IG.hok IG.bare (fun b hb => ⟨(f0 b hb).2.2.2.1, (f0 b hb).2.1, (f0 b hb).2.2.2.2.1, (f0 b hb).2.2.2.2.2⟩), rfl, q⟩
  · exact seg_first L.co GT (fun s' Q' E' ⟨_, _, _, _, ht, _⟩ hq => T.self _ 0 s' Q' E' ht hq) _ _ ⟨tf σ, H2, inv_set J0 rfl, fpg, tn0, by simp [Shared.setGen], iv0⟩
theorem pe_anyG {c P : Addr} {tg elt iter : Expr} {p pos gpos : Pos} {scope : Scope} {ti : TI} {gG : TG} {te : TE} {k : Nat} {N : List Str} {tf : L2.St → L2.St}
    (hr : Room (k + 1) X.A) (hg : Gl X "any") (hm : X.mg "any" = none) (hb : bootBuiltins "any" = some (.builtin "any")) (TB : GxR.TabB X.base X.mg c P) (hcode : X.env.code = .ref c) (L : GenSc X.env.scope scope) (hdot : scope.names.lookup (".0" : Str) = some NameKind.local) (hi : PI X tg iter ti)
    (hs : ∀ v, genFold iter X.env v = pure v)
    (hlen : ∀ σ : L2.St, σ.length = X.N.length → (tf σ).length = N.length) (hτ : ∀ (σ : L2.St) (i : Nat) (y : Str) (v : V), N[i]? = some y → (tf σ)[i]? = some (some v) → Vis scope y → X.N[i]? = some y ∧ σ[i]? = some (some v) ∧ scope.names.lookup y = some .free)
    (hbody : ∀ (A : Around) (s : Shared) (H : Hp) (fp : List Addr) (code : Value), Room k A → PG (genCx X A s H N fp (genEnv scope (cloFrom X.env.cells scope.names []) s.heap.objs.size code builtinsNs X.env)) tg gG ∧ PE (genCx X A s H N fp (genEnv scope (cloFrom X.env.cells scope.names []) s.heap.objs.size code builtinsNs X.env)) elt te)
    (he : starEach [.GeneratorExp elt [⟨tg, iter, [], 0⟩] scope gpos] X.env = (false, eval (.GeneratorExp elt [⟨tg, iter, [], 0⟩] scope gpos) X.env) :: starEach [] X.env := by rfl) :
    PE X (.Call (.Name "any" p) [.GeneratorExp elt [⟨tg, iter, [], 0⟩] scope gpos] [] pos) (tGenB P true tf ti gG te) := by
  refine ⟨fun pins s σ H Q I h => ?_⟩
  refine wpAny_Call_Name_kw (ld_blt I hg hm hb ?_)
  refine PyProof.Rows.callWith_builtin1 ?_ he (by rfl)
  rw [he]
  show wpAny _ _ (spliced ((false, eval (.GeneratorExp elt [⟨tg, iter, [], 0⟩] scope gpos) X.env) :: backTo pos (starEach [] X.env))) _ _ s
  refine Calls.spliced_cons (gen_make hr TB hcode L hdot hi hs I h fun it fp tn J H1 H2 s4 code h1 t tk hR hT I4 T t0 f0 flt hns kp hsz => ?_)
  refine Calls.spliced_nil ?_
  obtain ⟨n, Iv, iv0, hgo, hst⟩ := hR H2 hT
  have isg : (h1.push (genO s4.gens.size (X.env.qual ++ "<genexpr>") t)).IsGen h1.objs.size s4.gens.size := ⟨_, _, _, Heap.get?_push_size _ rfl, rfl, rfl, rfl⟩
  have kp2 : ∀ b o, s4.heap.get? b = some o → (h1.push (genO s4.gens.size (X.env.qual ++ "<genexpr>") t)).get? b = some o := fun b o e => Heap.get?_push_of_some _ (kp b o e)
  have hnew : s4.heap.objs.size ≤ h1.objs.size := Nat.le_of_lt hsz
  have hfr : (genA X.A tg iter elt scope gpos it (genEnv scope (cloFrom X.env.cells scope.names []) s4.heap.objs.size code builtinsNs X.env)).frames = some (genEnv scope (cloFrom X.env.cells scope.names []) s4.heap.objs.size code builtinsNs X.env :: X.stack) := by
    have q := I4.ok.frames
    show (X.A.frames).map _ = _
    rw [q]; rfl
  have hroomA : Room k (genA X.A tg iter elt scope gpos it (genEnv scope (cloFrom X.env.cells scope.names []) s4.heap.objs.size code builtinsNs X.env)) := by
    have d := hr.dp
    have u := hr.un
    refine ⟨hr.hd, ?_, ?_⟩
    · show X.A.depth + 0 + 1 + 3 * k + 5 < _
      omega
    · have e : (genA X.A tg iter elt scope gpos it (genEnv scope (cloFrom X.env.cells scope.names []) s4.heap.objs.size code builtinsNs X.env)).units ≤ X.A.units + 8 := by
        show X.A.in1.in1.units + 0 + _ ≤ _
        simp [Around.in1, Code.cUnits]
        show X.A.units + 2 + 3 * 1 ≤ _
        omega
      omega
  have hps : ∀ q ∈ [(h1.objs.size, genO s4.gens.size (X.env.qual ++ "<genexpr>") t)], (h1.push (genO s4.gens.size (X.env.qual ++ "<genexpr>") t)).get? q.1 = some q.2 ∧ H2 q.1 = none ∧ q.1 ≠ s4.heap.objs.size ∧ q.1 ∉ frs X.stack ∧ ∀ v, q.2.data ≠ .cell v := by
    intro q hq
    rw [List.mem_singleton.mp hq]
    refine ⟨Heap.get?_push_size _ rfl, I4.hok.fresh hnew, Nat.ne_of_gt hsz, fun z => ?_, fun v z => by cases z⟩
    rcases List.mem_cons.mp (I4.stkSub _ z) with e | e
    · have q1 := I4.lt
      rw [← e] at q1
      exact Nat.lt_irrefl _ (Nat.lt_of_lt_of_le q1 hnew)
    · exact I4.nofs hnew e
  have hex : ∀ b ∈ fp, b < s4.heap.objs.size ∧ (∀ o, X.base.get? b ≠ some o) ∧ b ∉ frs X.stack ∧ ∀ x c, X.env.cells.lookup x = some c → c ≠ b := by
    intro b hb
    obtain ⟨q1, q2, q3, q4, q5, q6⟩ := f0 b hb
    refine ⟨flt b hb, fun o e => ?_, fun z => ?_, q5⟩
    · rcases q4 with z | z
      · exact I4.ok.noex b o e z
      · exact Nat.lt_irrefl _ (Nat.lt_of_lt_of_le (Heap.lt_size e) (Nat.le_trans I4.ok.bsz z))
    · rcases List.mem_cons.mp (I4.stkSub _ z) with e | e
      · exact q2 e
      · exact q3 e
  have J0 := gen_start (D := s4.drawn) (tk := tk) (fp := fp) (τ := tf σ) I4 L hroomA.hd hfr (hns.keeps fun b o e => Heap.get?_push_of_some _ e) kp2 (AllBare.push I4.bare (g := .fresh (.compStart (.GeneratorExp elt [⟨tg, iter, [], 0⟩] scope gpos) 0 (.ref it) .none (genEnv scope (cloFrom X.env.cells scope.names []) s4.heap.objs.size code builtinsNs X.env))) rfl) hex (hlen σ I4.len) (hτ σ) hps
  have bd := hbody _ s4 H2 fp code hroomA
  have fpg : ∀ b ∈ fp, FpOk (genCx X (genA X.A tg iter elt scope gpos it (genEnv scope (cloFrom X.env.cells scope.names []) s4.heap.objs.size code builtinsNs X.env)) s4 H2 N fp (genEnv scope (cloFrom X.env.cells scope.names []) s4.heap.objs.size code builtinsNs X.env)) [(h1.objs.size, genO s4.gens.size (X.env.qual ++ "<genexpr>") t)] H2 b := by
    intro b hb
    refine ⟨(f0 b hb).1, Nat.ne_of_lt (flt b hb), (hex b hb).2.2.1, .inl hb, fun x c e => ((J0.ok.exf b hb).2 x c e), fun q hq => ?_⟩
    have hq : q ∈ [] ++ [(h1.objs.size, genO s4.gens.size (X.env.qual ++ "<genexpr>") t)] := hq
    rw [List.mem_singleton.mp hq]
    exact Nat.ne_of_gt (Nat.lt_of_lt_of_le (flt b hb) hnew)
  have GT := gturn (X := (genCx X (genA X.A tg iter elt scope gpos it (genEnv scope (cloFrom X.env.cells scope.names []) s4.heap.objs.size code builtinsNs X.env)) s4 H2 N fp (genEnv scope (cloFrom X.env.cells scope.names []) s4.heap.objs.size code builtinsNs X.env))) (c := true) (g := s4.gens.size) (a := h1.objs.size) (n := n) (Iv := Iv) (Qc := fun b H' => Q (.bl b) H') (J := J) (tn := tn) (it := it) rfl rfl T bd.1 bd.2 (List.mem_singleton.mpr rfl) (fun h e => ⟨genO s4.gens.size (X.env.qual ++ "<genexpr>") t, _, _, e, rfl, rfl, rfl⟩) hgo hst
  have tn0 : tn 0 (h1.push (genO s4.gens.size (X.env.qual ++ "<genexpr>") t)) := T.keep _ _ _ t0 fun b hb o e => kp2 b o e
  refine call_anyP (n := n) (wpAny_pyIter_gen isg ⟨_, rfl, pull_mono (R := Thru (genCx X (genA X.A tg iter elt scope gpos it (genEnv scope (cloFrom X.env.cells scope.names []) s4.heap.objs.size code builtinsNs X.env)) s4 H2 N fp (genEnv scope (cloFrom X.env.cells scope.names []) s4.heap.objs.size code builtinsNs X.env)) fun b H' => Q (.bl b) H') (fun b s' z => ?_) n _ (pull_gen (A := X.A.in1) hr.hd (by have := hr.dp; show X.A.depth < _; omega) n _ _ J0.nolimit isg (Array.getElem?_push_size ..) ⟨rfl, ?_⟩)⟩)
  · obtain ⟨ps', σ', H', IG, q⟩ := z
    obtain ⟨hh, g', d', t', os'⟩ := s'
    have os1 : os' = s4.os := IG.os
    subst os1
    exact ⟨.bl b, H', I4.call (h' := hh) (g' := g') (d' := d') (t' := t') (ch := fp) IG.base IG.hok IG.bare (fun b hb => ⟨(f0 b hb).2.2.2.1, (f0 b hb).2.1, (f0 b hb).2.2.2.2.1, (f0 b hb).2.2.2.2.2⟩), rfl, q⟩
  · exact seg_first L.co GT (fun s' Q' E' ⟨_, _, _, _, ht, _⟩ hq => T.self _ 0 s' Q' E' ht hq) _ _ ⟨tf σ, H2, inv_set J0 rfl, fpg, tn0, by simp [Shared.setGen], iv0⟩
end
end Den

namespace Den
variable [Tbs]
open PySem L2 Evl PySem.Spec PyProof.Rows
open Classical
section
variable {K : PySem.W.Frag} {W : WX} {X : Cx} {θ : Addr → Prop} {π α : Nat → Option Addr} {σ : L2.St} {H H' : Hp} {ρ : En} {p : Addr} {o : HO}
/-- what a generator expression sees of its maker's slots -/
def maskS : List Bool → L2.St → L2.St
  | _, [] => []
  | [], _ :: σ => none :: maskS [] σ
  | b :: bs, x :: σ => (match b with | true => x | false => none) :: maskS bs σ
def keepS : Sl → Sl
  | .va d => .va d
  | _ => .no
def maskE : List Bool → En → En
  | _, [] => []
  | [], _ :: ρ => .no :: maskE [] ρ
  | b :: bs, x :: ρ => (match b with | true => keepS x | false => .no) :: maskE bs ρ
omit [Tbs] in
theorem maskS_len : ∀ (bs : List Bool) (σ : L2.St), (maskS bs σ).length = σ.length
  | _, [] => by cases ‹List Bool› <;> rfl
  | [], _ :: σ => congrArg (· + 1) (maskS_len [] σ)
  | _ :: bs, _ :: σ => congrArg (· + 1) (maskS_len bs σ)
omit [Tbs] in
theorem maskE_len : ∀ (bs : List Bool) (ρ : En), (maskE bs ρ).length = ρ.length
  | _, [] => by cases ‹List Bool› <;> rfl
  | [], _ :: σ => congrArg (· + 1) (maskE_len [] σ)
  | _ :: bs, _ :: σ => congrArg (· + 1) (maskE_len bs σ)
omit [Tbs] in
theorem maskS_at : ∀ {bs : List Bool} {σ : L2.St} {i : Nat} {v : V}, (maskS bs σ)[i]? = some (some v) → bs[i]? = some true ∧ σ[i]? = some (some v)
  | bs, [], i, v, h => by
    have e : maskS bs [] = [] := by cases bs <;> rfl
    rw [e] at h; simp at h
  | [], _ :: σ, 0, v, h => by simp [maskS] at h
  | [], x :: σ, i + 1, v, h => by
    have z := (maskS_at (bs := []) (σ := σ) (i := i) (v := v) (by simpa [maskS] using h)).1
    simp at z
  | b :: bs, x :: σ, 0, v, h => by
    cases b with
    | true => exact ⟨rfl, by simpa [maskS] using h⟩
    | false => simp [maskS] at h
  | b :: bs, x :: σ, i + 1, v, h => by
    have z := maskS_at (bs := bs) (σ := σ) (i := i) (v := v) (by simpa [maskS] using h)
    exact ⟨by simpa using z.1, by simpa using z.2⟩
omit [Tbs] in
theorem maskE_at : ∀ {bs : List Bool} {σ : L2.St} {ρ : En} {i : Nat} {s : Sl}, (maskE bs ρ)[i]? = some s → ρ.length = σ.length → s = .no ∨ ∃ d, s = .va d ∧ ρ[i]? = some (.va d) ∧ (maskS bs σ)[i]? = σ[i]?
  | bs, σ, [], i, s, h, _ => by
    have e : maskE bs [] = [] := by cases bs <;> rfl
    rw [e] at h; simp at h
  | _, [], _ :: _, _, _, _, l => by simp at l
  | [], _ :: σ, x :: ρ, 0, s, h, _ => .inl (by simp [maskE] at h; exact h.symm)
  | [], y :: σ, x :: ρ, i + 1, s, h, l => by
    rcases maskE_at (bs := []) (σ := σ) (ρ := ρ) (i := i) (s := s) (by simpa [maskE] using h) (by simpa using l) with z | ⟨d, z1, z2, z3⟩
    · exact .inl z
    · exact .inr ⟨d, z1, by simpa using z2, by simpa [maskS] using z3⟩
  | b :: bs, y :: σ, x :: ρ, 0, s, h, _ => by
    cases b with
    | false => exact .inl (by simp [maskE] at h; exact h.symm)
    | true =>
      have h : keepS x = s := by simpa [maskE] using h
      cases x with
      | va d => exact .inr ⟨d, h.symm, rfl, rfl⟩
      | no => exact .inl h.symm
      | ow d => exact .inl h.symm
      | io d => exact .inl h.symm
      | ex d => exact .inl h.symm
  | b :: bs, y :: σ, x :: ρ, i + 1, s, h, l => by
    rcases maskE_at (bs := bs) (σ := σ) (ρ := ρ) (i := i) (s := s) (by simpa [maskE] using h) (by simpa using l) with z | ⟨d, z1, z2, z3⟩
    · exact .inl z
    · exact .inr ⟨d, z1, by simpa using z2, by simpa [maskS] using z3⟩
omit [Tbs] in
theorem Sof_none {θ : Addr → Prop} : Sof θ (fun _ => none) = θ := funext fun b => propext ⟨fun z => z.elim id fun ⟨i, z⟩ => (by cases z), fun z => .inl z⟩
theorem Rel.gen {bs : List Bool} (r : Rel K θ π α σ H ρ) : Rel K (Sof θ α) (fun _ => none) (fun _ => none) (maskS bs σ) H (maskE bs ρ) := by
  refine ⟨by rw [maskS_len, maskE_len]; exact r.len, fun _ _ _ h => (nomatch h), fun _ _ h => (nomatch h), fun b h => r.live b h, fun _ _ h => (nomatch h), fun _ _ h => (nomatch h), fun b h => ⟨.inl (r.tb b h).1, (r.tb b h).2⟩, fun i s h => ?_⟩
  rcases maskE_at (σ := σ) h r.len with z | ⟨d, z1, z2, z3⟩
  · subst z; trivial
  · subst z1
    obtain ⟨v, h1, h2⟩ := r.sl i _ z2
    exact ⟨v, z3.trans h1, by rw [Sof_none]; exact h2⟩
theorem Rel.back0 {α' : Nat → Option Addr} (r : Rel K θ π α σ H ρ) (s : Stp (Sof θ α) (fun _ => none) H α' H') : Rel K θ π α σ H' ρ ∧ Stp θ α H α H' := by
  have hx : Ex (hidS (Sof θ α) H) (hidS (Sof θ α) H') := by
    have z := s.1
    rw [Sof_none] at z
    refine z.trans fun b o q => ?_
    unfold hidS at q ⊢
    split at q
    · cases q
    · rename_i h
      rw [if_neg (fun t => h (.inl t))]
      exact q
  have hf : ∀ b, θ b → FrO (H b) (H' b) := fun b h => s.2 b (.inl h)
  exact ⟨⟨r.len, r.inj, r.ap, fun b h => (hf b h).ne (r.lv b h), r.dom, r.pin, fun b h => ⟨(r.tb b h).1, (hf b (r.tb b h).1).tb (r.tb b h).2⟩, fun i s' h => (r.sl i s' h).re rfl hx fun a vs ha z => ((s.2 a (.inr ⟨i, ha⟩)).lst z).trans z⟩, hx, hf⟩
theorem tabbed_ext {P : Addr} (hP : Tbs.T P) (h : isTb (H P)) (t : GxR.Tabbed P H H') : ExT H H' := by
  refine ⟨fun b o q => ?_, fun b hb => ?_⟩
  · unfold hidS at q ⊢
    split at q
    · cases q
    · rename_i n
      rw [if_neg n, t.2 b (fun z => n (by rw [z]; exact hP))]
      exact q
  · by_cases e : b = P
    · subst e; exact .inr ⟨h, t.1⟩
    · exact .inl (t.2 b e)
omit [Tbs] in
theorem bne_not : ∀ {b c : Bool}, ¬ b = c → b = !c := by decide
/-- all, any of a generator expression -/
def wGenB (c : Bool) (cs : List Bool) (wi : WI) (wg : WG) (we : WE) : WE := fun ρ R E => wi ρ (fun ds ρ1 => ∃ Inv : Nat → En → Prop, Inv 0 (maskE cs ρ1) ∧
  (∀ i d ρ', ds[i]? = some d → Inv i ρ' → wg d ρ' (fun ρ2 => we ρ2 (fun y ρ3 => ∃ b : Bool, y = .bool b ∧ if b = c then R (.bool c) ρ1 else Inv (i + 1) ρ3) NoE) NoE) ∧
  ∀ ρ', Inv ds.length ρ' → R (.bool (!c)) ρ1) E
theorem can_genB {P : Addr} (hP : Tbs.T P) {c : Bool} {cs : List Bool} {wi : WI} {wg : WG} {we : WE} (σ : L2.St) (H : Hp) (Q : VK) : cE K W (wGenB c cs wi wg we) σ H Q → tGenB P c (maskS cs) (cI K W wi) (cG K WNo wg) (cE K WNo we) σ H Q := by
  rintro ⟨θ, π, α, ρ, R, E, hR, hw, hq, he⟩
  refine ⟨θ, π, α, ρ, _, E, hR, hw, fun α1 J H1 ds ρ1 R1 s1 hJ w1 => ?_, he⟩
  obtain ⟨Inv, i0, step, fin⟩ := w1
  have tP := (R1.tb P hP).2
  refine ⟨tP, fun H2 t2 => ?_⟩
  obtain ⟨R2, s2⟩ := R1.extT (tabbed_ext hP tP t2)
  have Rg := R2.gen (bs := cs)
  refine ⟨ds.length, fun i σ' H' => ∃ αg ρ', Rel K (Sof θ α1) (fun _ => none) αg σ' H' ρ' ∧ Stp (Sof θ α1) (fun _ => none) H2 αg H' ∧ Inv i ρ', ⟨_, _, Rg, Stp.refl .., i0⟩, ?_, ?_⟩
  · rintro i σ' H' hi ⟨αg, ρ', R', s', iv⟩
    have x' : Ex (hidS (Sof θ α1) H1) (hidS (Sof (Sof θ α1) αg) H') := s2.1.trans (by have z := s'.1; rw [Sof_none] at z; exact z)
    obtain ⟨j1, j2⟩ := hJ _ H' i R'.live x'
    obtain ⟨g1, g2⟩ := j2 ds[i] (by simp [hi])
    refine ⟨g1, fun x H3 y => ?_⟩
    obtain ⟨ex, dp⟩ := g2 x H3 y
    refine ⟨_, _, αg, ρ', ds[i], _, _, R'.ext ex, dp, step i ds[i] ρ' (by simp [hi]) iv, fun α4 σ4 H4 ρ4 R4 s4 w4 => ?_, Exi.no⟩
    refine ⟨_, _, α4, ρ4, _, _, R4, w4, fun α5 v H5 y5 ρ5 R5 s5 p5 w5 => ?_, Exi.no⟩
    obtain ⟨b, rfl, w5⟩ := w5
    have sg := ((s'.trans (R'.stp ex)).trans s4).trans s5
    refine ⟨b, dp_b p5, ?_⟩
    by_cases e : b = c
    · rw [if_pos e] at w5
      obtain ⟨Rz, sz⟩ := R2.back0 sg
      exact .inl ⟨e, hq α1 _ H5 _ ρ1 Rz ((s1.trans s2).trans sz) (.bl c) w5⟩
    · rw [if_neg e] at w5
      refine .inr ⟨bne_not e, α5, ρ5, R5, sg, w5⟩
  · rintro σ' H' ⟨αg, ρ', R', s', iv⟩
    have x' : Ex (hidS (Sof θ α1) H1) (hidS (Sof (Sof θ α1) αg) H') := s2.1.trans (by have z := s'.1; rw [Sof_none] at z; exact z)
    obtain ⟨j1, j2⟩ := hJ _ H' ds.length R'.live x'
    obtain ⟨Rz, sz⟩ := R2.back0 s'
    exact ⟨j1 rfl, hq α1 _ H' _ ρ1 Rz ((s1.trans s2).trans sz) (.bl _) (fin ρ' iv)⟩
/-- which slots the generator captures, by its scope -/
def capOk (N : List Str) (cs : List Bool) (scope : Scope) : Bool := (N.zip cs).all fun p => !p.2 || decide (scope.names.lookup p.1 = some .free)
omit [Tbs] in
theorem capOk_at {N : List Str} {cs : List Bool} {scope : Scope} (h : capOk N cs scope = true) {i : Nat} {y : Str} (h1 : N[i]? = some y) (h2 : cs[i]? = some true) : scope.names.lookup y = some .free := by
  have z := List.all_eq_true.mp h (y, true) (List.mem_of_getElem? (i := i) (by rw [List.getElem?_zip_eq_some]; exact ⟨h1, h2⟩))
  simpa using z
section
variable {c P : Addr} {tg elt iter : Expr} {q pos gpos : Pos} {scope : Scope} {wi : WI} {wg : WG} {we : WE} {k : Nat} {cs : List Bool}
theorem dAllG (hP : Tbs.T P) (hr : Room (k + 1) X.A) (hg : Gl X "all") (hm : X.mg "all" = none) (TB : GxR.TabB X.base X.mg c P) (hcode : X.env.code = .ref c) (L : GenSc X.env.scope scope) (hdot : scope.names.lookup (".0" : Str) = some NameKind.local) (hcap : capOk X.N cs scope = true) (hi : PI X tg iter (cI X.K W wi))
    (hbody : ∀ (A : Around) (s : Shared) (H : Hp) (fp : List Addr) (code : Value), Room k A → PG (genCx X A s H X.N fp (genEnv scope (cloFrom X.env.cells scope.names []) s.heap.objs.size code builtinsNs X.env)) tg (cG X.K WNo wg) ∧ PE (genCx X A s H X.N fp (genEnv scope (cloFrom X.env.cells scope.names []) s.heap.objs.size code builtinsNs X.env)) elt (cE X.K WNo we))
    (hs : ∀ v, genFold iter X.env v = pure v := by intro _; rfl)
    (he : starEach [.GeneratorExp elt [⟨tg, iter, [], 0⟩] scope gpos] X.env = (false, eval (.GeneratorExp elt [⟨tg, iter, [], 0⟩] scope gpos) X.env) :: starEach [] X.env := by rfl) :
    PE X (.Call (.Name "all" q) [.GeneratorExp elt [⟨tg, iter, [], 0⟩] scope gpos] [] pos) (cE X.K W (wGenB false cs wi wg we)) :=
  peI (pe_allG (N := X.N) (tf := maskS cs) hr hg hm (by decide +kernel) TB hcode L hdot hi hs (fun σ h => (maskS_len cs σ).trans h) (fun σ i y v h1 h2 _ => ⟨h1, (maskS_at h2).2, capOk_at hcap h1 (maskS_at h2).1⟩) hbody he) (can_genB hP)
theorem dAnyG (hP : Tbs.T P) (hr : Room (k + 1) X.A) (hg : Gl X "any") (hm : X.mg "any" = none) (TB : GxR.TabB X.base X.mg c P) (hcode : X.env.code = .ref c) (L : GenSc X.env.scope scope) (hdot : scope.names.lookup (".0" : Str) = some NameKind.local) (hcap : capOk X.N cs scope = true) (hi : PI X tg iter (cI X.K W wi))
    (hbody : ∀ (A : Around) (s : Shared) (H : Hp) (fp : List Addr) (code : Value), Room k A → PG (genCx X A s H X.N fp (genEnv scope (cloFrom X.env.cells scope.names []) s.heap.objs.size code builtinsNs X.env)) tg (cG X.K WNo wg) ∧ PE (genCx X A s H X.N fp (genEnv scope (cloFrom X.env.cells scope.names []) s.heap.objs.size code builtinsNs X.env)) elt (cE X.K WNo we))
    (hs : ∀ v, genFold iter X.env v = pure v := by intro _; rfl)
    (he : starEach [.GeneratorExp elt [⟨tg, iter, [], 0⟩] scope gpos] X.env = (false, eval (.GeneratorExp elt [⟨tg, iter, [], 0⟩] scope gpos) X.env) :: starEach [] X.env := by rfl) :
    PE X (.Call (.Name "any" q) [.GeneratorExp elt [⟨tg, iter, [], 0⟩] scope gpos] [] pos) (cE X.K W (wGenB true cs wi wg we)) :=
  peI (pe_anyG (N := X.N) (tf := maskS cs) hr hg hm (by decide +kernel) TB hcode L hdot hi hs (fun σ h => (maskS_len cs σ).trans h) (fun σ i y v h1 h2 _ => ⟨h1, (maskS_at h2).2, capOk_at hcap h1 (maskS_at h2).1⟩) hbody he) (can_genB hP)
end
/-- an owned list that is captured is frozen -/
def wFz (j : Nat) (w : WE) : WE := fun ρ R E => match ρ[j]? with
  | some (.ow ds) => w (ρ.set j (.va (.list ds))) R E
  | some (.va _) => w ρ R E
  | _ => False
theorem dFz {e : Expr} {j : Nat} {w : WE} (h : PE X e (cE K W w)) : PE X e (cE K W (wFz j w)) := peI h fun σ H Q ⟨θ, π, α, ρ, R, E, hR, hw, hq, he⟩ => by
  unfold wFz at hw
  split at hw
  · rename_i ds e
    obtain ⟨α', v, r, s, h1, h2⟩ := hR.freeze e
    exact ⟨θ, π, α', _, R, E, r, hw, fun α2 v2 H2 d ρ2 R2 s2 p2 w2 => hq α2 v2 H2 d ρ2 R2 (s.trans s2) p2 w2, he.step s⟩
  · exact ⟨θ, π, α, ρ, R, E, hR, hw, hq, he⟩
  · exact hw.elim

/-! a def whose code object has a table -/
structure FunC (K : PySem.W.Frag) (x qual : Str) (st : Stmt) (f : Addr) (fd : FuncData) (c : Addr) : Prop where
  ex : ∃ (oc : Value) (od : Option Addr) (kV doc pm : Value) (an : Option Addr) (ct : Value) (osl : Array (Option Value)),
    fd = PySem.W.fnOf x qual (defArgs st) (defBody st) (defScope st) .none kV doc pm an (.ref c) ct ∧ K.lookup f = some ⟨oc, od, .func fd, osl⟩ ∧ PySem.W.codeIn K (.ref c) qual = true
theorem fnSC {x qual : Str} {st : Stmt} {f c : Addr} {fd : FuncData} {N ps : List Str} {k : Nat} {P : Program} {w : World} {mg : Str → Option Value} {base : Heap} {S : WF} {wb : WS} (F : FunC K x qual st f fd c) (Sc : FnScope N ps (defScope st))
    (hb : ∀ (A : Around) (outer : List Env) (s : Shared) (H : Hp) (E : XK), Room k (A.deeper (envOfC qual (defScope st) s.heap.objs.size f (.ref c))) →
      PSs (cxOf (L2N.CX P w) P w K mg base N qual (defScope st) f (.ref c) A outer s H E) (defBody st) (cS K (fun cls d _ H => E cls d H) wb))
    (hw : ∀ pr R E, S pr R E → wb (bxOf ps.length R E) (pr ++ List.replicate (N.length - ps.length) .no)) : FnOk P w K mg base (L2N.CX P w) (k + 1) f fd ps (toSp K ps.length S) := by
  obtain ⟨oc, od, kV, doc, pm, an, ct, osl, rfl, lk, hcd⟩ := F.ex
  refine fn_of lk hcd Sc (fun vs H Q E ⟨_, _, _, _, _, h, _⟩ => h) fun A outer s H vs Q E hr hsp => ⟨_, hb A outer s H E hr, ?_⟩
  obtain ⟨θ, β, pr, R, E', hl, r, hS, hq, he⟩ := hsp
  have e := hw pr R E' hS
  rw [← hl] at e
  refine ⟨θ, β, β, _, _, start_rel r, e, ⟨fun α' σ' H' ρ' r' s' h => ?_, fun _ _ _ _ _ _ h => h.elim, fun _ _ _ _ _ _ h => h.elim, fun α' σ' H' v d ρ' r' s' p h => ?_, fun α' σ' p xs H' ds ρ' r' s' np h1 dp h => ?_, fun α' σ' H' c ρ' r' s' h => ?_⟩⟩
  · obtain ⟨r2, x1, x2⟩ := fin_rel r r' s'.1
    exact hq .non H' .none _ r2 x1 s'.2 .non h
  · obtain ⟨r2, x1, x2⟩ := fin_rel r r' s'.1
    exact hq v H' d _ r2 x1 s'.2 (dp_mono x2 p) h
  · exact h.elim
  · obtain ⟨r2, x1, x2⟩ := fin_rel r r' s'.1
    exact he H' c _ r2 x1 s'.2 h
theorem fnFC {x qual : Str} {st : Stmt} {f c : Addr} {fd : FuncData} {N ps : List Str} {k : Nat} {P : Program} {w : World} {mg : Str → Option Value} {base : Heap} {S : WFF} {wb : WS} (F : FunC K x qual st f fd c) (Sc : FnScope N ps (defScope st))
    (hb : ∀ (A : Around) (outer : List Env) (s : Shared) (H : Hp) (E : XK), Room k (A.deeper (envOfC qual (defScope st) s.heap.objs.size f (.ref c))) →
      PSs (cxOf (L2N.CX P w) P w K mg base N qual (defScope st) f (.ref c) A outer s H E) (defBody st) (cS K (fun cls d _ H => E cls d H) wb))
    (hw : ∀ pr R E, S pr R E → wb (bxF ps.length R E) (pr ++ List.replicate (N.length - ps.length) .no)) : FnOk P w K mg base (L2N.CX P w) (k + 1) f fd ps (toSpF K ps.length S) := by
  obtain ⟨oc, od, kV, doc, pm, an, ct, osl, rfl, lk, hcd⟩ := F.ex
  refine fn_of lk hcd Sc (fun vs H Q E ⟨_, _, _, _, _, h, _⟩ => h) fun A outer s H vs Q E hr hsp => ⟨_, hb A outer s H E hr, ?_⟩
  obtain ⟨θ, β, pr, R, E', hl, r, hS, hq, he⟩ := hsp
  have e := hw pr R E' hS
  rw [← hl] at e
  refine ⟨θ, β, β, _, _, start_rel r, e, ⟨fun _ _ _ _ _ _ h => h.elim, fun _ _ _ _ _ _ h => h.elim, fun _ _ _ _ _ _ h => h.elim, fun _ _ _ _ _ _ _ _ _ h => h.elim, fun α' σ' p xs H' ds ρ' r' s' np h1 dp h => ?_, fun α' σ' H' c ρ' r' s' h => ?_⟩⟩
  · obtain ⟨r2, x1, x2⟩ := fin_rel r r' s'.1
    exact hq p xs H' ds _ r2 x1 s'.2 np h1 (dpA_mono x2 dp) h
  · obtain ⟨r2, x1, x2⟩ := fin_rel r r' s'.1
    exact he H' c _ r2 x1 s'.2 h
end
end Den

set_option maxHeartbeats 1000000
/-! zip of any lists and tuples -/
namespace Zn
open PySem
structure It1 where
  t : Bool
  it : Addr
  l : Addr
def ItAt (h : Heap) (p : It1) (k : Nat) : Prop := match p.t with
  | false => h.IsListIter p.it p.l k
  | true => h.IsTupleIter p.it p.l k
def SqAt (h : Heap) (p : It1) (xs : Array Value) : Prop := match p.t with
  | false => h.IsList p.l xs
  | true => h.IsTuple p.l xs
section
variable {h h' : Heap} {p : It1} {k : Nat}
theorem ItAt.at (x : ItAt h p k) (f : ∀ o, h.get? p.it = some o → h'.get? p.it = some o) : ItAt h' p k := by
  obtain ⟨t, it, l⟩ := p
  cases t with
  | false => exact Heap.IsListIter.at x f
  | true => exact Heap.IsTupleIter.at x f
theorem SqAt.at {xs : Array Value} (x : SqAt h p xs) (f : ∀ o, h.get? p.l = some o → h'.get? p.l = some o) : SqAt h' p xs := by
  obtain ⟨t, it, l⟩ := p
  cases t with
  | false => exact Heap.IsList.at x f
  | true =>
    obtain ⟨o, e, r⟩ := x
    exact ⟨o, f o e, r⟩
theorem ItAt.obj (x : ItAt h p k) : ∃ o, h.get? p.it = some o ∧ ∀ v, o.data ≠ .cell v := by
  obtain ⟨t, it, l⟩ := p
  cases t with
  | false => obtain ⟨o, e, _, d⟩ := x; exact ⟨o, e, fun v q => by rw [d] at q; cases q⟩
  | true => obtain ⟨o, e, _, d⟩ := x; exact ⟨o, e, fun v q => by rw [d] at q; cases q⟩
end
section
variable {prog : Program} {w : World} {A : Around} {E : Value → Shared → Prop} {s : Shared} {p : It1} {k : Nat}
theorem nextOf_item {xs : Array Value} {x : Value} {Q : Value → Shared → Prop} (hi : ItAt s.heap p k) (hl : SqAt s.heap p xs) (hx : xs[k]? = some x)
    (hQ : ∀ h', ItAt h' p (k + 1) → Heap.SameBut p.it s.heap h' → Q x { s with heap := h' }) : wpAny (model prog w) A (Builtin.SmallTypes.nextOf (.ref p.it)) Q E s := by
  obtain ⟨t, it, l⟩ := p
  cases t with
  | false => exact wpAny_nextOf_list_item hi hl hx hQ
  | true => exact RZ.nextOf_tuple_item hi hl hx hQ
theorem nextOf_end {xs : Array Value} {Q : Value → Shared → Prop} (hh : A.handled = none) (hi : ItAt s.heap p k) (hl : SqAt s.heap p xs) (hx : xs[k]? = none)
    (hE : ∀ h' e, Heap.ExtBut p.it s.heap h' → (∃ o, h'.get? e = some o ∧ o.cls = .type "StopIteration") → E (.ref e) { s with heap := h' }) : wpAny (model prog w) A (Builtin.SmallTypes.nextOf (.ref p.it)) Q E s := by
  obtain ⟨t, it, l⟩ := p
  cases t with
  | false => exact wpAny_nextOf_list_end hh hi hl hx hE
  | true => exact RZ.nextOf_tuple_end hh hi hl hx hE
theorem fold_rule {α β : Type} {body : α → β → Sem (ForInStep β)} {b : β} {Q : β → Shared → Prop} (I : Nat → Shared → Prop) : ∀ (l : List α) (i : Nat) (s : Shared), I i s →
    (∀ j x s', l[j]? = some x → I (i + j) s' → wpAny (model prog w) A (body x b) (fun r s'' => r = .yield b ∧ I (i + j + 1) s'') E s') →
    (∀ s', I (i + l.length) s' → Q b s') → wpAny (model prog w) A (forIn l b body) Q E s
  | [], i, s, hI, _, done => by
    rw [List.forIn_nil]
    exact wpAny_pure (done s (by simpa using hI))
  | x :: vs, i, s, hI, step, done => by
    rw [List.forIn_cons]
    refine wpAny_bind (wpAny_mono (step 0 x s (by simp) hI) (fun r s' h' => ?_) fun _ _ e => e)
    obtain ⟨rfl, hI'⟩ := h'
    show wpAny _ A (forIn vs b body) Q E s'
    refine fold_rule I vs (i + 1) s' hI' (fun j y s'' hy hJ => ?_) fun s'' hd => done s'' ?_
    · have e : i + (j + 1) = i + 1 + j := by omega
      have z := step (j + 1) y s'' (by simpa using hy) (by rw [e]; exact hJ)
      rw [e] at z
      exact z
    · have e : i + (x :: vs).length = i + 1 + vs.length := by simp; omega
      rw [e]; exact hd
end
abbrev IsTupN (h : Heap) (T : Addr) (vals : Array Value) : Prop := h.get? T = some { cls := .type "tuple", data := .seq vals }
abbrev itsOf (ps : List It1) : Array Value := (ps.map fun p => Value.ref p.it).toArray
structure Apt (z TI TO : Addr) (ps : List It1) : Prop where
  TIz : TI ≠ z
  TOz : TO ≠ z
  TITO : TI ≠ TO
  iz : ∀ p ∈ ps, p.it ≠ z
  iTI : ∀ p ∈ ps, p.it ≠ TI
  iTO : ∀ p ∈ ps, p.it ≠ TO
  lz : ∀ p ∈ ps, p.l ≠ z
  lTO : ∀ p ∈ ps, p.l ≠ TO
  li : ∀ p ∈ ps, ∀ q ∈ ps, p.l ≠ q.it
  ii : ∀ (i j : Nat) (p q : It1), ps[i]? = some p → ps[j]? = some q → i ≠ j → p.it ≠ q.it
/-- what stays -/
def Kp (z TO : Addr) (ps : List It1) (h h' : Heap) : Prop := ∀ c o, c ≠ z → c ≠ TO → (∀ p ∈ ps, c ≠ p.it) → h.get? c = some o → h'.get? c = some o
structure LoopI (xs : It1 → Array Value) (z TI TO : Addr) (ps : List It1) (k : Nat) (s : Shared) (j : Nat) (s' : Shared) : Prop where
  ex : ∃ (h' : Heap) (vals : Array Value), s' = { s with heap := h' } ∧ IsZip h' z TI TO .ellipsis ∧ IsTupN h' TO vals ∧ vals.size = ps.length ∧ (∀ (i : Nat) (p : It1), i < j → ps[i]? = some p → ∃ x, (xs p)[k]? = some x ∧ vals[i]? = some x) ∧
    (∀ (i : Nat) (p : It1), ps[i]? = some p → ItAt h' p (if i < j then k + 1 else k)) ∧ (∀ p ∈ ps, SqAt h' p (xs p)) ∧ h'.objs.size = s.heap.objs.size ∧ Kp z TO ps s.heap h'
section
variable {prog : Program} {w : World} {A : Around} {E : Value → Shared → Prop} {s : Shared} {ps : List It1} {k : Nat} {z TI TO : Addr} {xs : It1 → Array Value}
theorem zipN_next {vals0 : Array Value} {Q : Value → Shared → Prop} (hh : A.handled = none) (D : Apt z TI TO ps) (h0 : ps ≠ []) (hn : ps.length ≤ 64)
    (hz : IsZip s.heap z TI TO .none) (hTI : IsTupN s.heap TI (itsOf ps)) (hTO : IsTupN s.heap TO vals0) (hv : vals0.size = ps.length) (hi : ∀ p ∈ ps, ItAt s.heap p k) (hl : ∀ p ∈ ps, SqAt s.heap p (xs p))
    (hQ : ∀ (row : List Value) (h' : Heap), row.length = ps.length → (∀ (i : Nat) (p : It1), ps[i]? = some p → ∃ x, (xs p)[k]? = some x ∧ row[i]? = some x) → IsZip h' z TI TO (rawInt s.heap.objs.size) → (∃ vals, IsTupN h' TO vals ∧ vals.size = ps.length) →
      (∀ p ∈ ps, ItAt h' p (k + 1)) → IsTupN h' s.heap.objs.size row.toArray → h'.objs.size = s.heap.objs.size + 1 → Kp z TO ps s.heap h' → Q (.ref s.heap.objs.size) { s with heap := h' })
    (hE : (∃ p ∈ ps, (xs p)[k]? = none) → ∀ h' e, Kp z TO ps s.heap h' → (∃ o, h'.get? e = some o ∧ o.cls = .type "StopIteration") → E (.ref e) { s with heap := h' }) :
    wpAny (model prog w) A (Builtin.«zip.__next__» ⟨[.ref z], []⟩) (fun fin s' => ∃ v, fin = .done (.ret v) ∧ Q v s') E s := by
  show wpAny _ _ (field (.ref z) 2 >>= _) _ _ _
  refine wpAny_bind (wpAny_field hz rfl (x := .bool false) rfl ?_)
  show wpAny _ _ (field (.ref z) 3 >>= _) _ _ _
  refine wpAny_bind (wpAny_field hz rfl (x := .ref TI) rfl ?_)
  refine wpAny_bind (wpAny_seqItems hTI rfl ?_)
  have hne : (itsOf ps).isEmpty = false := by
    cases ps with
    | nil => exact absurd rfl h0
    | cons p r => simp [itsOf]
  simp only [hne, Bool.false_eq_true, if_false]
  show wpAny _ _ (Builtin.SmallTypes.ownedTupleIsFree (.ref z) >>= _) _ _ _
  refine wpAny_bind ?_
  unfold Builtin.SmallTypes.ownedTupleIsFree
  refine wpAny_bind (wpAny_field hz rfl (x := .none) rfl (wpAny_pure ?_))
  simp only [if_true]
  refine wpAny_bind (wpAny_rule ?_)
  refine wpAny_bind (wpAny_field hz rfl (x := .ref TO) rfl ?_)
  refine wpAny_bind (wpAny_setField_rec hz (by simp) fun h₁ hz₁ hs₁ => ?_)
  replace hz₁ : IsZip h₁ z TI TO .ellipsis := hz₁
  refine wpAny_bind ?_
  have start : LoopI xs z TI TO ps k s 0 { s with heap := h₁ } := ⟨h₁, vals0, rfl, hz₁, hs₁.extBut _ _ D.TOz hTO, hv, fun i p hi _ => absurd hi (by omega), fun i p e => by
      rw [if_neg (by omega)]
      exact (hi p (List.mem_of_getElem? e)).at fun o q => hs₁.extBut _ _ (D.iz p (List.mem_of_getElem? e)) q, fun p hp => (hl p hp).at fun o q => hs₁.extBut _ _ (D.lz p hp) q, hs₁.1, fun c o c1 _ _ q => hs₁.extBut _ _ c1 q⟩
  refine fold_rule (LoopI xs z TI TO ps k s) ((itsOf ps).toList.zipIdx) 0 _ start ?step ?done
  case step =>
    rintro j ⟨itv, jj⟩ s' hj ⟨h2, vals, rfl, z2, t2, v2, d2, i2, l2, sz2, k2⟩
    simp only [Nat.zero_add] at *
    have hjl : j < ps.length := by
      have q := (List.getElem?_eq_some_iff.mp hj).1
      simpa using q
    obtain ⟨p, hp⟩ : ∃ p, ps[j]? = some p := ⟨_, List.getElem?_eq_getElem hjl⟩
    have hpm := List.mem_of_getElem? hp
    rw [List.getElem?_zipIdx] at hj
    have hj : Option.map (fun a => (a, 0 + j)) ((itsOf ps).toList[j]?) = some (itv, jj) := hj
    have hit : (itsOf ps).toList[j]? = some (.ref p.it) := by
      show (ps.map fun p => Value.ref p.it)[j]? = _
      rw [List.getElem?_map, hp]; rfl
    rw [hit] at hj
    cases hj
    rw [Nat.zero_add]
    have hI := i2 j p hp
    rw [if_neg (Nat.lt_irrefl j)] at hI
    refine wpAny_bind (wpAny_onRaise ?_)
    show wpAny _ _ (Builtin.SmallTypes.nextOf (.ref p.it) >>= _) _ _ _
    cases hx : (xs p)[k]? with
    | none =>
      refine wpAny_bind (nextOf_end hh hI (l2 p hpm) hx fun h3 e hs3 he => ?_)
      obtain ⟨oe, hoe, hce⟩ := he
      have z3 : IsZip h3 z TI TO .ellipsis := hs3 _ _ (D.iz p hpm).symm z2
      have hez : e ≠ z := fun q => by subst q; rw [z3] at hoe; cases hoe; simp at hce
      exact wpAny_setField_rec z3 (by simp) fun h4 _ hs4 => hE ⟨p, hpm, hx⟩ h4 e (fun c o c1 c2 c3 q => hs4.extBut _ _ c1 (hs3 _ _ (c3 p hpm) (k2 c o c1 c2 c3 q))) ⟨oe, hs4.extBut _ _ hez hoe, hce⟩
    | some x =>
      refine wpAny_bind (nextOf_item hI (l2 p hpm) hx fun h3 hi3 hs3 => wpAny_pure ?_)
      have t3 : IsTupN h3 TO vals := hs3.extBut _ _ (D.iTO p hpm).symm t2
      refine wpAny_bind (wpAny_seqItems t3 rfl ?_)
      refine wpAny_bind (wpAny_updateSeq t3 rfl ?_ (by rw [v2, sizeLine_eq]; omega) (by rw [Array.size_setIfInBounds, v2, sizeLine_eq]; omega))
      have s4 := Heap.SameBut.update h3 TO (Obj.mapSeq (·.setIfInBounds j x))
      have t4 : IsTupN (h3.update TO (Obj.mapSeq (·.setIfInBounds j x))) TO (vals.setIfInBounds j x) := by
        show Heap.get? _ _ = _
        rw [Heap.get?_update_self _ t3 rfl]
        simp [Obj.mapSeq]
      refine wpAny_bind (wpAny_letGo (wpAny_pure ⟨rfl, ⟨_, vals.setIfInBounds j x, rfl, ?_, t4, by simpa using v2, fun i q hi hq => ?_, fun i q hq => ?_, fun q hq => ?_, ?_, fun c o c1 c2 c3 e => ?_⟩⟩))
      · exact s4.extBut _ _ D.TOz.symm (hs3.extBut _ _ (D.iz p hpm).symm z2)
      · by_cases e : i = j
        · subst e
          rw [hp] at hq; cases hq
          exact ⟨x, hx, by rw [Array.getElem?_setIfInBounds_self, if_pos (by rw [v2]; exact hjl)]⟩
        · obtain ⟨y, y1, y2⟩ := d2 i q (by omega) hq
          exact ⟨y, y1, by rw [Array.getElem?_setIfInBounds_ne (fun z => e z.symm)]; exact y2⟩
      · have hqm := List.mem_of_getElem? hq
        by_cases e : i = j
        · subst e
          rw [hp] at hq; cases hq
          rw [if_pos (Nat.lt_succ_self i)]
          exact hi3.at fun o e => s4.extBut _ _ (D.iTO p hpm) e
        · have z := i2 i q hq
          have e2 : (if i < j then k + 1 else k) = if i < j + 1 then k + 1 else k := by
            by_cases c : i < j
            · rw [if_pos c, if_pos (by omega)]
            · rw [if_neg c, if_neg (by omega)]
          rw [e2] at z
          exact z.at fun o r => s4.extBut _ _ (D.iTO q hqm) (hs3.extBut _ _ (D.ii i j q p hq hp e) r)
      · exact (l2 q hq).at fun o r => s4.extBut _ _ (D.lTO q hq) (hs3.extBut _ _ (D.li q hq p hpm) r)
      · rw [s4.1, hs3.1]; exact sz2
      · exact s4.extBut _ _ c2 (hs3.extBut _ _ (c3 p hpm) (k2 c o c1 c2 c3 e))
  case done =>
    rintro s' ⟨h5, vals, rfl, z5, t5, v5, d5, i5, l5, sz5, k5⟩
    have hlen : 0 + ((itsOf ps).toList.zipIdx).length = ps.length := by simp
    rw [hlen] at d5 i5
    refine wpAny_bind (wpAny_seqItems t5 rfl ?_)
    refine wpAny_bind (wpAny_newTuple ?_ (by show vals.toList.length ≤ _; rw [Array.length_toList, v5, sizeLine_eq]; omega))
    have hzlt : z < h5.objs.size := Heap.lt_size z5
    show wpAny _ _ (Builtin.SmallTypes.ownedTupleHandOut (.ref z) (.ref h5.objs.size) >>= _) _ _ _
    refine wpAny_bind ?_
    unfold Builtin.SmallTypes.ownedTupleHandOut
    have z6 : IsZip (h5.push { cls := .type "tuple", data := .seq vals.toList.toArray }) z TI TO .ellipsis := Heap.get?_push_of_some _ z5
    refine wpAny_bind (wpAny_setField_rec z6 (by simp) fun h7 z7 hs7 => ?_)
    replace z7 : IsZip h7 z TI TO (rawInt h5.objs.size) := z7
    refine wpAny_setField_rec z7 (by simp) fun h8 z8 hs8 => ?_
    replace z8 : IsZip h8 z TI TO (rawInt h5.objs.size) := z8
    have up : ∀ c o, c ≠ z → h5.get? c = some o → h8.get? c = some o := fun c o c1 e => hs8.extBut _ _ c1 (hs7.extBut _ _ c1 (Heap.get?_push_of_some _ e))
    have hT8 : IsTupN h8 h5.objs.size vals.toList.toArray := hs8.extBut _ _ (Nat.ne_of_gt hzlt) (hs7.extBut _ _ (Nat.ne_of_gt hzlt) (Heap.get?_push_size _ rfl))
    have sz8 : h8.objs.size = h5.objs.size + 1 := by rw [hs8.1, hs7.1, Heap.size_push]
    rw [sz5] at z8 hT8 sz8
    refine wpAny_pure ⟨_, rfl, ?_⟩
    show Q (.ref h5.objs.size) _
    rw [sz5]
    refine hQ vals.toList h8 (by simpa using v5) (fun i p hp => ?_) z8 ⟨vals, up _ _ D.TOz t5, v5⟩ (fun p hp => ?_) hT8 sz8 fun c o c1 c2 c3 e => up c o c1 (k5 c o c1 c2 c3 e)
    · obtain ⟨x, x1, x2⟩ := d5 i p (List.getElem?_eq_some_iff.mp hp).1 hp
      exact ⟨x, x1, by simpa using x2⟩
    · obtain ⟨i, hi'⟩ := List.mem_iff_getElem?.mp hp
      have z := i5 i p hi'
      rw [if_pos (List.getElem?_eq_some_iff.mp hi').1] at z
      exact z.at fun o e => up _ o (D.iz p hp) e
end
section
variable {prog : Program} {w : World} {A : Around} {E : Value → Shared → Prop} {s : Shared} {ps : List It1} {k : Nat} {z TI TO : Addr} {xs : It1 → Array Value}
theorem pyNext_zipN_item {vals0 : Array Value} {Q : Option Value → Shared → Prop} (hh : A.handled = none) (D : Apt z TI TO ps) (h0 : ps ≠ []) (hn : ps.length ≤ 64)
    (hz : IsZip s.heap z TI TO .none) (hTI : IsTupN s.heap TI (itsOf ps)) (hTO : IsTupN s.heap TO vals0) (hv : vals0.size = ps.length) (hi : ∀ p ∈ ps, ItAt s.heap p k) (hl : ∀ p ∈ ps, SqAt s.heap p (xs p)) (hx : ∀ p ∈ ps, (xs p)[k]? ≠ none)
    (hQ : ∀ (row : List Value) (h' : Heap), row.length = ps.length → (∀ (i : Nat) (p : It1), ps[i]? = some p → ∃ x, (xs p)[k]? = some x ∧ row[i]? = some x) → IsZip h' z TI TO (rawInt s.heap.objs.size) → (∃ vals, IsTupN h' TO vals ∧ vals.size = ps.length) →
      (∀ p ∈ ps, ItAt h' p (k + 1)) → IsTupN h' s.heap.objs.size row.toArray → h'.objs.size = s.heap.objs.size + 1 → Kp z TO ps s.heap h' → Q (some (.ref s.heap.objs.size)) { s with heap := h' }) :
    wpAny (model prog w) A (pyNext (.ref z)) Q E s := by
  have hT : s.TypeIs (.ref z) "zip" := ⟨_, hz, rfl⟩
  unfold pyNext
  exact wpAny_bind (wpAny_attempt (wpAny_callSpecial?_slot (name := Str.ofString "__next__") hT F.slot_zip_next
    (wpAny_call_entry F.slot_zip_next hT F.entry_zip_next
      (zipN_next hh D h0 hn hz hTI hTO hv hi hl (fun row h' a1 a2 a3 a4 a5 a6 a7 a8 => wpAny_pure (hQ row h' a1 a2 a3 a4 a5 a6 a7 a8)) fun ⟨p, hp, e⟩ => absurd e (hx p hp)) (F.args_zip_next_1 _))))
theorem pyNext_zipN_end {vals0 : Array Value} {Q : Option Value → Shared → Prop} (hh : A.handled = none) (D : Apt z TI TO ps) (h0 : ps ≠ []) (hn : ps.length ≤ 64)
    (hz : IsZip s.heap z TI TO .none) (hTI : IsTupN s.heap TI (itsOf ps)) (hTO : IsTupN s.heap TO vals0) (hv : vals0.size = ps.length) (hi : ∀ p ∈ ps, ItAt s.heap p k) (hl : ∀ p ∈ ps, SqAt s.heap p (xs p)) (hx : ∃ p ∈ ps, (xs p)[k]? = none)
    (hQ : ∀ h', Kp z TO ps s.heap h' → Q none { s with heap := h' }) :
    wpAny (model prog w) A (pyNext (.ref z)) Q E s := by
  have hT : s.TypeIs (.ref z) "zip" := ⟨_, hz, rfl⟩
  unfold pyNext
  refine wpAny_bind (wpAny_attempt (wpAny_callSpecial?_slot (name := Str.ofString "__next__") hT F.slot_zip_next
    (wpAny_call_entry F.slot_zip_next hT F.entry_zip_next
      (zipN_next hh D h0 hn hz hTI hTO hv hi hl (fun row h' a1 a2 a3 a4 a5 a6 a7 a8 => ?_) fun _ h' e hk he => ?_) (F.args_zip_next_1 _))))
  · obtain ⟨p, hp, e⟩ := hx
    obtain ⟨i, q⟩ := List.mem_iff_getElem?.mp hp
    obtain ⟨x, x1, _⟩ := a2 i p q
    rw [e] at x1; cases x1
  · obtain ⟨o, ho, hc⟩ := he
    refine wpAny_bind (wpAny_isInstance (T := "StopIteration") (b := true) ⟨o, ho, hc⟩ isSubtype_stop ?_)
    exact wpAny_pure (hQ _ hk)
end
/-! making a zip -/
def itO (p : It1) : Obj := { cls := .type (match p.t with | false => "list_iterator" | true => "tuple_iterator"), data := .fields #[.ref p.l, .int 0 0] }
theorem itO_at {h : Heap} {p : It1} (e : h.get? p.it = some (itO p)) : ItAt h p 0 := by
  obtain ⟨t, it, l⟩ := p
  cases t with
  | false => exact ⟨_, e, rfl, rfl⟩
  | true => exact ⟨_, e, rfl, rfl⟩
theorem pyIter_sq {prog : Program} {w : World} {A : Around} {E : Value → Shared → Prop} {s : Shared} {p : It1} {xs : Array Value} {Q : Value → Shared → Prop} (hl : SqAt s.heap p xs)
    (hQ : Q (.ref s.heap.objs.size) { s with heap := s.heap.push (itO p) }) : wpAny (model prog w) A (pyIter (.ref p.l)) Q E s := by
  obtain ⟨t, it, l⟩ := p
  cases t with
  | false => exact wpAny_pyIter_list hl hQ
  | true => exact wpAny_pyIter_tuple hl hQ
theorem SqAt.push {h : Heap} {p : It1} {xs : Array Value} (x : SqAt h p xs) (o : Obj) : SqAt (h.push o) p xs := x.at fun _ e => Heap.get?_push_of_some _ e
abbrev zO (TI TO : Addr) : Obj := { cls := .type "zip", data := .fields #[.none, .bool false, .bool false, .ref TI, .ref TO] }
abbrev tO (vals : Array Value) : Obj := { cls := .type "tuple", data := .seq vals }
abbrev h2_1 (h : Heap) (p q : It1) : Heap := (h.push (itO p)).push (itO q)
abbrev h2_2 (h : Heap) (p q : It1) : Heap := ((h2_1 h p q).push (tO #[.ref h.objs.size, .ref (h.push (itO p)).objs.size]))
abbrev h2_3 (h : Heap) (p q : It1) : Heap := (h2_2 h p q).push (tO #[.none, .none])
abbrev h2_4 (h : Heap) (p q : It1) : Heap := (h2_3 h p q).push (zO (h2_1 h p q).objs.size (h2_2 h p q).objs.size)
theorem meets_zip2 (p q : It1) (xs ys : Array Value) :
    Meets (Builtin.«zip.__new__» ⟨[.type "zip", .ref p.l, .ref q.l], []⟩) (fun _ R s => SqAt s.heap p xs ∧ SqAt s.heap q ys ∧
      R (.ok (.ret (.ref (h2_3 s.heap p q).objs.size))) { s with heap := h2_4 s.heap p q }) :=
  .of_wp fun prog w A R s h => by
    obtain ⟨hp, g, d, tk, os⟩ := s; obtain ⟨hl1, hl2, h⟩ := h
    have hsub := sub_zip
    have hL1 : SqAt (Shared.heap ⟨hp, g, d, tk, os⟩) p xs := hl1
    have hL2 : SqAt (Shared.heap ⟨hp.push (itO p), g, d, tk, os⟩) q ys := hl2.push _
    wp_walk using pyIter_sq hL1, pyIter_sq hL2
    exact ⟨_, rfl, h⟩
abbrev h3_1 (h : Heap) (p q r : It1) : Heap := ((h.push (itO p)).push (itO q)).push (itO r)
abbrev h3_2 (h : Heap) (p q r : It1) : Heap := ((h3_1 h p q r).push (tO #[.ref h.objs.size, .ref (h.push (itO p)).objs.size, .ref ((h.push (itO p)).push (itO q)).objs.size]))
abbrev h3_3 (h : Heap) (p q r : It1) : Heap := (h3_2 h p q r).push (tO #[.none, .none, .none])
abbrev h3_4 (h : Heap) (p q r : It1) : Heap := (h3_3 h p q r).push (zO (h3_1 h p q r).objs.size (h3_2 h p q r).objs.size)
theorem meets_zip3 (p q r : It1) (xs ys zs : Array Value) :
    Meets (Builtin.«zip.__new__» ⟨[.type "zip", .ref p.l, .ref q.l, .ref r.l], []⟩) (fun _ R s => SqAt s.heap p xs ∧ SqAt s.heap q ys ∧ SqAt s.heap r zs ∧
      R (.ok (.ret (.ref (h3_3 s.heap p q r).objs.size))) { s with heap := h3_4 s.heap p q r }) :=
  .of_wp fun prog w A R s h => by
    obtain ⟨hp, g, d, tk, os⟩ := s; obtain ⟨hl1, hl2, hl3, h⟩ := h
    have hsub := sub_zip
    have hL1 : SqAt (Shared.heap ⟨hp, g, d, tk, os⟩) p xs := hl1
    have hL2 : SqAt (Shared.heap ⟨hp.push (itO p), g, d, tk, os⟩) q ys := hl2.push _
    have hL3 : SqAt (Shared.heap ⟨(hp.push (itO p)).push (itO q), g, d, tk, os⟩) r zs := (hl3.push _).push _
    wp_walk using pyIter_sq hL1, pyIter_sq hL2, pyIter_sq hL3
    exact ⟨_, rfl, h⟩
theorem typeCall_zip_3 (a b c : Value) : checkTypeCall "zip" ⟨[a, b, c], []⟩ = pure () := by kernel_rfl
theorem newCall_zip_3 (a b c : Value) : checkBuiltinCall "zip.__new__" ⟨[.type "zip", a, b, c], []⟩ = pure () := by kernel_rfl
theorem args_object_init_4 (a b c d : Value) : argsOk "object.__init__" ⟨[a, b, c, d], []⟩ := by
  unfold argsOk; rw [signature?_of (id := "object.__init__") (n := ['_', '_', 't', 'i', 'n', 'i', '_', '_']) (o := ['t', 'c', 'e', 'j', 'b', 'o']) (by kernel_rfl) F.owner_object]; kernel_rfl
end Zn

set_option maxHeartbeats 1000000
namespace Zn
open PySem
/-- a zip that was just made -/
structure Made (h0 h' : Heap) (ps : List It1) (z TI TO : Addr) : Prop where
  hz : IsZip h' z TI TO .none
  hti : IsTupN h' TI (itsOf ps)
  hto : ∃ vals, IsTupN h' TO vals ∧ vals.size = ps.length
  hit : ∀ p ∈ ps, ItAt h' p 0
  apt : (∀ p ∈ ps, p.l < h0.objs.size) → Apt z TI TO ps
  new : ∀ c, c = z ∨ c = TI ∨ c = TO ∨ c ∈ ps.map (·.it) → h0.objs.size ≤ c
  kp : ∀ c o, h0.get? c = some o → h'.get? c = some o
section
variable {prog : Program} {w : World} {A : Around} {E : Value → Shared → Prop} {s : Shared}
theorem call_zip2 {p q : It1} {xs ys : Array Value} {Q : Value → Shared → Prop} (hl1 : SqAt s.heap p xs) (hl2 : SqAt s.heap q ys)
    (h : ∀ h' z TI TO ps, (∃ i1 i2, ps = [{ p with it := i1 }, { q with it := i2 }]) → Made s.heap h' ps z TI TO → Q (.ref z) { s with heap := h' }) :
    wpAny (model prog w) A (call (.type "zip") [.ref p.l, .ref q.l]) Q E s := by
  refine callType_new F.called_zip (by decide) (F.typeCall_zip_2 _ _) (F.newCall_zip_2 _ _) (fun obj => F.args_object_init_3 obj _ _) F.entry_zip_new
    (meets_zip2 p q xs ys) ⟨hl1, hl2, ?_⟩
  have z1 : (s.heap.push (itO p)).objs.size = s.heap.objs.size + 1 := Heap.size_push ..
  have z2 : (h2_1 s.heap p q).objs.size = s.heap.objs.size + 2 := by rw [Heap.size_push, z1]
  have z3 : (h2_2 s.heap p q).objs.size = s.heap.objs.size + 3 := by rw [Heap.size_push, z2]
  have z4 : (h2_3 s.heap p q).objs.size = s.heap.objs.size + 4 := by rw [Heap.size_push, z3]
  have g5 : (h2_4 s.heap p q).get? (h2_3 s.heap p q).objs.size = some _ := Heap.get?_push_size _ rfl
  have g4 : (h2_4 s.heap p q).get? (h2_2 s.heap p q).objs.size = some _ := Heap.get?_push_of_some _ (Heap.get?_push_size _ rfl)
  have g3 : (h2_4 s.heap p q).get? (h2_1 s.heap p q).objs.size = some _ := Heap.get?_push_of_some _ (Heap.get?_push_of_some _ (Heap.get?_push_size _ rfl))
  have g2 : (h2_4 s.heap p q).get? (s.heap.push (itO p)).objs.size = some _ := Heap.get?_push_of_some _ (Heap.get?_push_of_some _ (Heap.get?_push_of_some _ (Heap.get?_push_size _ rfl)))
  have g1 : (h2_4 s.heap p q).get? s.heap.objs.size = some _ := Heap.get?_push_of_some _ (Heap.get?_push_of_some _ (Heap.get?_push_of_some _ (Heap.get?_push_of_some _ (Heap.get?_push_size _ rfl))))
  refine ⟨⟨_, g5, rfl⟩, ?_⟩
  rw [z2, z3, z4] at g5
  rw [z1, z2] at g3
  rw [z3] at g4
  rw [z1] at g2
  rw [z4]
  refine h _ _ (s.heap.objs.size + 2) (s.heap.objs.size + 3) [{ p with it := s.heap.objs.size }, { q with it := s.heap.objs.size + 1 }] ⟨_, _, rfl⟩ ⟨g5, g3, ⟨_, g4, rfl⟩, fun r hr => ?_, fun hlt => ?_, fun c hc => ?_, fun c o e => Heap.get?_push_of_some _ (Heap.get?_push_of_some _ (Heap.get?_push_of_some _ (Heap.get?_push_of_some _ (Heap.get?_push_of_some _ e))))⟩
  · rcases List.mem_cons.mp hr with e | hr
    · subst e; exact itO_at g1
    · rw [List.mem_singleton.mp hr]; exact itO_at g2
  · have a1 := hlt _ List.mem_cons_self
    have a2 := hlt _ (List.mem_cons_of_mem _ List.mem_cons_self)
    dsimp only at a1 a2
    have al : ∀ r ∈ [{ p with it := s.heap.objs.size }, { q with it := s.heap.objs.size + 1 }], r.l < s.heap.objs.size ∧ s.heap.objs.size ≤ r.it ∧ r.it < s.heap.objs.size + 2 := fun r hr => by
      rcases List.mem_cons.mp hr with e | hr
      · subst e; exact ⟨a1, Nat.le_refl _, by dsimp only; omega⟩
      · rw [List.mem_singleton.mp hr]; exact ⟨a2, by dsimp only; omega, by dsimp only; omega⟩
    refine ⟨Nat.ne_of_lt (by omega), Nat.ne_of_lt (by omega), Nat.ne_of_lt (by omega), fun r hr => ?_, fun r hr => ?_, fun r hr => ?_, fun r hr => ?_, fun r hr => ?_, fun r hr r' hr' => ?_, fun i j r r' hi hj hij => ?_⟩
    · have := al r hr; exact Nat.ne_of_lt (by omega)
    · have := al r hr; exact Nat.ne_of_lt (by omega)
    · have := al r hr; exact Nat.ne_of_lt (by omega)
    · have := al r hr; exact Nat.ne_of_lt (by omega)
    · have := al r hr; exact Nat.ne_of_lt (by omega)
    · have := al r hr; have := al r' hr'; exact Nat.ne_of_lt (by omega)
    · have li := (List.getElem?_eq_some_iff.mp hi).1
      have lj := (List.getElem?_eq_some_iff.mp hj).1
      simp only [List.length_cons, List.length_nil] at li lj
      have ci : i = 0 ∨ i = 1 := by omega
      have cj : j = 0 ∨ j = 1 := by omega
      rcases ci with rfl | rfl <;> rcases cj with rfl | rfl
      · exact absurd rfl hij
      · cases hi; cases hj; exact Nat.ne_of_lt (by dsimp only; omega)
      · cases hi; cases hj; exact Nat.ne_of_gt (by dsimp only; omega)
      · exact absurd rfl hij
  · simp only [List.map_cons, List.map_nil, List.mem_cons, List.not_mem_nil, or_false] at hc
    rcases hc with e | e | e | e | e <;> (rw [e]; first | exact Nat.le_refl _ | exact Nat.le_add_right _ _)
theorem call_zip3 {p q r : It1} {xs ys zs : Array Value} {Q : Value → Shared → Prop} (hl1 : SqAt s.heap p xs) (hl2 : SqAt s.heap q ys) (hl3 : SqAt s.heap r zs)
    (h : ∀ h' z TI TO ps, (∃ i1 i2 i3, ps = [{ p with it := i1 }, { q with it := i2 }, { r with it := i3 }]) → Made s.heap h' ps z TI TO → Q (.ref z) { s with heap := h' }) :
    wpAny (model prog w) A (call (.type "zip") [.ref p.l, .ref q.l, .ref r.l]) Q E s := by
  refine callType_new F.called_zip (by decide) (typeCall_zip_3 _ _ _) (newCall_zip_3 _ _ _) (fun obj => args_object_init_4 obj _ _ _) F.entry_zip_new
    (meets_zip3 p q r xs ys zs) ⟨hl1, hl2, hl3, ?_⟩
  have z1 : (s.heap.push (itO p)).objs.size = s.heap.objs.size + 1 := Heap.size_push ..
  have z1' : ((s.heap.push (itO p)).push (itO q)).objs.size = s.heap.objs.size + 2 := by rw [Heap.size_push, z1]
  have z2 : (h3_1 s.heap p q r).objs.size = s.heap.objs.size + 3 := by rw [Heap.size_push, z1']
  have z3 : (h3_2 s.heap p q r).objs.size = s.heap.objs.size + 4 := by rw [Heap.size_push, z2]
  have z4 : (h3_3 s.heap p q r).objs.size = s.heap.objs.size + 5 := by rw [Heap.size_push, z3]
  have g5 : (h3_4 s.heap p q r).get? (h3_3 s.heap p q r).objs.size = some _ := Heap.get?_push_size _ rfl
  have g4 : (h3_4 s.heap p q r).get? (h3_2 s.heap p q r).objs.size = some _ := Heap.get?_push_of_some _ (Heap.get?_push_size _ rfl)
  have g3 : (h3_4 s.heap p q r).get? (h3_1 s.heap p q r).objs.size = some _ := Heap.get?_push_of_some _ (Heap.get?_push_of_some _ (Heap.get?_push_size _ rfl))
  have g2' : (h3_4 s.heap p q r).get? ((s.heap.push (itO p)).push (itO q)).objs.size = some _ := Heap.get?_push_of_some _ (Heap.get?_push_of_some _ (Heap.get?_push_of_some _ (Heap.get?_push_size _ rfl)))
  have g2 : (h3_4 s.heap p q r).get? (s.heap.push (itO p)).objs.size = some _ := Heap.get?_push_of_some _ (Heap.get?_push_of_some _ (Heap.get?_push_of_some _ (Heap.get?_push_of_some _ (Heap.get?_push_size _ rfl))))
  have g1 : (h3_4 s.heap p q r).get? s.heap.objs.size = some _ := Heap.get?_push_of_some _ (Heap.get?_push_of_some _ (Heap.get?_push_of_some _ (Heap.get?_push_of_some _ (Heap.get?_push_of_some _ (Heap.get?_push_size _ rfl)))))
  refine ⟨⟨_, g5, rfl⟩, ?_⟩
  rw [z2, z3, z4] at g5
  rw [z1, z1', z2] at g3
  rw [z3] at g4
  rw [z1'] at g2'
  rw [z1] at g2
  rw [z4]
  refine h _ _ (s.heap.objs.size + 3) (s.heap.objs.size + 4) [{ p with it := s.heap.objs.size }, { q with it := s.heap.objs.size + 1 }, { r with it := s.heap.objs.size + 2 }] ⟨_, _, _, rfl⟩ ⟨g5, g3, ⟨_, g4, rfl⟩, fun r hr => ?_, fun hlt => ?_, fun c hc => ?_, fun c o e => Heap.get?_push_of_some _ (Heap.get?_push_of_some _ (Heap.get?_push_of_some _ (Heap.get?_push_of_some _ (Heap.get?_push_of_some _ (Heap.get?_push_of_some _ e)))))⟩
  · rcases List.mem_cons.mp hr with e | hr
    · subst e; exact itO_at g1
    · rcases List.mem_cons.mp hr with e | hr
      · subst e; exact itO_at g2
      · rw [List.mem_singleton.mp hr]; exact itO_at g2'
  · have a1 := hlt _ List.mem_cons_self
    have a2 := hlt _ (List.mem_cons_of_mem _ List.mem_cons_self)
    have a3 := hlt _ (List.mem_cons_of_mem _ (List.mem_cons_of_mem _ List.mem_cons_self))
    dsimp only at a1 a2 a3
    have al : ∀ r' ∈ [{ p with it := s.heap.objs.size }, { q with it := s.heap.objs.size + 1 }, { r with it := s.heap.objs.size + 2 }], r'.l < s.heap.objs.size ∧ s.heap.objs.size ≤ r'.it ∧ r'.it < s.heap.objs.size + 3 := fun r' hr => by
      rcases List.mem_cons.mp hr with e | hr
      · subst e; exact ⟨a1, Nat.le_refl _, by dsimp only; omega⟩
      · rcases List.mem_cons.mp hr with e | hr
        · subst e; exact ⟨a2, by dsimp only; omega, by dsimp only; omega⟩
        · rw [List.mem_singleton.mp hr]; exact ⟨a3, by dsimp only; omega, by dsimp only; omega⟩
    refine ⟨Nat.ne_of_lt (by omega), Nat.ne_of_lt (by omega), Nat.ne_of_lt (by omega), fun r hr => ?_, fun r hr => ?_, fun r hr => ?_, fun r hr => ?_, fun r hr => ?_, fun r hr r' hr' => ?_, fun i j r' r'' hi hj hij => ?_⟩
    · have := al r hr; exact Nat.ne_of_lt (by omega)
    · have := al r hr; exact Nat.ne_of_lt (by omega)
    · have := al r hr; exact Nat.ne_of_lt (by omega)
    · have := al r hr; exact Nat.ne_of_lt (by omega)
    · have := al r hr; exact Nat.ne_of_lt (by omega)
    · have := al r hr; have := al r' hr'; exact Nat.ne_of_lt (by omega)
    · have li := (List.getElem?_eq_some_iff.mp hi).1
      have lj := (List.getElem?_eq_some_iff.mp hj).1
      simp only [List.length_cons, List.length_nil] at li lj
      have ci : i = 0 ∨ i = 1 ∨ i = 2 := by omega
      have cj : j = 0 ∨ j = 1 ∨ j = 2 := by omega
      rcases ci with rfl | rfl | rfl <;> rcases cj with rfl | rfl | rfl <;> first | exact absurd rfl hij | (cases hi; cases hj; exact Nat.ne_of_lt (by dsimp only; omega)) | (cases hi; cases hj; exact Nat.ne_of_gt (by dsimp only; omega))
  · simp only [List.map_cons, List.map_nil, List.mem_cons, List.not_mem_nil, or_false] at hc
    rcases hc with e | e | e | e | e | e <;> (rw [e]; first | exact Nat.le_refl _ | exact Nat.le_add_right _ _)
end
end Zn

set_option maxHeartbeats 1000000
namespace Zn
open PySem PySem.Spec PyProof.Rows L2
open Classical
def SqV (K : PySem.W.Frag) (H : Hp) (t : Bool) (a : Addr) (xs : List V) : Prop := match t with
  | false => SqL K H a xs
  | true => SqT K H a xs
def ItzN (K : PySem.W.Frag) (as : List (Bool × Addr)) : It :=
  ⟨fun i H => ∀ p ∈ as, ∃ xs, SqV K H p.1 p.2 xs ∧ i < xs.length,
    fun i H v H' => ∃ T row, v = .ref T ∧ H T = none ∧ H' = upd H T (.tup row) ∧ row.length = as.length ∧ ∀ (j : Nat) (p : Bool × Addr) (xs : List V), as[j]? = some p → SqV K H p.1 p.2 xs → ∃ x, xs[i]? = some x ∧ row[j]? = some x,
    fun i H => (∀ p ∈ as, ∃ xs, SqV K H p.1 p.2 xs) ∧ ∃ p ∈ as, ∃ xs, SqV K H p.1 p.2 xs ∧ xs.length ≤ i⟩
theorem sqv_at {X : Cx} {pins : List (Addr × Obj)} {σ : L2.St} {H : Hp} {s : Shared} (I : Inv X pins σ H s) {p : It1} {xs : List V} (h : SqV X.K H p.t p.l xs) : ∃ its : List Value, Vals xs its ∧ SqAt s.heap p its.toArray := by
  obtain ⟨t, it, l⟩ := p
  cases t with
  | false => obtain ⟨its, rv, q, _⟩ := I.list h; exact ⟨its, rv, q.isList⟩
  | true => obtain ⟨its, rv, q, _⟩ := I.tuple h; exact ⟨its, rv, q⟩
theorem sqv_inj {X : Cx} {pins : List (Addr × Obj)} {σ : L2.St} {H : Hp} {s : Shared} (I : Inv X pins σ H s) {t : Bool} {a : Addr} {xs ys : List V} (h : SqV X.K H t a xs) (h' : SqV X.K H t a ys) : xs = ys := by
  cases t with
  | false => exact I.list_inj h h'
  | true => exact I.tuple_inj h h'
theorem vals_of {R : Nat → V → Value → Prop} : ∀ (n : Nat), (∀ j, j < n → ∃ x u, R j x u ∧ RelV x u) → ∃ (row : List V) (us : List Value), row.length = n ∧ us.length = n ∧ Vals row us ∧ ∀ j, j < n → ∃ x u, row[j]? = some x ∧ us[j]? = some u ∧ R j x u
  | 0, _ => ⟨[], [], rfl, rfl, .nil, fun j h => by omega⟩
  | n + 1, h => by
    obtain ⟨row, us, l1, l2, rv, hr⟩ := vals_of (R := fun j => R (j + 1)) n fun j hj => h (j + 1) (by omega)
    obtain ⟨x, u, r0, rx⟩ := h 0 (by omega)
    refine ⟨x :: row, u :: us, by simp [l1], by simp [l2], .cons rx rv, fun j hj => ?_⟩
    cases j with
    | zero => exact ⟨x, u, rfl, rfl, r0⟩
    | succ j => obtain ⟨y, z, a, b, c⟩ := hr j (by omega); exact ⟨y, z, by simpa using a, by simpa using b, c⟩
theorem turn_zipN {P : Program} {w : World} {K : PySem.W.Frag} {elts : List Expr} {kk : Nat} {tpos : Pos} {z TI TO : Addr} {ps : List It1} (D : Apt z TI TO ps) (h0 : ps ≠ []) (hn : ps.length ≤ 64) :
    Turn P w K (.Tuple elts kk tpos) (ItzN K (ps.map fun p => (p.t, p.l))) (z :: TI :: TO :: ps.map (·.it)) z (fun i h => IsZip h z TI TO .none ∧ IsTupN h TI (itsOf ps) ∧ (∃ vals, IsTupN h TO vals ∧ vals.size = ps.length) ∧ ∀ p ∈ ps, ItAt h p i) where
  mem := by simp
  obj := fun i h st c hc => by
    obtain ⟨hz, hTI, ⟨vals, hTO, _⟩, hi⟩ := st
    rcases List.mem_cons.mp hc with e | hc
    · rw [e]; exact ⟨_, hz, fun v q => nomatch q⟩
    rcases List.mem_cons.mp hc with e | hc
    · rw [e]; exact ⟨_, hTI, fun v q => nomatch q⟩
    rcases List.mem_cons.mp hc with e | hc
    · rw [e]; exact ⟨_, hTO, fun v q => nomatch q⟩
    obtain ⟨p, hp, e⟩ := List.mem_map.mp hc
    rw [← e]; exact (hi p hp).obj
  keep := fun i h h' st k => by
    obtain ⟨hz, hTI, ⟨vals, hTO, hv⟩, hi⟩ := st
    exact ⟨k z (by simp) _ hz, k TI (by simp) _ hTI, ⟨vals, k TO (by simp) _ hTO, hv⟩, fun p hp => (hi p hp).at fun o q => k p.it (by simp; exact .inr (.inr (.inr ⟨p, hp, rfl⟩))) o q⟩
  item := by
    intro X hP hw hK hc i pins s σ H E I hf st hg
    subst hP hw hK
    obtain ⟨hz, hTI, ⟨vals, hTO, hv⟩, hi⟩ := st
    have hzl : z < s.heap.objs.size := Heap.lt_size hz
    have hs : ∀ p ∈ ps, ∃ (xs : List V) (its : List Value), SqV X.K H p.t p.l xs ∧ i < xs.length ∧ Vals xs its ∧ SqAt s.heap p its.toArray := fun p hp => by
      obtain ⟨xs, h1, h2⟩ := hg (p.t, p.l) (List.mem_map.mpr ⟨p, hp, rfl⟩)
      obtain ⟨its, h3, h4⟩ := sqv_at I h1
      exact ⟨xs, its, h1, h2, h3, h4⟩
    have hs' : ∃ g : It1 → Array Value, ∀ p ∈ ps, ∃ (xs : List V) (its : List Value), SqV X.K H p.t p.l xs ∧ i < xs.length ∧ Vals xs its ∧ SqAt s.heap p (g p) ∧ g p = its.toArray := by
      refine ⟨fun p => if h : p ∈ ps then ((hs p h).choose_spec.choose).toArray else #[], fun p hp => ?_⟩
      have q := (hs p hp).choose_spec.choose_spec
      exact ⟨_, _, q.1, q.2.1, q.2.2.1, by dsimp only; rw [dif_pos hp]; exact q.2.2.2, by dsimp only; rw [dif_pos hp]⟩
    obtain ⟨g, hg'⟩ := hs'
    refine pyNext_zipN_item (xs := g) (I.ok.hd hc) D h0 hn hz hTI hTO hv hi (fun p hp => by obtain ⟨_, _, _, _, _, q, _⟩ := hg' p hp; exact q) (fun p hp e => ?_) fun row h' hrl hrow z' TO' it' hT hsz hk => ?_
    · obtain ⟨xs, its, _, q1, q2, _, q3⟩ := hg' p hp
      rw [q3] at e
      have := q2.length
      rw [List.getElem?_toArray, List.getElem?_eq_none_iff] at e
      omega
    refine ⟨_, rfl, wpAny_letOwnedTupleGo_zip (s := { s with heap := h' }) z' fun h'' z'' sb => ?_⟩
    have hT2 : h''.get? s.heap.objs.size = some { cls := .type "tuple", data := .seq row.toArray } := (sb.2 _ (Nat.ne_of_gt hzl)).trans hT
    obtain ⟨vrow, us, l1, l2, rv, hr⟩ := vals_of (R := fun j x u => ∀ p, ps[j]? = some p → ∃ (xs : List V), SqV X.K H p.t p.l xs ∧ xs[i]? = some x ∧ row[j]? = some u) ps.length fun j hj => by
      obtain ⟨p, hp⟩ : ∃ p, ps[j]? = some p := ⟨_, List.getElem?_eq_getElem hj⟩
      obtain ⟨xs, its, a1, a2, a3, a4, a5⟩ := hg' p (List.mem_of_getElem? hp)
      obtain ⟨u, b1, b2⟩ := hrow j p hp
      obtain ⟨u', c1, c2⟩ := a3.get (List.getElem?_eq_getElem a2)
      rw [a5, List.getElem?_toArray, c1] at b1
      cases b1
      exact ⟨xs[i], _, fun q hq => by rw [hp] at hq; cases hq; exact ⟨xs, a1, List.getElem?_eq_getElem a2, b2⟩, c2⟩
    have eus : us = row := by
      apply List.ext_getElem?
      intro j
      by_cases hj : j < ps.length
      · obtain ⟨p, hp⟩ : ∃ p, ps[j]? = some p := ⟨_, List.getElem?_eq_getElem hj⟩
        obtain ⟨x, u, _, d2, d3⟩ := hr j hj
        obtain ⟨_, _, _, d4⟩ := d3 p hp
        rw [d2, d4]
      · rw [List.getElem?_eq_none (by omega), List.getElem?_eq_none (by omega)]
    subst eus
    have new : ObjOk X.prog X.w (upd H s.heap.objs.size (.tup vrow)) h'' s.heap.objs.size (.tup vrow) :=
      ⟨by show vrow.length ≤ sizeLine; rw [l1, sizeLine_eq]; omega, us, rv, ⟨_, hT2, rfl, _, rfl⟩⟩
    have mem4 : ∀ c, c ∉ z :: TI :: TO :: ps.map (·.it) → c ≠ z ∧ c ≠ TO ∧ ∀ p ∈ ps, c ≠ p.it := fun c hc => ⟨fun e => hc (by rw [e]; simp), fun e => hc (by rw [e]; simp), fun p hp e => hc (by rw [e]; simp; exact .inr (.inr (.inr ⟨p, hp, rfl⟩)))⟩
    have I1 : Inv X pins σ (upd H s.heap.objs.size (.tup vrow)) { s with heap := h'' } :=
      I.turnedNew (t' := s.toks) (ch := z :: TI :: TO :: ps.map (·.it)) (fun c o hb q => (sb.2 c (mem4 c hb).1).trans (hk c o (mem4 c hb).1 (mem4 c hb).2.1 (mem4 c hb).2.2 q)) hf (Nat.le_refl _) new
    refine ⟨.ref s.heap.objs.size, _, I1, rfl, ⟨_, vrow, rfl, I.hok.fresh (Nat.le_refl _), rfl, by rw [l1, List.length_map], fun j p xs hj hxs => ?_⟩, ⟨z'', ?_, ?_, ?_⟩, fun c hcm => ?_⟩
    · rw [List.getElem?_map] at hj
      cases hp : ps[j]? with
      | none => rw [hp] at hj; cases hj
      | some q =>
        rw [hp] at hj
        cases hj
        obtain ⟨x, u, d1, d2, d3⟩ := hr j (List.getElem?_eq_some_iff.mp hp).1
        obtain ⟨ys, e1, e2, _⟩ := d3 q hp
        have ee := sqv_inj I hxs e1
        subst ee
        exact ⟨x, e2, d1⟩
    · exact (sb.2 _ D.TIz).trans (hk _ _ D.TIz D.TITO (fun p hp => (D.iTI p hp).symm) hTI)
    · obtain ⟨v, q1, q2⟩ := TO'
      exact ⟨v, (sb.2 _ D.TOz).trans q1, q2⟩
    · exact fun p hp => (it' p hp).at fun o q => (sb.2 _ (D.iz p hp)).trans q
    · have hlt : c < s.heap.objs.size := by
        rcases List.mem_cons.mp hcm with e | hc
        · rw [e]; exact hzl
        rcases List.mem_cons.mp hc with e | hc
        · rw [e]; exact Heap.lt_size hTI
        rcases List.mem_cons.mp hc with e | hc
        · rw [e]; exact Heap.lt_size hTO
        obtain ⟨p, hp, e⟩ := List.mem_map.mp hc
        rw [← e]; obtain ⟨o, q, _⟩ := (hi p hp).obj; exact Heap.lt_size q
      rw [upd_ne (Nat.ne_of_lt hlt)]
      exact (hf c hcm).1
  done := by
    intro X hP hw hK hc i pins s σ H E I hf st hg
    subst hP hw hK
    obtain ⟨hz, hTI, ⟨vals, hTO, hv⟩, hi⟩ := st
    obtain ⟨hall, p1, hp1, xs1, hxs1, hle⟩ := hg
    have hs : ∀ p ∈ ps, ∃ (xs : List V) (its : List Value), SqV X.K H p.t p.l xs ∧ Vals xs its ∧ SqAt s.heap p its.toArray := fun p hp => by
      obtain ⟨xs, h1⟩ := hall (p.t, p.l) (List.mem_map.mpr ⟨p, hp, rfl⟩)
      obtain ⟨its, h3, h4⟩ := sqv_at I h1
      exact ⟨xs, its, h1, h3, h4⟩
    have hs' : ∃ g : It1 → Array Value, ∀ p ∈ ps, ∃ (xs : List V) (its : List Value), SqV X.K H p.t p.l xs ∧ Vals xs its ∧ SqAt s.heap p (g p) ∧ g p = its.toArray := by
      refine ⟨fun p => if h : p ∈ ps then ((hs p h).choose_spec.choose).toArray else #[], fun p hp => ?_⟩
      have q := (hs p hp).choose_spec.choose_spec
      exact ⟨_, _, q.1, q.2.1, by dsimp only; rw [dif_pos hp]; exact q.2.2, by dsimp only; rw [dif_pos hp]⟩
    obtain ⟨g, hg'⟩ := hs'
    have mem4 : ∀ c, c ∉ z :: TI :: TO :: ps.map (·.it) → c ≠ z ∧ c ≠ TO ∧ ∀ p ∈ ps, c ≠ p.it := fun c hc => ⟨fun e => hc (by rw [e]; simp), fun e => hc (by rw [e]; simp), fun p hp e => hc (by rw [e]; simp; exact .inr (.inr (.inr ⟨p, hp, rfl⟩)))⟩
    refine pyNext_zipN_end (xs := g) (I.ok.hd hc) D h0 hn hz hTI hTO hv hi (fun p hp => by obtain ⟨_, _, _, _, q, _⟩ := hg' p hp; exact q) ?_ fun h' hk => ⟨rfl, I.turnedL (t' := s.toks) (ch := z :: TI :: TO :: ps.map (·.it)) (fun c o hb q =>
      hk c o (mem4 c hb).1 (mem4 c hb).2.1 (mem4 c hb).2.2 q) hf⟩
    obtain ⟨p, hp, e⟩ := List.mem_map.mp hp1
    subst e
    obtain ⟨xs, its, q1, q2, _, q3⟩ := hg' p hp
    have ee := sqv_inj I hxs1 q1
    subst ee
    refine ⟨p, hp, ?_⟩
    rw [q3, List.getElem?_toArray, List.getElem?_eq_none_iff]
    have := q2.length
    omega
  self := fun A i s Q E st h => wpAny_pyIter_zip st.1 h
def iZipN (K : PySem.W.Frag) (n : Nat) (ta : TA) : TI := fun σ H R => ta σ H fun vs H1 => ∃ as : List (Bool × Addr), as.length = n ∧ vs = as.map (fun p => V.ref p.2) ∧ (∀ p ∈ as, ∃ xs, SqV K H1 p.1 p.2 xs) ∧ R (ItzN K as) H1
section
variable {X : Cx} {pins : List (Addr × Obj)} {σ : L2.St} {H : Hp}
theorem made_pie {tg : Expr} {elts : List Expr} {kk : Nat} {tpos : Pos} {R : It → Hp → Prop} {s1 : Shared} {h' : Heap} {z TI TO : Addr} {ps : List It1} {as : List (Bool × Addr)} (I1 : Inv X pins σ H s1) (h0 : ps ≠ []) (hn : ps.length ≤ 64)
    (eas : as = ps.map fun p => (p.t, p.l)) (hl : ∀ p ∈ ps, p.l < s1.heap.objs.size) (m : Made s1.heap h' ps z TI TO) (q : R (ItzN X.K as) H) : PIE X pins σ (.Tuple elts kk tpos) R (.ref z) { s1 with heap := h' } := by
  subst eas
  have D := m.apt hl
  refine ⟨z, z :: TI :: TO :: ps.map (·.it), _, _, H, rfl, I1.kept (t' := s1.toks) m.kp, turn_zipN D h0 hn, ⟨m.hz, m.hti, m.hto, m.hit⟩, fun c hc => ?_, q⟩
  have hle : s1.heap.objs.size ≤ c := m.new c (by
    rcases List.mem_cons.mp hc with e | hc
    · exact .inl e
    rcases List.mem_cons.mp hc with e | hc
    · exact .inr (.inl e)
    rcases List.mem_cons.mp hc with e | hc
    · exact .inr (.inr (.inl e))
    exact .inr (.inr (.inr hc)))
  exact I1.fpOk hle (I1.hok.fresh hle)
theorem sqat_lt {h : Heap} {p : It1} {xs : Array Value} (x : SqAt h p xs) : p.l < h.objs.size := by
  obtain ⟨t, it, l⟩ := p
  cases t with
  | false => obtain ⟨o, e, _⟩ := x; exact Heap.lt_size e
  | true => obtain ⟨o, e, _⟩ := x; exact Heap.lt_size e
theorem pi_zipN2 {e e2 : Expr} {ta : TA} {p pos tpos : Pos} {elts : List Expr} {kk : Nat} (hg : Gl X "zip") (hm : X.mg "zip" = none) (ha : PA X [e, e2] ta)
    (hs : starEach [e, e2] X.env = (false, eval e X.env) :: starEach [e2] X.env := by rfl) (hpl : (backTo pos (starEach [e2] X.env)).any (·.1) = false := by rfl) :
    PI X (.Tuple elts kk tpos) (.Call (.Name "zip" p) [e, e2] [] pos) (iZipN X.K 2 ta) := by
  refine ⟨fun pins s σ H R I h => ?_⟩
  refine Call_ (ld_blt I hg hm PyProof.Rows.boot_zip (PyProof.Rows.callWith_type1 (thn (ha.run pos pins s σ H _ I h) fun us s1 ⟨vs, H1, I1, r1, q1⟩ => ?_) hs hpl))
  obtain ⟨as, el, ex, hq, q1⟩ := q1
  match as, el with
  | [a, b], _ =>
    subst ex
    obtain ⟨xs, hx⟩ := hq a List.mem_cons_self
    obtain ⟨ys, hy⟩ := hq b (List.mem_cons_of_mem _ List.mem_cons_self)
    cases r1 with
    | cons r rr =>
      cases rr with
      | cons r' rr =>
        cases rr
        cases r
        cases r'
        obtain ⟨its, rv, p1⟩ := sqv_at (p := ⟨a.1, 0, a.2⟩) I1 hx
        obtain ⟨its2, rv2, p2⟩ := sqv_at (p := ⟨b.1, 0, b.2⟩) I1 hy
        refine call_zip2 p1 p2 fun h' z TI TO ps hps m => wpAny_pyIter_zip m.hz ?_
        obtain ⟨i1, i2, rfl⟩ := hps
        refine made_pie (tg := e) I1 (by simp) (by simp) (by simp) (fun q hq => ?_) m q1
        rcases List.mem_cons.mp hq with e | hq
        · rw [e]; exact sqat_lt p1
        · rw [List.mem_singleton.mp hq]; exact sqat_lt p2
theorem pi_zipN3 {e e2 e3 : Expr} {ta : TA} {p pos tpos : Pos} {elts : List Expr} {kk : Nat} (hg : Gl X "zip") (hm : X.mg "zip" = none) (ha : PA X [e, e2, e3] ta)
    (hs : starEach [e, e2, e3] X.env = (false, eval e X.env) :: starEach [e2, e3] X.env := by rfl) (hpl : (backTo pos (starEach [e2, e3] X.env)).any (·.1) = false := by rfl) :
    PI X (.Tuple elts kk tpos) (.Call (.Name "zip" p) [e, e2, e3] [] pos) (iZipN X.K 3 ta) := by
  refine ⟨fun pins s σ H R I h => ?_⟩
  refine Call_ (ld_blt I hg hm PyProof.Rows.boot_zip (PyProof.Rows.callWith_type1 (thn (ha.run pos pins s σ H _ I h) fun us s1 ⟨vs, H1, I1, r1, q1⟩ => ?_) hs hpl))
  obtain ⟨as, el, ex, hq, q1⟩ := q1
  match as, el with
  | [a, b, c], _ =>
    subst ex
    obtain ⟨xs, hx⟩ := hq a List.mem_cons_self
    obtain ⟨ys, hy⟩ := hq b (List.mem_cons_of_mem _ List.mem_cons_self)
    obtain ⟨zs, hzz⟩ := hq c (List.mem_cons_of_mem _ (List.mem_cons_of_mem _ List.mem_cons_self))
    cases r1 with
    | cons r rr =>
      cases rr with
      | cons r' rr =>
        cases rr with
        | cons r'' rr =>
          cases rr
          cases r
          cases r'
          cases r''
          obtain ⟨its, rv, p1⟩ := sqv_at (p := ⟨a.1, 0, a.2⟩) I1 hx
          obtain ⟨its2, rv2, p2⟩ := sqv_at (p := ⟨b.1, 0, b.2⟩) I1 hy
          obtain ⟨its3, rv3, p3⟩ := sqv_at (p := ⟨c.1, 0, c.2⟩) I1 hzz
          refine call_zip3 p1 p2 p3 fun h' z TI TO ps hps m => wpAny_pyIter_zip m.hz ?_
          obtain ⟨i1, i2, i3, rfl⟩ := hps
          refine made_pie (tg := e) I1 (by simp) (by simp) (by simp) (fun q hq => ?_) m q1
          rcases List.mem_cons.mp hq with e | hq
          · rw [e]; exact sqat_lt p1
          rcases List.mem_cons.mp hq with e | hq
          · rw [e]; exact sqat_lt p2
          · rw [List.mem_singleton.mp hq]; exact sqat_lt p3
end
end Zn
namespace Den
variable [Tbs]
open PySem L2 Evl PySem.Spec PyProof.Rows Zn
section
variable {K : PySem.W.Frag} {W : WX} {X : Cx} {θ : Addr → Prop} {π α : Nat → Option Addr} {σ : L2.St} {H : Hp} {ρ : En}
/-- the items of a list or a tuple -/
def seqD : D → Option (List D)
  | .list ds => some ds
  | .tuple ds => some ds
  | _ => none
def seqsD : List D → Option (List (List D))
  | [] => some []
  | d :: ds => match seqD d, seqsD ds with
    | some x, some xs => some (x :: xs)
    | _, _ => none
/-- the rows of a zip -/
def zipD (xss : List (List D)) : List D := (List.range ((xss.map List.length).foldr min (xss.headD []).length)).map fun i => .tuple (xss.map fun xs => xs.getD i .none)
def zip2D (xs ys : List D) : List D := List.zipWith (fun x y => PyData.tuple [x, y]) xs ys
def zip3D : List D → List D → List D → List D
  | x :: xs, y :: ys, z :: zs => .tuple [x, y, z] :: zip3D xs ys zs
  | _, _, _ => []
theorem dp_seq {v : V} {d : D} {ds : List D} {G : Hp} (h : Dp K G v d) (e : seqD d = some ds) : ∃ t a vs, v = .ref a ∧ SqV K G t a vs ∧ DpAll K G vs ds := by
  cases h with
  | lst h hs => cases e; exact ⟨false, _, _, rfl, h, hs⟩
  | tup h hs => cases e; exact ⟨true, _, _, rfl, h, hs⟩
  | non => cases e
  | bl => cases e
  | int => cases e
  | str => cases e
theorem sqv_ex {H H' : Hp} {t : Bool} {a : Addr} {vs : List V} (e : Ex H H') (h : SqV K H t a vs) : SqV K H' t a vs := by
  cases t with
  | false => exact ex_l e h
  | true => exact ex_t e h
theorem zip2D_at : ∀ {xs ys : List D} {i : Nat} {d : D}, (zip2D xs ys)[i]? = some d → ∃ x y, xs[i]? = some x ∧ ys[i]? = some y ∧ d = .tuple [x, y] := by
  intro xs ys i d h
  unfold zip2D at h
  rw [List.getElem?_zipWith] at h
  cases hx : xs[i]? with
  | none => rw [hx] at h; cases h
  | some x =>
    cases hy : ys[i]? with
    | none => rw [hx, hy] at h; cases h
    | some y => rw [hx, hy] at h; cases h; exact ⟨x, y, rfl, rfl, rfl⟩
theorem zip2D_len {xs ys : List D} : (zip2D xs ys).length = min xs.length ys.length := List.length_zipWith
theorem zip3D_at : ∀ {xs ys zs : List D} {i : Nat} {d : D}, (zip3D xs ys zs)[i]? = some d → ∃ x y z, xs[i]? = some x ∧ ys[i]? = some y ∧ zs[i]? = some z ∧ d = .tuple [x, y, z]
  | x :: xs, y :: ys, z :: zs, 0, d, h => by cases h; exact ⟨x, y, z, rfl, rfl, rfl, rfl⟩
  | x :: xs, y :: ys, z :: zs, i + 1, d, h => by
    obtain ⟨a, b, c, h1, h2, h3, h4⟩ := zip3D_at (xs := xs) (ys := ys) (zs := zs) (i := i) (d := d) (by simpa [zip3D] using h)
    exact ⟨a, b, c, by simpa using h1, by simpa using h2, by simpa using h3, h4⟩
  | [], _, _, i, d, h => by simp [zip3D] at h
  | _ :: _, [], _, i, d, h => by simp [zip3D] at h
  | _ :: _, _ :: _, [], i, d, h => by simp [zip3D] at h
theorem zip3D_len : ∀ {xs ys zs : List D}, (zip3D xs ys zs).length = min xs.length (min ys.length zs.length)
  | x :: xs, y :: ys, z :: zs => by simp [zip3D, zip3D_len (xs := xs)]
  | [], _, _ => by simp [zip3D]
  | _ :: _, [], _ => by simp [zip3D]
  | _ :: _, _ :: _, [] => by simp [zip3D]
theorem walks_zip2 {G : Hp} {s t : Bool} {a b : Addr} {vs ws : List V} {xs ys : List D} (h1 : SqV K G s a vs) (h2 : SqV K G t b ws) (d1 : DpAll K G vs xs) (d2 : DpAll K G ws ys) : Walks K (ItzN K [(s, a), (t, b)]) G (zip2D xs ys) := fun S2 H2 i hl hx => by
  have k1 : SqV K H2 s a vs := sqv_ex (hx.trans hidS_ex) h1
  have k2 : SqV K H2 t b ws := sqv_ex (hx.trans hidS_ex) h2
  refine ⟨fun e => ⟨fun p hp => ?_, ?_⟩, fun d hi => ?_⟩
  · rcases List.mem_cons.mp hp with e | hp
    · rw [e]; exact ⟨_, k1⟩
    · rw [List.mem_singleton.mp hp]; exact ⟨_, k2⟩
  · rw [zip2D_len] at e
    by_cases c : vs.length ≤ i
    · exact ⟨_, List.mem_cons_self, vs, k1, c⟩
    · exact ⟨_, List.mem_cons_of_mem _ List.mem_cons_self, ws, k2, by have := dpA_len d1; have := dpA_len d2; omega⟩
  · obtain ⟨x, y, e1, e2, rfl⟩ := zip2D_at hi
    obtain ⟨v, v1, v2⟩ := dpA_get d1 e1
    obtain ⟨u, u1, u2⟩ := dpA_get d2 e2
    refine ⟨fun p hp => ?_, fun z H3 q => ?_⟩
    · rcases List.mem_cons.mp hp with e | hp
      · rw [e]; exact ⟨_, k1, (List.getElem?_eq_some_iff.mp v1).1⟩
      · rw [List.mem_singleton.mp hp]; exact ⟨_, k2, (List.getElem?_eq_some_iff.mp u1).1⟩
    · obtain ⟨T, row, rfl, hT, rfl, hl2, hr⟩ := q
      obtain ⟨x1, q1, q2⟩ := hr 0 (s, a) vs rfl k1
      obtain ⟨x2, q3, q4⟩ := hr 1 (t, b) ws rfl k2
      rw [v1] at q1; cases q1
      rw [u1] at q3; cases q3
      match row, hl2, q2, q4 with
      | [r1, r2], _, q2, q4 =>
        cases q2; cases q4
        exact ⟨Ex.new hT, new_tup hl hT (.cons (dp_mono hx v2) (.cons (dp_mono hx u2) .nil))⟩
theorem walks_zip3 {G : Hp} {s t r : Bool} {a b c : Addr} {vs ws us : List V} {xs ys zs : List D} (h1 : SqV K G s a vs) (h2 : SqV K G t b ws) (h3 : SqV K G r c us) (d1 : DpAll K G vs xs) (d2 : DpAll K G ws ys) (d3 : DpAll K G us zs) : Walks K (ItzN K [(s, a), (t, b), (r, c)]) G (zip3D xs ys zs) := fun S2 H2 i hl hx => by
  have k1 : SqV K H2 s a vs := sqv_ex (hx.trans hidS_ex) h1
  have k2 : SqV K H2 t b ws := sqv_ex (hx.trans hidS_ex) h2
  have k3 : SqV K H2 r c us := sqv_ex (hx.trans hidS_ex) h3
  have l1 := dpA_len d1
  have l2 := dpA_len d2
  have l3 := dpA_len d3
  refine ⟨fun e => ⟨fun p hp => ?_, ?_⟩, fun d hi => ?_⟩
  · rcases List.mem_cons.mp hp with e | hp
    · rw [e]; exact ⟨_, k1⟩
    rcases List.mem_cons.mp hp with e | hp
    · rw [e]; exact ⟨_, k2⟩
    · rw [List.mem_singleton.mp hp]; exact ⟨_, k3⟩
  · rw [zip3D_len] at e
    by_cases c1 : vs.length ≤ i
    · exact ⟨_, List.mem_cons_self, vs, k1, c1⟩
    by_cases c2 : ws.length ≤ i
    · exact ⟨_, List.mem_cons_of_mem _ List.mem_cons_self, ws, k2, c2⟩
    · exact ⟨_, List.mem_cons_of_mem _ (List.mem_cons_of_mem _ List.mem_cons_self), us, k3, by omega⟩
  · obtain ⟨x, y, z, e1, e2, e3, rfl⟩ := zip3D_at hi
    obtain ⟨v, v1, v2⟩ := dpA_get d1 e1
    obtain ⟨u, u1, u2⟩ := dpA_get d2 e2
    obtain ⟨w, w1, w2⟩ := dpA_get d3 e3
    refine ⟨fun p hp => ?_, fun z H3 q => ?_⟩
    · rcases List.mem_cons.mp hp with e | hp
      · rw [e]; exact ⟨_, k1, (List.getElem?_eq_some_iff.mp v1).1⟩
      rcases List.mem_cons.mp hp with e | hp
      · rw [e]; exact ⟨_, k2, (List.getElem?_eq_some_iff.mp u1).1⟩
      · rw [List.mem_singleton.mp hp]; exact ⟨_, k3, (List.getElem?_eq_some_iff.mp w1).1⟩
    · obtain ⟨T, row, rfl, hT, rfl, hl2, hr⟩ := q
      obtain ⟨x1, q1, q2⟩ := hr 0 (s, a) vs rfl k1
      obtain ⟨x2, q3, q4⟩ := hr 1 (t, b) ws rfl k2
      obtain ⟨x3, q5, q6⟩ := hr 2 (r, c) us rfl k3
      rw [v1] at q1; cases q1
      rw [u1] at q3; cases q3
      rw [w1] at q5; cases q5
      match row, hl2, q2, q4, q6 with
      | [r1, r2, r3], _, q2, q4, q6 =>
        cases q2; cases q4; cases q6
        exact ⟨Ex.new hT, new_tup hl hT (.cons (dp_mono hx v2) (.cons (dp_mono hx u2) (.cons (dp_mono hx w2) .nil)))⟩
/-- zip(a, b), zip(a, b, c) -/
def wiZ2 (wa : WA) : WI := fun ρ R E => wa ρ (fun ds ρ' => ∃ d e xs ys, ds = [d, e] ∧ seqD d = some xs ∧ seqD e = some ys ∧ R (zip2D xs ys) ρ') E
def wiZ3 (wa : WA) : WI := fun ρ R E => wa ρ (fun ds ρ' => ∃ d e f xs ys zs, ds = [d, e, f] ∧ seqD d = some xs ∧ seqD e = some ys ∧ seqD f = some zs ∧ R (zip3D xs ys zs) ρ') E
theorem diZ2 {tg e : Expr} {n : Nat} {w : WA} (h : PI X tg e (iZipN K 2 (cA K W n w))) : PI X tg e (cI K W (wiZ2 w)) := piI h fun σ H Q ⟨θ, π, α, ρ, R, E, hR, hw, hq, he⟩ =>
  ⟨θ, π, α, ρ, _, E, hR, hw, fun α1 vs H1 ds ρ1 R1 s1 p1 l1 w1 => by
    obtain ⟨d, e, xs, ys, rfl, e1, e2, w1⟩ := w1
    cases p1 with
    | cons h1 hs =>
      cases hs with
      | cons h2 hs =>
        cases hs
        obtain ⟨t1, a1, v1, rfl, q1, r1⟩ := dp_seq h1 e1
        obtain ⟨t2, a2, v2, rfl, q2, r2⟩ := dp_seq h2 e2
        exact ⟨[(t1, a1), (t2, a2)], rfl, rfl, fun p hp => by
          rcases List.mem_cons.mp hp with e | hp
          · rw [e]; exact ⟨_, sqv_ex hidS_ex q1⟩
          · rw [List.mem_singleton.mp hp]; exact ⟨_, sqv_ex hidS_ex q2⟩, hq α1 _ H1 _ ρ1 R1 s1 (walks_zip2 q1 q2 r1 r2) w1⟩, he⟩
theorem diZ3 {tg e : Expr} {n : Nat} {w : WA} (h : PI X tg e (iZipN K 3 (cA K W n w))) : PI X tg e (cI K W (wiZ3 w)) := piI h fun σ H Q ⟨θ, π, α, ρ, R, E, hR, hw, hq, he⟩ =>
  ⟨θ, π, α, ρ, _, E, hR, hw, fun α1 vs H1 ds ρ1 R1 s1 p1 l1 w1 => by
    obtain ⟨d, e, f, xs, ys, zs, rfl, e1, e2, e3, w1⟩ := w1
    cases p1 with
    | cons h1 hs =>
      cases hs with
      | cons h2 hs =>
        cases hs with
        | cons h3 hs =>
          cases hs
          obtain ⟨t1, a1, v1, rfl, q1, r1⟩ := dp_seq h1 e1
          obtain ⟨t2, a2, v2, rfl, q2, r2⟩ := dp_seq h2 e2
          obtain ⟨t3, a3, v3, rfl, q3, r3⟩ := dp_seq h3 e3
          exact ⟨[(t1, a1), (t2, a2), (t3, a3)], rfl, rfl, fun p hp => by
            rcases List.mem_cons.mp hp with e | hp
            · rw [e]; exact ⟨_, sqv_ex hidS_ex q1⟩
            rcases List.mem_cons.mp hp with e | hp
            · rw [e]; exact ⟨_, sqv_ex hidS_ex q2⟩
            · rw [List.mem_singleton.mp hp]; exact ⟨_, sqv_ex hidS_ex q3⟩, hq α1 _ H1 _ ρ1 R1 s1 (walks_zip3 q1 q2 q3 r1 r2 r3) w1⟩, he⟩
end
end Den

namespace Den
variable [Tbs]
open PySem L2 Evl PySem.Spec PyProof.Rows Zn
/-! sum, min, max of tuples -/
section
variable {prog : Program} {w : World} {A : Around} {E : Value → Shared → Prop} {s : Shared} {l : Addr} {its : List Value} {ns : List Int} {Q : Value → Shared → Prop}
omit [Tbs] in
theorem iter_intTup {xs : Array (Int × Tok)} (hl : s.heap.IsTuple l (intItems xs))
    (h : ∀ s₂ : Shared, s₂ = { s with heap := s.heap.push { cls := .type "tuple_iterator", data := .fields #[.ref l, .int 0 0] } } →
      (s₂.heap.IsTupleIter s.heap.objs.size l 0 ∧ s₂.heap.IsTuple l (intItems xs)) → (∀ b ∈ [s.heap.objs.size, l], b < s₂.heap.objs.size) → l ≠ s.heap.objs.size → Q (.ref s.heap.objs.size) s₂) :
    wpAny (model prog w) A (pyIter (.ref l)) Q E s := by
  have hlt : l < s.heap.objs.size := by obtain ⟨_, e, _⟩ := hl; exact Heap.lt_size e
  refine wpAny_pyIter_tuple hl (h _ rfl ⟨⟨_, Heap.get?_push_size _ rfl, rfl, rfl⟩, by obtain ⟨o, e, r⟩ := hl; exact ⟨o, Heap.get?_push_of_some _ e, r⟩⟩ (fun b hb => ?_) (Nat.ne_of_lt hlt))
  show b < (s.heap.push _).objs.size
  rw [Heap.size_push]
  rcases List.mem_cons.mp hb with rfl | hb
  · exact Nat.lt_succ_self _
  · rw [List.mem_singleton.mp hb]; exact Nat.lt_succ_of_lt hlt
omit [Tbs] in
theorem old_keptT {h' : Heap} {o0 : Obj} (hk : ∀ b o, b ∉ [s.heap.objs.size] → (s.heap.push o0).get? b = some o → h'.get? b = some o) :
    ∀ b o, s.heap.get? b = some o → h'.get? b = some o := fun b o e => by
  refine hk b o (fun hm => ?_) (Heap.get?_push_of_some _ e)
  rw [List.mem_singleton.mp hm] at e
  exact Nat.lt_irrefl _ (Heap.lt_size e)
omit [Tbs] in
theorem sum_rawT (hh : A.handled = none) (hl : s.heap.IsTuple l its.toArray) (hi : IntsAre its ns)
    (h : ∀ h' tk t', (∀ b o, s.heap.get? b = some o → h'.get? b = some o) → Q (.int ns.sum t') { s with heap := h', toks := tk }) : wpAny (model prog w) A (call (.builtin "sum") [.ref l]) Q E s := by
  obtain ⟨xs, e⟩ := hi.allInts.items
  have hn : numsOf (intItems xs).toList = ns := by rw [← e]; exact hi.numsOf
  rw [nums_intItems] at hn
  rw [e] at hl
  refine call_sum_walkG (iter_intTup hl fun s₂ e st hfp hlI => ?_)
  subst e
  refine ⟨_, _, _, _, _, _, numAt xs, rfl, Walks.tuple (A := A.in1) hh _ l hlI (intItems xs), st, hfp, (fun _ _ => intItems_at), fun h' tk t' hk => ?_⟩
  have z := h h' tk t' (old_keptT hk)
  have e2 : (intItems xs).size = xs.size := by simp [intItems]
  rw [e2, preSum_eq, List.take_of_length_le (by simp), hn]
  exact z
omit [Tbs] in
theorem max_rawT (hh : A.handled = none) (hl : s.heap.IsTuple l its.toArray) (hi : IntsAre its ns) (hne : 0 < ns.length)
    (h : ∀ h' tk M t', (∀ b o, s.heap.get? b = some o → h'.get? b = some o) → M ∈ ns → (∀ a, a ∈ ns → a ≤ M) → Q (.int M t') { s with heap := h', toks := tk }) : wpAny (model prog w) A (call (.builtin "max") [.ref l]) Q E s := by
  obtain ⟨xs, e⟩ := hi.allInts.items
  have hn : numsOf (intItems xs).toList = ns := by rw [← e]; exact hi.numsOf
  rw [nums_intItems] at hn
  subst hn
  rw [e] at hl
  have hsz : 0 < xs.size := by simpa using hne
  refine call_max_walk (iter_intTup hl fun s₂ e st hfp hlI => ?_)
  subst e
  refine ⟨_, _, _, _, _, _, _, rfl, Walks.tuple (A := A.in1) hh _ l hlI (intItems xs), st, hfp, by simpa [intItems] using hsz, CmpOf.ints_gt (numAt xs) (fun _ _ => intItems_at), fun v h' tk hP hk => ?_⟩
  have hv : (intItems xs)[argBest (fun i j => decide (numAt xs i > numAt xs j)) (xs.size - 1)]? = some v := by simpa [intItems] using hP
  obtain ⟨t, rfl⟩ := intItems_at hv
  obtain ⟨h1, h2⟩ := argBest_gt (numAt xs) (xs.size - 1)
  refine h h' tk _ t (old_keptT hk) ?_ fun a ha => ?_
  · rw [numAt_eq]; exact PySem.getD_mem (by rw [List.length_map, Array.length_toList]; omega)
  · obtain ⟨j, hj, rfl⟩ := mem_getD ha
    rw [List.length_map, Array.length_toList] at hj
    rw [← numAt_eq]; exact h2 j (by omega)
omit [Tbs] in
theorem min_rawT (hh : A.handled = none) (hl : s.heap.IsTuple l its.toArray) (hi : IntsAre its ns) (hne : 0 < ns.length)
    (h : ∀ h' tk M t', (∀ b o, s.heap.get? b = some o → h'.get? b = some o) → M ∈ ns → (∀ a, a ∈ ns → M ≤ a) → Q (.int M t') { s with heap := h', toks := tk }) : wpAny (model prog w) A (call (.builtin "min") [.ref l]) Q E s := by
  obtain ⟨xs, e⟩ := hi.allInts.items
  have hn : numsOf (intItems xs).toList = ns := by rw [← e]; exact hi.numsOf
  rw [nums_intItems] at hn
  subst hn
  rw [e] at hl
  have hsz : 0 < xs.size := by simpa using hne
  refine call_min_walk (iter_intTup hl fun s₂ e st hfp hlI => ?_)
  subst e
  refine ⟨_, _, _, _, _, _, _, rfl, Walks.tuple (A := A.in1) hh _ l hlI (intItems xs), st, hfp, by simpa [intItems] using hsz, CmpOf.ints_lt (numAt xs) (fun _ _ => intItems_at), fun v h' tk hP hk => ?_⟩
  have hv : (intItems xs)[argBest (fun i j => decide (numAt xs i < numAt xs j)) (xs.size - 1)]? = some v := by simpa [intItems] using hP
  obtain ⟨t, rfl⟩ := intItems_at hv
  obtain ⟨h1, h2⟩ := argBest_lt (numAt xs) (xs.size - 1)
  refine h h' tk _ t (old_keptT hk) ?_ fun a ha => ?_
  · rw [numAt_eq]; exact PySem.getD_mem (by rw [List.length_map, Array.length_toList]; omega)
  · obtain ⟨j, hj, rfl⟩ := mem_getD ha
    rw [List.length_map, Array.length_toList] at hj
    rw [← numAt_eq]; exact h2 j (by omega)
end
section
variable {K : PySem.W.Frag} {W : WX} {X : Cx} {θ : Addr → Prop} {π α : Nat → Option Addr} {σ : L2.St} {H : Hp} {ρ : En}
def rSumT (K : PySem.W.Frag) : List V → Hp → VK → Prop := fun vs H Q => ∃ (a : Addr) (ns : List Int), vs = [V.ref a] ∧ SqT K H a (ns.map V.int) ∧ Q (.int ns.sum) H
def rMaxT (K : PySem.W.Frag) : List V → Hp → VK → Prop := fun vs H Q => ∃ (a : Addr) (ns : List Int), vs = [V.ref a] ∧ SqT K H a (ns.map V.int) ∧ 0 < ns.length ∧ ∀ m, m ∈ ns → (∀ y, y ∈ ns → y ≤ m) → Q (.int m) H
def rMinT (K : PySem.W.Frag) : List V → Hp → VK → Prop := fun vs H Q => ∃ (a : Addr) (ns : List Int), vs = [V.ref a] ∧ SqT K H a (ns.map V.int) ∧ 0 < ns.length ∧ ∀ m, m ∈ ns → (∀ y, y ∈ ns → m ≤ y) → Q (.int m) H
omit [Tbs] in
theorem cr_sumT (hc : X.calm = true) : CallR X (.builtin "sum") (rSumT X.K) := by
  intro pins s σ H vs us Q I r h
  obtain ⟨a, ns, rfl, hs, q⟩ := h
  obtain ⟨its, rv, hl, _⟩ := I.tuple hs
  rw [Vals.ref1 r]
  exact sum_rawT (I.ok.hd hc) (show s.heap.IsTuple a its.toArray from hl) rv.ints fun h' tk t' hk => ⟨.int _, H, I.kept hk, ⟨_, rfl⟩, q⟩
omit [Tbs] in
theorem cr_maxT (hc : X.calm = true) : CallR X (.builtin "max") (rMaxT X.K) := by
  intro pins s σ H vs us Q I r h
  obtain ⟨a, ns, rfl, hs, hne, q⟩ := h
  obtain ⟨its, rv, hl, _⟩ := I.tuple hs
  rw [Vals.ref1 r]
  exact max_rawT (I.ok.hd hc) (show s.heap.IsTuple a its.toArray from hl) rv.ints hne fun h' tk m t' hk h1 h2 => ⟨.int _, H, I.kept hk, ⟨_, rfl⟩, q m h1 h2⟩
omit [Tbs] in
theorem cr_minT (hc : X.calm = true) : CallR X (.builtin "min") (rMinT X.K) := by
  intro pins s σ H vs us Q I r h
  obtain ⟨a, ns, rfl, hs, hne, q⟩ := h
  obtain ⟨its, rv, hl, _⟩ := I.tuple hs
  rw [Vals.ref1 r]
  exact min_rawT (I.ok.hd hc) (show s.heap.IsTuple a its.toArray from hl) rv.ints hne fun h' tk m t' hk h1 h2 => ⟨.int _, H, I.kept hk, ⟨_, rfl⟩, q m h1 h2⟩
def orC (r r' : List V → Hp → VK → Prop) : List V → Hp → VK → Prop := fun vs H Q => r vs H Q ∨ r' vs H Q
omit [Tbs] in
theorem callR_or {f : Value} {r r' : List V → Hp → VK → Prop} (a : CallR X f r) (b : CallR X f r') : CallR X f (orC r r') := fun pins s σ H vs us Q I rv h => h.elim (a pins s σ H vs us Q I rv) (b pins s σ H vs us Q I rv)
/-- the ints of a list or a tuple -/
def intsL : List D → Option (List Int)
  | [] => some []
  | .int i :: ds => (intsL ds).map (i :: ·)
  | _ => none
def intsD (d : D) : Option (List Int) := (seqD d).bind intsL
omit [Tbs] in
theorem intsL_eq : ∀ {ds : List D} {ns : List Int}, intsL ds = some ns → ds = ns.map PyData.int
  | [], ns, h => by cases h; rfl
  | .int i :: ds, ns, h => by
    unfold intsL at h
    cases q : intsL ds with
    | none => rw [q] at h; cases h
    | some ms => rw [q] at h; cases h; rw [intsL_eq q]; rfl
  | .none :: _, _, h => by cases h
  | .bool _ :: _, _, h => by cases h
  | .str _ :: _, _, h => by cases h
  | .list _ :: _, _, h => by cases h
  | .tuple _ :: _, _, h => by cases h
  | .dict _ :: _, _, h => by cases h
omit [Tbs] in
theorem intsL_map (ns : List Int) : intsL (ns.map PyData.int) = some ns := by
  induction ns with
  | nil => rfl
  | cons n ns ih => show (intsL (ns.map PyData.int)).map (n :: ·) = _; rw [ih]; rfl
theorem dpA_toInts {G : Hp} : ∀ {vs : List V} {ns : List Int}, DpAll K G vs (ns.map PyData.int) → vs = ns.map V.int
  | [], [], _ => rfl
  | [], _ :: _, h => by cases h
  | _ :: _, [], h => by cases h
  | v :: vs, n :: ns, h => by
    cases h with
    | cons h hs => cases dp_int h; rw [dpA_toInts hs]; rfl
def fSum (d : D) (k : D → Prop) : Prop := ∃ ns, intsD d = some ns ∧ k (.int ns.sum)
def fMaxS (d : D) (k : D → Prop) : Prop := ∃ ns, intsD d = some ns ∧ 0 < ns.length ∧ ∀ m, m ∈ ns → (∀ y, y ∈ ns → y ≤ m) → k (.int m)
def fMinS (d : D) (k : D → Prop) : Prop := ∃ ns, intsD d = some ns ∧ 0 < ns.length ∧ ∀ m, m ∈ ns → (∀ y, y ∈ ns → m ≤ y) → k (.int m)
theorem rp_ints {S : Addr → Prop} {x : V} {d : D} {ns : List Int} (h : Rp K S H x d) (e : intsD d = some ns) : ∃ a, x = .ref a ∧ (SqL K H a (ns.map V.int) ∨ SqT K H a (ns.map V.int)) := by
  unfold intsD at e
  cases d with
  | list ds =>
    have q := intsL_eq (show intsL ds = some ns from e)
    subst q
    obtain ⟨a, vs, rfl, h1, h2⟩ := h.lst
    rw [dpA_toInts h2] at h1
    exact ⟨a, rfl, .inl h1⟩
  | tuple ds =>
    have q := intsL_eq (show intsL ds = some ns from e)
    subst q
    obtain ⟨a, vs, rfl, h1, h2⟩ := h.tup
    rw [dpA_toInts h2] at h1
    exact ⟨a, rfl, .inr h1⟩
  | none => cases e
  | bool => cases e
  | int => cases e
  | str => cases e
  | dict => cases e
theorem su_sum : SU K (fun x => orC (rSum K) (rSumT K) [x]) fSum := by
  intro S H x d Q R lv hx hf q
  obtain ⟨ns, e, hk⟩ := hf
  obtain ⟨a, rfl, h | h⟩ := rp_ints hx e
  · exact .inl ⟨a, ns, rfl, h, q _ H _ (Ex.refl _) (.int _) hk⟩
  · exact .inr ⟨a, ns, rfl, h, q _ H _ (Ex.refl _) (.int _) hk⟩
theorem su_maxS : SU K (fun x => orC (rMax K) (rMaxT K) [x]) fMaxS := by
  intro S H x d Q R lv hx hf q
  obtain ⟨ns, e, hn, hk⟩ := hf
  obtain ⟨a, rfl, h | h⟩ := rp_ints hx e
  · exact .inl ⟨a, ns, rfl, h, hn, fun m h1 h2 => q _ H _ (Ex.refl _) (.int _) (hk m h1 h2)⟩
  · exact .inr ⟨a, ns, rfl, h, hn, fun m h1 h2 => q _ H _ (Ex.refl _) (.int _) (hk m h1 h2)⟩
theorem su_minS : SU K (fun x => orC (rMin K) (rMinT K) [x]) fMinS := by
  intro S H x d Q R lv hx hf q
  obtain ⟨ns, e, hn, hk⟩ := hf
  obtain ⟨a, rfl, h | h⟩ := rp_ints hx e
  · exact .inl ⟨a, ns, rfl, h, hn, fun m h1 h2 => q _ H _ (Ex.refl _) (.int _) (hk m h1 h2)⟩
  · exact .inr ⟨a, ns, rfl, h, hn, fun m h1 h2 => q _ H _ (Ex.refl _) (.int _) (hk m h1 h2)⟩
omit [Tbs] in
theorem cr_sumA (hc : X.calm = true) : CallR X (.builtin "sum") (orC (rSum X.K) (rSumT X.K)) := callR_or (cr_sum hc) (cr_sumT hc)
omit [Tbs] in
theorem cr_maxA (hc : X.calm = true) : CallR X (.builtin "max") (orC (rMax X.K) (rMaxT X.K)) := callR_or (cr_max hc) (cr_maxT hc)
omit [Tbs] in
theorem cr_minA (hc : X.calm = true) : CallR X (.builtin "min") (orC (rMin X.K) (rMinT X.K)) := callR_or (cr_min hc) (cr_minT hc)
abbrev fMax2 := f2i fun i j => .int (if j > i then j else i)
abbrev fMin2 := f2i fun i j => .int (if j < i then j else i)
theorem sr_max2 : SR K (fun x y H Q => ∃ i j, [x, y] = [V.int i, V.int j] ∧ Q (.int (if j > i then j else i)) H) fMax2 := by
  intro S H x y d e Q R lv hx hy hf q
  unfold fMax2 f2i at hf
  split at hf
  · cases hx.int; cases hy.int; exact ⟨_, _, rfl, q _ H _ (Ex.refl _) (.int _) hf⟩
  · exact hf.elim
theorem sr_min2 : SR K (fun x y H Q => ∃ i j, [x, y] = [V.int i, V.int j] ∧ Q (.int (if j < i then j else i)) H) fMin2 := by
  intro S H x y d e Q R lv hx hy hf q
  unfold fMin2 f2i at hf
  split at hf
  · cases hx.int; cases hy.int; exact ⟨_, _, rfl, q _ H _ (Ex.refl _) (.int _) hf⟩
  · exact hf.elim
/-! tuple(x), list(x) -/
def fTupOf (d : D) (k : D → Prop) : Prop := ∃ ds, seqD d = some ds ∧ k (.tuple ds)
theorem su_tupOf : SU K (fun x H Q => ∃ p ys, [x] = [V.ref p] ∧ ((SqL K H p ys ∧ ∀ l, H l = none → Q (.ref l) (upd H l (.tup ys))) ∨ (SqT K H p ys ∧ Q (.ref p) H))) fTupOf := by
  intro S H x d Q R lv hx hf q
  obtain ⟨ds, e, hk⟩ := hf
  cases d with
  | list xs =>
    cases e
    obtain ⟨a, vs, rfl, h1, h2⟩ := hx.lst
    exact ⟨a, vs, rfl, .inl ⟨h1, fun l hl => q _ _ _ (Ex.new hl) (new_tup lv hl h2) hk⟩⟩
  | tuple xs =>
    cases e
    cases hx with
    | val h =>
      obtain ⟨a, vs, rfl, h1, h2⟩ := (Rp.val h : Rp K S H x (.tuple _)).tup
      exact ⟨a, vs, rfl, .inr ⟨h1, q _ H _ (Ex.refl _) h hk⟩⟩
  | none => cases e
  | bool => cases e
  | int => cases e
  | str => cases e
  | dict => cases e
/-- a new list from a value -/
def wNewL (g : D → (List D → Prop) → Prop) (w : WL) : WA := fun ρ R E => w ρ (fun L ρ1 => ∃ d, L ρ1 d ∧ g d (fun ds => R ds ρ1)) E
def SN (K : PySem.W.Frag) (r : V → Hp → VK → Prop) (g : D → (List D → Prop) → Prop) : Prop := ∀ (S : Addr → Prop) (H : Hp) (x : V) (d : D) (Q : VK) (R : List D → Prop), Live S H → Rp K S H x d → g d R →
  (∀ p vs ds, H p = none → DpAll K (hidS S H) vs ds → R ds → Q (.ref p) (upd H p (.lst vs))) → r x H Q
theorem dNewL {r : List V → Hp → VK → Prop} {g : D → (List D → Prop) → Prop} {e a : Expr} {w : WL} (h : ∀ ta, PE X a ta → PE X e (tCB r (tCons ta tNil))) (hr : SN K (fun x => r [x]) g) (ha : PE X a (cL K W w)) : PE X e (cF K W (wNewL g w)) :=
  peI (h _ ha) fun σ H Q ⟨θ, π, α, ρ, R, E, hR, hw, hq, he⟩ => by
    refine ⟨θ, π, α, ρ, _, E, hR, hw, fun α1 v1 H1 L1 ρ1 R1 s1 l1 w1 => ?_, he⟩
    obtain ⟨d, hd, hg⟩ := w1
    refine hr _ H1 v1 d Q _ R1.live (l1 α1 H1 ρ1 R1 (Stp.refl ..) d hd) hg fun p vs ds hp hds hk => ?_
    have e := hid_new (θ := θ) (α := α1) (o := .lst vs) hp
    exact hq α1 p _ _ _ ρ1 (R1.hideNew hp) ⟨by rw [e]; exact s1.1, fun b hb => (s1.2 b hb).trans ((R1.stpNew hp).2 b hb)⟩ (fun z => R1.lv p z hp) upd_same (by rw [e]; exact hds) hk
def gListOf (d : D) (k : List D → Prop) : Prop := ∃ ds, seqD d = some ds ∧ k ds
theorem sn_listOf : SN K (fun x H Q => ∃ p ys, [x] = [V.ref p] ∧ (SqL K H p ys ∨ SqT K H p ys) ∧ ∀ l, H l = none → Q (.ref l) (upd H l (.lst ys))) gListOf := by
  intro S H x d Q R lv hx hg q
  obtain ⟨ds, e, hk⟩ := hg
  cases d with
  | list xs =>
    cases e
    obtain ⟨a, vs, rfl, h1, h2⟩ := hx.lst
    exact ⟨a, vs, rfl, .inl h1, fun l hl => q l vs _ hl h2 hk⟩
  | tuple xs =>
    cases e
    obtain ⟨a, vs, rfl, h1, h2⟩ := hx.tup
    exact ⟨a, vs, rfl, .inr h1, fun l hl => q l vs _ hl h2 hk⟩
  | none => cases e
  | bool => cases e
  | int => cases e
  | str => cases e
  | dict => cases e
/-! x in xs -/
def flatD : D → Bool
  | .none => true
  | .bool _ => true
  | .int _ => true
  | .str _ => true
  | _ => false
def eqF : D → D → Bool
  | .none, .none => true
  | .bool a, .bool b => a == b
  | .bool a, .int b => (if a then 1 else 0) == b
  | .int a, .bool b => a == (if b then 1 else 0)
  | .int a, .int b => a == b
  | .str a, .str b => a == b
  | _, _ => false
def inD (x : D) (xs : List D) : Bool := xs.any fun y => eqF y x
omit [Tbs] in
theorem flat_dp {G : Hp} {v : V} {d : D} (h : Dp K G v d) (f : flatD d = true) : flatV v = true := by
  cases h with
  | lst h hs => cases f
  | tup h hs => cases f
  | non => rfl
  | bl => rfl
  | int => rfl
  | str => rfl
omit [Tbs] in
theorem eqF_dp {G : Hp} {v u : V} {d e : D} (h : Dp K G v d) (h2 : Dp K G u e) (f : flatD d = true) (f2 : flatD e = true) : eqV v u = eqF d e := by
  cases h with
  | lst h hs => cases f
  | tup h hs => cases f
  | non => cases h2 with
    | lst h hs => cases f2
    | tup h hs => cases f2
    | non => rfl
    | bl => rfl
    | int => rfl
    | str => rfl
  | bl => cases h2 with
    | lst h hs => cases f2
    | tup h hs => cases f2
    | non => rfl
    | bl => rfl
    | int => rfl
    | str => rfl
  | int => cases h2 with
    | lst h hs => cases f2
    | tup h hs => cases f2
    | non => rfl
    | bl => rfl
    | int => rfl
    | str => rfl
  | str => cases h2 with
    | lst h hs => cases f2
    | tup h hs => cases f2
    | non => rfl
    | bl => rfl
    | int => rfl
    | str => rfl
omit [Tbs] in
theorem inD_dp {G : Hp} {u : V} {e : D} (h2 : Dp K G u e) (f2 : flatD e = true) : ∀ {vs : List V} {ds : List D}, DpAll K G vs ds → ds.all flatD = true → vs.all flatV = true ∧ inV u vs = inD e ds
  | _, _, .nil, _ => ⟨rfl, rfl⟩
  | v :: vs, d :: ds, .cons h hs, f => by
    have f : flatD d = true ∧ ds.all flatD = true := by simpa using f
    obtain ⟨a, b⟩ := inD_dp h2 f2 hs f.2
    refine ⟨by simp [flat_dp h f.1, a], ?_⟩
    show (eqV v u || inV u vs) = (eqF d e || inD e ds)
    rw [b, eqF_dp h h2 f.1 f2]
def fIn (neg : Bool) (d e : D) (k : D → Prop) : Prop := ∃ ds, seqD e = some ds ∧ flatD d = true ∧ ds.all flatD = true ∧ k (.bool (if neg then !inD d ds else inD d ds))
theorem sr_in (neg : Bool) : SR K (rIn K neg) (fIn neg) := by
  intro S H x y d e Q R lv hx hy hf q
  obtain ⟨ds, e1, f1, f2, hk⟩ := hf
  have hx' := hx.full
  obtain ⟨t, a, vs, rfl, h1, h2⟩ := dp_seq hy.full e1
  obtain ⟨g1, g2⟩ := inD_dp hx' f1 h2 f2
  refine ⟨a, vs, rfl, ?_, flat_dp hx' f1, g1, by rw [g2]; exact q _ H _ (Ex.refl _) (.bl _) hk⟩
  cases t with
  | false => exact .inl h1
  | true => exact .inr h1
/-! is None -/
def isNon : D → Bool
  | .none => true
  | _ => false
def fIsN (d e : D) (k : D → Prop) : Prop := e = .none ∧ k (.bool (isNon d))
def fNotN (d e : D) (k : D → Prop) : Prop := e = .none ∧ k (.bool (!isNon d))
omit [Tbs] in
theorem isNon_dp {G : Hp} {v : V} {d : D} (h : Dp K G v d) : decide (v = .non) = isNon d := by
  cases h <;> first | rfl | exact decide_eq_false (fun z => by cases z)
theorem sr_isN : SR K (fun x y H Q => y = .non ∧ Q (.bl (decide (x = .non))) H) fIsN := by
  intro S H x y d e Q R lv hx hy hf q
  obtain ⟨rfl, hf⟩ := hf
  exact ⟨hy.non, by rw [isNon_dp hx.full]; exact q _ H _ (Ex.refl _) (.bl _) hf⟩
theorem sr_notN : SR K (fun x y H Q => y = .non ∧ Q (.bl (!decide (x = .non))) H) fNotN := by
  intro S H x y d e Q R lv hx hy hf q
  obtain ⟨rfl, hf⟩ := hf
  exact ⟨hy.non, by rw [isNon_dp hx.full]; exact q _ H _ (Ex.refl _) (.bl _) hf⟩
end
end Den

namespace Den
open PySem L2 Evl PySem.Spec PyProof.Rows
/-! the end, with tables -/
theorem walk_ofTT {l : PySem.W.OpenLaw} {n k : Nat} {q : Program} {loose : List Str} {XP : (Str → Option Value) → Heap → Prop} {YP : World → Heap → Prop} {d : DefRec} {K : Params → PySem.W.Frag} {CX : World → CXT} {x : Str}
    (hn : l.most = some n) (hn2 : n ≤ sizeLine) (hdf : d.params.defaults = []) (hr : Room k callerA) (hY : ∀ (w : World) (h : Heap), YP w h → (K w.params).In h)
    (F : ∀ (w : World) (mg : Str → Option Value) (fa : Addr) (h : Heap), (K w.params).In h → h.Ns mainGlobals mg → mg d.name = some (.ref fa) → (∃ loose' mean mb, Top q loose' mean mg mb h) → LamX.LawAtS l w (K w.params) (CX w) k n x mg fa h)
    (hCX : ∀ (w : World) (H : Hp) (s : Shared) (e : Value) (s' : Shared), CX w [] H s (fun _ _ _ => False) e s' → False) :
    PySem.W.WalkO q loose XP YP l.row.toRowW d [] (fun f vs => PySem.call f vs) := by
  refine Att.attach_callB hn hdf fun w s₀ s₁ mg mb fa o pm cd doc a vs ns G Y ho hd hcd hmg hobj hints hlen hbits hg => ?_
  have KX := hY w _ Y
  obtain ⟨fd, cs, sp, hT, nT, C, hb, hsp, hF⟩ := F w mg fa _ KX G.T.g hmg ⟨_, _, _, G.T⟩
  exact LamX.law_callTs KX G.T.g G.T.b G.T.builtins G.T.nolimit hg hT nT C G.T.bmain hobj hints (Nat.le_trans hlen hn2) hr hF hb (fun H hH hS => hsp H a ns hlen hbits hH hS) fun H e s' => hCX w H s₁ e s'
theorem noTab_none {K : PySem.W.Frag} {h : Heap} {P : Addr} (X : K.In h) (nt : PySem.W.noTabs K = true) (e : h.get? P = some (PySem.W.tabObj #[])) : K.lookup P = none := by
  cases q : K.lookup P with
  | none => rfl
  | some o =>
    have z := X P o q
    rw [e] at z
    have h2 := List.all_eq_true.mp nt (P, o) (PySem.W.mem_of_lookupK q)
    rw [← Option.some.inj z] at h2
    exact absurd (show false = true from h2) Bool.false_ne_true
theorem fun_mkC {K : PySem.W.Frag} {h : Heap} {mg : Str → Option Value} {x qual : Str} {st : Stmt} {f c P : Addr} {oc : Value} {od an : Option Addr} {osl : Array (Option Value)} {kV doc pm cdv ct : Value} (X : K.In h) (G : h.Ns mainGlobals mg) (ht : PySem.W.tabIn K x = some (c, P)) (hm : mg x = some (.ref f))
    (l : K.lookup f = some ⟨oc, od, .func (PySem.W.fnOf x qual (defArgs st) (defBody st) (defScope st) .none kV doc pm an cdv ct), osl⟩)
    (e : PySem.W.codeIn K cdv qual = true) : FunC K x qual st f (PySem.W.fnOf x qual (defArgs st) (defBody st) (defScope st) .none kV doc pm an cdv ct) c := by
  have q := PySem.W.law_code X G ht hm (X _ _ l) rfl
  have q : cdv = .ref c := q
  subst q
  exact ⟨oc, od, kV, doc, pm, an, ct, osl, rfl, l, e⟩
theorem tabB_of {base : Heap} {mg : Str → Option Value} {c P : Addr} (t : LamX.TabB base mg c P) : GxR.TabB base mg c P := ⟨t.code, t.bm, t.gP⟩
/-! steps -/
variable [Tbs]
section
variable {ρ ρ1 : En} {R : RC} {E : EC} {A : List D → En → Prop} {w we : WE} {wi : WI} {wg : WG} {la : WL} {ar : WA} {cs : List Bool} {c : Bool} {j : Nat} {ds : List D}
theorem s_gen (h : wi ρ (fun ds ρ1 => ∃ Inv : Nat → En → Prop, Inv 0 (maskE cs ρ1) ∧
  (∀ i d ρ', ds[i]? = some d → Inv i ρ' → wg d ρ' (fun ρ2 => we ρ2 (fun y ρ3 => ∃ b : Bool, y = .bool b ∧ if b = c then R (.bool c) ρ1 else Inv (i + 1) ρ3) NoE) NoE) ∧
  ∀ ρ', Inv ds.length ρ' → R (.bool (!c)) ρ1) E) : wGenB c cs wi wg we ρ R E := h
def AllUp (p : D → Bool) (ds : List D) (i : Nat) : Prop := ∀ k z, k < i → ds[k]? = some z → p z = true
/-- all of a pure test -/
theorem s_all (p : D → Bool) (C : En → Prop) (hR : R (.bool (ds.all p)) ρ1) (h0 : C (maskE cs ρ1))
    (hs : ∀ i d ρ', ds[i]? = some d → C ρ' → (p d = false → R (.bool false) ρ1) → AllUp p ds i → wg d ρ' (fun ρ2 => we ρ2 (fun y ρ3 => ∃ b : Bool, y = .bool b ∧ if b = false then R (.bool false) ρ1 else (C ρ3 ∧ AllUp p ds (i + 1))) NoE) NoE) : ∃ Inv : Nat → En → Prop, Inv 0 (maskE cs ρ1) ∧
  (∀ i d ρ', ds[i]? = some d → Inv i ρ' → wg d ρ' (fun ρ2 => we ρ2 (fun y ρ3 => ∃ b : Bool, y = .bool b ∧ if b = false then R (.bool false) ρ1 else Inv (i + 1) ρ3) NoE) NoE) ∧
  ∀ ρ', Inv ds.length ρ' → R (.bool (!false)) ρ1 := by
  refine ⟨fun i ρ' => C ρ' ∧ AllUp p ds i, ⟨h0, fun k z hk => absurd hk (by omega)⟩, fun i d ρ' hi hc => hs i d ρ' hi hc.1 (fun hp => ?_) hc.2, fun ρ' hc => ?_⟩
  · have e : ds.all p = false := by
      rw [List.all_eq_false]
      exact ⟨d, List.mem_of_getElem? hi, by rw [hp]; simp⟩
    rw [e] at hR; exact hR
  · have e : ds.all p = true := by
      rw [List.all_eq_true]
      intro z hz
      obtain ⟨k, q⟩ := List.mem_iff_getElem?.mp hz
      exact hc.2 k z (List.getElem?_eq_some_iff.mp q).1 q
    rw [e] at hR; exact hR
theorem all_fin {p : D → Bool} {C : En → Prop} {i : Nat} {d : D} {b : Bool} {ρ3 : En} {F : Prop} (e : p d = b) (hi : ds[i]? = some d) (hf : p d = false → F) (hp : AllUp p ds i) (hC : C ρ3) :
    ∃ b' : Bool, (PyData.bool b) = .bool b' ∧ if b' = false then F else (C ρ3 ∧ AllUp p ds (i + 1)) := by
  refine ⟨b, rfl, ?_⟩
  cases b with
  | false => rw [if_pos rfl]; exact hf e
  | true =>
    rw [if_neg (by simp)]
    refine ⟨hC, fun k z hk hz => ?_⟩
    by_cases q : k = i
    · subst q; rw [hi] at hz; cases hz; exact e
    · exact hp k z (by omega) hz
theorem s_iZ2 {G : List D → En → Prop} (h : ar ρ (fun ds ρ' => ∃ d e xs ys, ds = [d, e] ∧ seqD d = some xs ∧ seqD e = some ys ∧ G (zip2D xs ys) ρ') E) : wiZ2 ar ρ G E := h
theorem s_iZ3 {G : List D → En → Prop} (h : ar ρ (fun ds ρ' => ∃ d e f xs ys zs, ds = [d, e, f] ∧ seqD d = some xs ∧ seqD e = some ys ∧ seqD f = some zs ∧ G (zip3D xs ys zs) ρ') E) : wiZ3 ar ρ G E := h
theorem s_z2e {G : List D → List D → Prop} {d e : D} (xs ys : List D) (h1 : seqD d = some xs) (h2 : seqD e = some ys) (h : G xs ys) : ∃ d' e' xs ys, ([d, e] : List D) = [d', e'] ∧ seqD d' = some xs ∧ seqD e' = some ys ∧ G xs ys := ⟨d, e, xs, ys, rfl, h1, h2, h⟩
theorem s_z3e {G : List D → List D → List D → Prop} {d e f : D} (xs ys zs : List D) (h1 : seqD d = some xs) (h2 : seqD e = some ys) (h3 : seqD f = some zs) (h : G xs ys zs) : ∃ d' e' f' xs ys zs, ([d, e, f] : List D) = [d', e', f'] ∧ seqD d' = some xs ∧ seqD e' = some ys ∧ seqD f' = some zs ∧ G xs ys zs := ⟨d, e, f, xs, ys, zs, rfl, h1, h2, h3, h⟩
theorem s_fz {w : WE} (d : D) (e : ρ[j]? = some (.va d)) (h : w ρ R E) : wFz j w ρ R E := by unfold wFz; rw [e]; exact h
theorem s_fzo {w : WE} (ds : List D) (e : ρ[j]? = some (.ow ds)) (h : w (ρ.set j (.va (.list ds))) R E) : wFz j w ρ R E := by unfold wFz; rw [e]; exact h
theorem s_sum {d : D} {k : D → Prop} (ns : List Int) (e : intsD d = some ns) (h : k (.int ns.sum)) : fSum d k := ⟨ns, e, h⟩
theorem s_tupOf {d : D} {k : D → Prop} (xs : List D) (e : seqD d = some xs) (h : k (.tuple xs)) : fTupOf d k := ⟨xs, e, h⟩
theorem s_in {d e : D} {k : D → Prop} (xs : List D) (h1 : seqD e = some xs) (h2 : flatD d = true) (h3 : xs.all flatD = true) (h : k (.bool (inD d xs))) : fIn false d e k := ⟨xs, h1, h2, h3, h⟩
theorem s_nin {d e : D} {k : D → Prop} (xs : List D) (h1 : seqD e = some xs) (h2 : flatD d = true) (h3 : xs.all flatD = true) (h : k (.bool (!inD d xs))) : fIn true d e k := ⟨xs, h1, h2, h3, h⟩
theorem s_isN {d : D} {k : D → Prop} (h : k (.bool (isNon d))) : fIsN d .none k := ⟨rfl, h⟩
theorem s_notN {d : D} {k : D → Prop} (h : k (.bool (!isNon d))) : fNotN d .none k := ⟨rfl, h⟩
theorem s_newL {g : D → (List D → Prop) → Prop} (h : la ρ (fun L ρ1 => ∃ d, L ρ1 d ∧ g d (fun ds => A ds ρ1)) E) : wNewL g la ρ A E := h
theorem s_listOf {d : D} {k : List D → Prop} (xs : List D) (e : seqD d = some xs) (h : k xs) : gListOf d k := ⟨xs, e, h⟩
/-- a comprehension that maps -/
theorem s_lcm {vs : List Nat} {wt : WT} (f : D → D) (hl : ds.length ≤ sizeLine)
    (hs : ∀ i d acc, ds[i]? = some d → acc.length < sizeLine → acc = (ds.take i).map f → okw ρ vs ∧ wg d (wipeE ρ vs) (fun ρ2 => wt ρ2 (fun b ρ3 =>
      if b = true then w ρ3 (fun y ρ4 => acc.length < sizeLine ∧ okw ρ4 vs ∧ (back ρ vs ρ4 = ρ ∧ acc ++ [y] = (ds.take (i + 1)).map f)) NoE else okw ρ3 vs ∧ (back ρ vs ρ3 = ρ ∧ acc = (ds.take (i + 1)).map f)) NoE) NoE) (hA : A (ds.map f) ρ) :
    ∃ Inv : Nat → List D → En → Prop, Inv 0 [] ρ ∧ (∀ i d acc ρ', ds[i]? = some d → Inv i acc ρ' → okw ρ' vs ∧ wg d (wipeE ρ' vs) (fun ρ2 => wt ρ2 (fun b ρ3 =>
      if b = true then w ρ3 (fun y ρ4 => acc.length < sizeLine ∧ okw ρ4 vs ∧ Inv (i + 1) (acc ++ [y]) (back ρ' vs ρ4)) NoE else okw ρ3 vs ∧ Inv (i + 1) acc (back ρ' vs ρ3)) NoE) NoE) ∧ ∀ acc ρ', Inv ds.length acc ρ' → A acc ρ' := by
  refine ⟨fun i acc ρ' => ρ' = ρ ∧ acc = (ds.take i).map f, ⟨rfl, by simp⟩, fun i d acc ρ' hi h => ?_, fun acc ρ' h => ?_⟩
  · obtain ⟨e1, e2⟩ := h
    subst e1
    exact hs i d acc hi (by rw [e2, List.length_map, List.length_take]; have := (List.getElem?_eq_some_iff.mp hi).1; omega) e2
  · obtain ⟨e1, e2⟩ := h
    subst e1
    rw [e2, List.take_length]; exact hA
theorem lcm_fin {f : D → D} {i : Nat} {d y : D} {acc : List D} (hi : ds[i]? = some d) (ha : acc = (ds.take i).map f) (e : y = f d) : acc ++ [y] = (ds.take (i + 1)).map f := by
  rw [ha, e, List.take_add_one, hi]; simp
end
end Den

namespace Den
variable [Tbs]
open PySem L2 Evl PySem.Spec PyProof.Rows
open Classical
section
variable {K : PySem.W.Frag} {W : WX} {X : Cx} {θ : Addr → Prop} {π α : Nat → Option Addr} {σ : L2.St} {H : Hp} {ρ : En} {p : Addr} {o : HO}
/-- a, b = x, y: two plain locals -/
def wPar (i j : Nat) (w : WA) : WS := fun B ρ => w ρ (fun ds ρ1 => ∃ x y, ds = [x, y] ∧ asgV i (.va x) ρ1 (fun ρ2 => asgV j (.va y) ρ2 B.nx)) B.rs
theorem dPar {i j : Nat} {s : Stmt} {w : WA} {n : Nat} (h : PS X s (tPar i j (cA K W n w))) : PS X s (cS K W (wPar i j w)) := psI h fun D σ H ⟨θ, π, α, ρ, B, hR, hw, hf⟩ => by
  refine ⟨θ, π, α, ρ, _, _, hR, hw, fun α1 vs H1 ds ρ1 R1 s1 p1 l1 w1 => ?_, hf.exi⟩
  obtain ⟨x, y, rfl, w1⟩ := w1
  cases p1 with
  | cons a r =>
    cases r with
    | cons b r =>
      cases r
      obtain ⟨a1, a2, a3⟩ := asgV_of w1
      obtain ⟨α', r, s⟩ := R1.put a1 a2 a
      obtain ⟨b1, b2, b3⟩ := asgV_of a3
      obtain ⟨α2, r2, t⟩ := r.put b1 b2 (dp_mono s.1 b)
      exact ⟨_, _, rfl, hf.nx α2 _ H1 _ r2 ((s1.trans s).trans t) b3⟩
theorem s_par {i j : Nat} {wa : WA} {nx : En → Prop} {rt rf bk ct rs} (h : wa ρ (fun ds ρ1 => ∃ x y, ds = [x, y] ∧ asgV i (.va x) ρ1 (fun ρ2 => asgV j (.va y) ρ2 nx)) rs) : wPar i j wa ⟨nx, rt, rf, bk, ct, rs⟩ ρ := h
theorem s_xy {x y : D} {G : D → D → Prop} (h : G x y) : ∃ x' y', ([x, y] : List D) = [x', y'] ∧ G x' y' := ⟨x, y, rfl, h⟩
theorem nd_io {j : Nat} {d : D} : (ios [Ar.io j, Ar.v d]).Nodup := List.Pairwise.cons (fun _ h => nomatch h) List.Pairwise.nil
theorem nd_io2 {j : Nat} {d e : D} : (ios [Ar.io j, Ar.v d, Ar.v e]).Nodup := List.Pairwise.cons (fun _ h => nomatch h) List.Pairwise.nil
theorem nd_io3 {j : Nat} {d e f : D} : (ios [Ar.io j, Ar.v d, Ar.v e, Ar.v f]).Nodup := List.Pairwise.cons (fun _ h => nomatch h) List.Pairwise.nil
end
end Den

namespace Den
variable [Tbs]
open PySem L2 Evl PySem.Spec PyProof.Rows
open Classical
section
variable {K : PySem.W.Frag} {W : WX} {X : Cx} {θ : Addr → Prop} {π α : Nat → Option Addr} {σ : L2.St} {H : Hp} {ρ : En} {p : Addr} {o : HO}
/-! lcm -/
def CLcm (a b : Int) : Prop := a.natAbs < 2 ^ 64 ∧ b.natAbs < 2 ^ 64
def rLcm : List V → Hp → VK → Prop := fun vs H Q => ∃ a b : Int, vs = [.int a, .int b] ∧ CLcm a b ∧ Q (.int ((Nat.lcm a.natAbs b.natAbs : Nat) : Int)) H
omit [Tbs] in
theorem lcm_small {a b : Nat} (ha : a < 2 ^ 64) (hb : b < 2 ^ 64) : (((Nat.lcm a b : Nat) : Int)).natAbs.log2 < bitsLine := by
  rw [Int.natAbs_natCast]
  by_cases z : Nat.lcm a b = 0
  · rw [z]; decide
  · have h1 : Nat.lcm a b ≤ a * b := by
      have hz : 0 < a * b := Nat.pos_of_ne_zero fun e => z (by rcases Nat.mul_eq_zero.mp e with e | e <;> simp [e])
      exact Nat.le_of_dvd hz (Nat.lcm_dvd_mul a b)
    have h2 : a * b < 2 ^ 128 := by
      calc a * b < 2 ^ 64 * 2 ^ 64 := Nat.mul_lt_mul'' ha hb
        _ = 2 ^ 128 := by decide
    exact Nat.lt_of_lt_of_le ((Nat.log2_lt z).mpr (Nat.lt_of_le_of_lt h1 h2)) (by decide)
omit [Tbs] in
theorem cr_lcm : CallR X (.builtin "math.lcm") rLcm := by
  intro pins s σ H vs us Q I r h
  obtain ⟨a, b, rfl, ⟨ha, hb⟩, q⟩ := h
  obtain ⟨t, u, rfl⟩ := Vals.int2 r
  have e : (Nat.lcm 1 a.natAbs).lcm b.natAbs = Nat.lcm a.natAbs b.natAbs := by rw [Nat.lcm_one_left]
  refine PySem.W.mg_lcm ha hb (by rw [e]; exact lcm_small ha hb) ?_
  rw [e]
  exact ⟨.int _, H, I.tok _, ⟨_, rfl⟩, q⟩
def fLcm (d e : D) (k : D → Prop) : Prop := match d, e with
  | .int a, .int b => CLcm a b ∧ k (.int ((Nat.lcm a.natAbs b.natAbs : Nat) : Int))
  | _, _ => False
theorem sr_lcm : SR K (fun x y => rLcm [x, y]) fLcm := by
  intro S H x y d e Q R lv hx hy hf q
  unfold fLcm at hf
  split at hf
  · cases hx.int; cases hy.int; exact ⟨_, _, rfl, hf.1, q _ H _ (Ex.refl _) (.int _) hf.2⟩
  · exact hf.elim
theorem s_lcmi {a b : Int} {k : D → Prop} (h : k (.int ((Nat.lcm a.natAbs b.natAbs : Nat) : Int))) (c : CLcm a b) : fLcm (.int a) (.int b) k := ⟨c, h⟩
/-! slices of tuples and of texts -/
def sliceD (d : D) (lo hi : Option Int) : Option D := match d with
  | .tuple ds => some (.tuple (cutG ds lo hi))
  | .str z => if z.length ≤ sizeLine then some (.str (cutS z lo hi)) else none
  | _ => none
def wSlV (w : WL) (wl wh : WO) : WE := fun ρ R E => w ρ (fun L ρ1 => wl ρ1 (fun lo ρ2 => wh ρ2 (fun hi ρ3 => ∃ d z, L ρ3 d ∧ sliceD d lo hi = some z ∧ R z ρ3) E) E) E
theorem dSlV {e : Expr} {lo hi : Option Expr} {p2 pos : Pos} {w : WL} {wl wh : WO} (h : PE X e (cL X.K W w)) (hl : PO X lo (cO X.K W wl)) (hh : PO X hi (cO X.K W wh)) : PE X (.Subscript e (.Slice lo hi none p2) pos) (cE X.K W (wSlV w wl wh)) :=
  peI (pe_slice (SlR.or sl_tupA sl_str) h hl hh) fun σ H Q => by
    rintro ⟨θ, π, α, ρ, R, E, hR, hw, hq, he⟩
    refine ⟨θ, π, α, ρ, _, E, hR, hw, fun α1 v1 H1 L1 ρ1 R1 s1 l1 w1 => ?_, he⟩
    refine ⟨θ, π, α1, ρ1, _, E, R1, w1, fun α2 H2 lo ρ2 R2 s2 w2 => ?_, he.step s1⟩
    refine ⟨θ, π, α2, ρ2, _, E, R2, w2, fun α3 H3 hi ρ3 R3 s3 w3 => ?_, he.step (s1.trans s2)⟩
    obtain ⟨d, z, hd, hz, w3⟩ := w3
    have r3 := l1 α3 H3 ρ3 R3 (s2.trans s3) _ hd
    unfold sliceD at hz
    split at hz
    · rename_i ds
      cases hz
      cases r3 with
      | val hv =>
        cases hv with
        | tup h1 h2 =>
          rename_i a vs
          refine .inl ⟨a, vs, rfl, ex_t hidS_ex h1, fun hwh => ?_, fun _ p hp => ?_⟩
          · have hl : ds.length = vs.length := (dpA_len h2).symm
            have e : cutG ds lo hi = ds := by
              unfold cutG
              rw [hl, hwh.1, hwh.2, List.drop_zero, Nat.sub_zero, ← hl, List.take_length]
            rw [e] at w3
            exact hq α3 _ H3 _ ρ3 R3 ((s1.trans s2).trans s3) (.tup h1 h2) w3
          · exact hq α3 _ _ _ ρ3 (R3.ext (Ex.new hp)) (((s1.trans s2).trans s3).trans (R3.stp (Ex.new hp))) (new_tup R3.live hp (dpA_cut h2)) w3
    · rename_i x
      split at hz
      · rename_i hs
        cases hz
        have ev := r3.str
        subst ev
        exact .inr ⟨x, rfl, hs, hq α3 _ H3 _ ρ3 R3 ((s1.trans s2).trans s3) (.str _) w3⟩
      · cases hz
    · cases hz
theorem s_slV {w : WL} {wl wh : WO} {R : RC} {E : EC} (h : w ρ (fun L ρ1 => wl ρ1 (fun lo ρ2 => wh ρ2 (fun hi ρ3 => ∃ d z, L ρ3 d ∧ sliceD d lo hi = some z ∧ R z ρ3) E) E) E) : wSlV w wl wh ρ R E := h
/-! tuple * int -/
omit [Tbs] in
theorem tuple_mul1 (l : Addr) (items : Array Value) (n : Nat) (sl : Array (Option Value)) (dd : Option Addr) (u : Tok) :
    Meets (Builtin.«tuple.__mul__» ⟨[.ref l, .int 1 u], []⟩) (fun _ R s => s.heap.get? l = some { cls := .type "tuple", dict := dd, data := .seq items n, slots := sl } ∧ R (.ok (.ret (Value.ref l))) s) :=
  .of_wp fun prog w A R s h => by
    obtain ⟨hp, g, d, tk, os⟩ := s
    obtain ⟨hl, h⟩ := h
    have f1 := AutoSeq1.idx_int
    have c1 : (items.isEmpty || (1 : Int) == 1) = true := by simp
    wp_walk using wpAny_loadPart' hl
    repeat (first
      | (refine wpAny_ite_true (decide_eq_true (by rw [c1])) ?_; wp_walk using wpAny_loadPart' hl)
      | (refine wpAny_ite_false (by decide) ?_; wp_walk using wpAny_loadPart' hl))
    exact ⟨_, rfl, h⟩
def rRepA (K : PySem.W.Frag) : R2 := fun x y H Q => ∃ l k xs, x = .ref l ∧ y = .int k ∧ SqT K H l xs ∧ xs ≠ [] ∧ 1 ≤ k ∧ k ≤ 1000 ∧ xs.length ≤ 1000 ∧ (k = 1 → Q (.ref l) H) ∧ (k ≠ 1 → ∀ p, H p = none → Q (.ref p) (upd H p (.tup (List.replicate k.toNat xs).flatten)))
omit [Tbs] in
theorem op_repA : OpR X (binaryOp .Mult) (rRepA X.K) := by
  intro pins s σ H x y v u Q I rx ry h
  obtain ⟨l, k, xs, rfl, rfl, hT, hne, h1, h2, hz, q1, q⟩ := h
  by_cases hk : k = 1
  · subst hk
    cases rx
    obtain ⟨t, rfl⟩ := ry
    obtain ⟨its, r, ⟨⟨cls, dd, data, sl⟩, ho, hc, n, hd⟩, hs⟩ := I.tuple hT
    simp only at hc hd
    subst hc hd
    exact wpAny_binaryOp_repeat_ref (T := "tuple") (U := "int") (by decide) ⟨_, ho, rfl⟩ (fun s' => typeIs_int s' 1 t) noFill_tuple_mul F.fills_int_mul F.slot_int_rmul repeat_tuple F.slot_int_index.lookup
      (call_meets F.slot_int_rmul (typeIs_int s 1 t) F.entry_int_rmul (F.args_int_rmul_2 _ _) (int_rmul_tuple 1 t l its.toArray n dd sl)
        ⟨ho, rfl, ⟨_, ho, rfl⟩, call_meets F.slot_tuple_mul ⟨_, ho, rfl⟩ F.entry_tuple_mul (F.args_tuple_mul_2 _ _) (tuple_mul1 l its.toArray n sl dd t) ⟨ho, ⟨.ref l, H, I, rfl, q1 rfl⟩⟩⟩)
  · exact op_repT pins s σ H _ _ v u Q I rx ry ⟨l, k, xs, rfl, rfl, hT, hne, by omega, h2, hz, q hk⟩
def fRepT (d e : D) (k : D → Prop) : Prop := match d, e with
  | .tuple ds, .int n => ds ≠ [] ∧ 1 ≤ n ∧ n ≤ 1000 ∧ ds.length ≤ 1000 ∧ k (.tuple (List.replicate n.toNat ds).flatten)
  | _, _ => False
theorem dpA_rep {G : Hp} {vs : List V} {ds : List D} (h : DpAll K G vs ds) : ∀ n : Nat, DpAll K G (List.replicate n vs).flatten (List.replicate n ds).flatten
  | 0 => .nil
  | n + 1 => by
    rw [List.replicate_succ, List.replicate_succ, List.flatten_cons, List.flatten_cons]
    exact dpA_app h (dpA_rep h n)
theorem sr_rep : SR K (rRepA K) fRepT := by
  intro S H x y d e Q R lv hx hy hf q
  unfold fRepT at hf
  split at hf
  · rename_i ds n
    obtain ⟨h0, h1, h2, h3, hr⟩ := hf
    have ey := hy.int
    subst ey
    cases hx with
    | val hv =>
      cases hv with
      | tup t1 t2 =>
        rename_i a vs
        have hl := dpA_len t2
        refine ⟨a, n, vs, rfl, rfl, ex_t hidS_ex t1, fun e => ?_, h1, h2, by omega, fun e1 => ?_, fun e1 p hp => ?_⟩
        · rw [e] at hl; exact h0 (List.eq_nil_of_length_eq_zero hl.symm)
        · subst e1
          have e : (List.replicate (Int.toNat 1) ds).flatten = ds := by
            show (List.replicate 1 ds).flatten = ds
            simp
          rw [e] at hr
          exact q _ H _ (Ex.refl _) (.tup t1 t2) hr
        · exact q _ _ _ (Ex.new hp) (new_tup lv hp (dpA_rep t2 _)) hr
  · exact hf.elim
theorem s_rep {ds : List D} {n : Int} {k : D → Prop} (h : k (.tuple (List.replicate n.toNat ds).flatten)) (h0 : ds ≠ []) (h1 : 1 ≤ n) (h2 : n ≤ 1000) (h3 : ds.length ≤ 1000) : fRepT (.tuple ds) (.int n) k := ⟨h0, h1, h2, h3, h⟩
/-! a call without arguments -/
theorem dCallZ {k : Nat} {f : Addr} {fd : FuncData} {ps : List Str} {S : WF} {x : Str} {q pos : Pos} (F : FnOk X.prog X.w X.K X.mg X.base (L2N.CX X.prog X.w) k f fd ps (toSp X.K 0 S)) (hr : Room k X.A) (hg : Gl X x) (hm : X.mg x = some (.ref f)) (hk : PySem.W.keepIn X.K (.ref f) = true) (hb : Binds X.K fd ps [])
    (hdb : (x == ("__debug__" : Str)) = false := by decide) : PE X (.Call (.Name x q) [] [] pos) (cE X.K W (wCall0 S wmNil)) :=
  peI (pe_call0 F hr hg hm hk hb .nil passLN hdb) (can_call0 (fun σ H Q ⟨θ, π, α, ρ, R, E, hR, hw, hq, he⟩ => hq α [] H [] ρ hR (Stp.refl ..) .nil rfl hw))
end
end Den

namespace Den
variable [Tbs]
open PySem L2 Evl PySem.Spec PyProof.Rows
open Classical
section
variable {K : PySem.W.Frag} {W : WX} {X : Cx} {θ : Addr → Prop} {π α : Nat → Option Addr} {σ : L2.St} {H : Hp} {ρ : En} {p : Addr} {o : HO}
/-! xs.pop(), xs a list of one's own: a value, and the list is shorter -/
def wPop (j : Nat) : WE := fun ρ R _ => ownd ρ j fun ds f => ∃ d, ds[ds.length - 1]? = some d ∧ R d (f ds.dropLast)
theorem dpA_dropLast {G : Hp} {vs : List V} {ds : List D} (h : DpAll K G vs ds) : DpAll K G vs.dropLast ds.dropLast := by
  rw [List.dropLast_eq_take, List.dropLast_eq_take, dpA_len h]
  exact dpA_take _ h
theorem dPop {e : Expr} {j : Nat} (h : PE X e (tBM0 K "list" rPop (tVar j))) : PE X e (cE K W (wPop j)) := peI h fun σ H Q ⟨θ, π, α, ρ, R, E, hR, hw, hq, he⟩ => by
  obtain ⟨a, vs, ds, f, hs, h1, hd, ⟨d, hd1, hn⟩, hc⟩ := hR.change hw
  obtain ⟨v, q1, q2⟩ := dpA_get hd hd1
  obtain ⟨r2, s2⟩ := hc vs.dropLast ds.dropLast (dpA_dropLast hd)
  exact ⟨.ref a, hs, .inl ⟨rfl, vs, .inl (.inl h1)⟩, a, vs, v, rfl, rfl, h1, by rw [dpA_len hd]; exact q1, hq α v _ d _ r2 s2 (dp_mono s2.1 q2) hn⟩
theorem s_pop {j : Nat} {R : RC} {E : EC} (h : ownd ρ j fun ds f => ∃ d, ds[ds.length - 1]? = some d ∧ R d (f ds.dropLast)) : wPop j ρ R E := h
end
end Den

namespace Den
variable [Tbs]
open PySem L2 Evl PySem.Spec PyProof.Rows
open Classical
section
variable {K : PySem.W.Frag} {W : WX} {X : Cx} {θ : Addr → Prop} {π α : Nat → Option Addr} {σ : L2.St} {H : Hp} {ρ : En} {p : Addr} {o : HO}
/-! name op= e, both ints -/
def wAug (i : Nat) (g : Int → Int → Int) (w : WE) : WS := fun B ρ => ∃ a, rd ρ i = some (.int a) ∧ w ρ (fun d ρ' => ∃ b, d = .int b ∧ asgV i (.va (.int (g a b))) ρ' B.nx) B.rs
theorem dAug {s : Stmt} {i : Nat} {g : Int → Int → Int} {w : WE} (h : PS X s (tAug i (cE K W w) (ipI g))) : PS X s (cS K W (wAug i g w)) := psI h fun D σ H ⟨θ, π, α, ρ, B, hR, hw, hf⟩ => by
  obtain ⟨a, ha, hw⟩ := hw
  obtain ⟨v, h1, h2⟩ := hR.rd ha
  have := h2.int
  subst this
  refine ⟨_, h1, θ, π, α, ρ, _, _, hR, hw, fun α1 v H1 d ρ1 R1 s1 p1 w1 => ?_, hf.exi⟩
  obtain ⟨b, rfl, w1⟩ := w1
  cases p1
  refine ⟨a, b, rfl, rfl, ?_⟩
  obtain ⟨a1, a2, a3⟩ := asgV_of w1
  obtain ⟨α', r, s⟩ := R1.put a1 a2 (.int (g a b))
  exact hf.nx α' _ H1 _ r (s1.trans s) a3
variable {nx : En → Prop} {rt : D → En → Prop} {rf : List D → En → Prop} {bk ct : En → Prop} {rs : Addr → En → Prop}
theorem s_aug {i : Nat} {g : Int → Int → Int} {w : WE} (a : Int) (h1 : rd ρ i = some (.int a)) (h : w ρ (fun d ρ' => ∃ b, d = .int b ∧ asgV i (.va (.int (g a b))) ρ' nx) rs) : wAug i g w ⟨nx, rt, rf, bk, ct, rs⟩ ρ := ⟨a, h1, h⟩
theorem s_augI {i : Nat} {x b : Int} {ρ' : En} {nx : En → Prop} (h : asgV i (.va (.int x)) ρ' nx) (e : b = x) : asgV i (.va (.int b)) ρ' nx := by rw [e]; exact h
end
end Den

namespace RT
open PySem PySem.Spec PyProof.Rows
section
variable {prog : Program} {w : World} {A : Around} {E : Value → Shared → Prop} {s : Shared}
theorem extend_rev {R : Result → Shared → Prop} {it l : Addr} {items : Array Value} (hh : A.handled = none) (hit : s.heap.IsRevIter it l ((items.size : Int) - 1)) (hl : s.heap.IsList l items) (hne : l ≠ it) (hn : items.size ≤ sizeLine)
    (S : Addr) (res : Value) (c₀ : Nat) (hSi : S ≠ it) (hSl : S ≠ l) (hS : s.heap.get? S = some { cls := .type "list", data := .seq #[] c₀ })
    (hR : ∀ (h' : Heap) (tk : Nat) (acc' : Array Value) (c' : Nat), (∀ b o, b ≠ S → b ≠ it → s.heap.get? b = some o → h'.get? b = some o) → h'.get? S = some { cls := .type "list", dict := none, data := .seq acc' c', slots := #[] } →
      ItemsOf (fun i v => items[items.size - 1 - i]? = some v) acc' items.size → R (.ok (.ret res)) { s with heap := h', toks := tk }) :
    wpAny (model prog w) A.in1 (Builtin.List.listExtendWith (.ref S) (.ref it) res)
      (fun fin s' => match fin with | .done f => R (.ok f) s' | .again c' => c'.quiet = true ∧ codeAny (model prog w) A c' R s') (fun e s' => R (.error e) s') s := by
  have W := (Walks.listRev (prog := prog) (w := w) (A := A.in1) hh it l hne items).toS
  have hSf : S ∉ [it, l] := by simp only [List.mem_cons, List.not_mem_nil, or_false, not_or]; exact ⟨hSi, hSl⟩
  have hT : s.TypeIs (.ref it) "list_reverseiterator" := Heap.IsRevIter.typeIs (s := s) hit
  have h1 : Builtin.List.listSameRef (.ref S) (.ref it) = false := by simp [Builtin.List.listSameRef, hSi]
  unfold Builtin.List.listExtendWith
  refine wpAny_bind (wpAny_typeOf hT ?_)
  rw [if_neg (by rw [h1]; decide)]
  refine wpAny_bind (wpAny_pyIter_revIter (s := s) hit ?_)
  refine wpAny_bind (wpAny_holding ?_)
  unfold Builtin.List.listLengthHint
  refine wpAny_bind (wpAny_specialOf hT nolen_lri ?_)
  show wpAny _ A.in1 (specialOf (Value.ref it) (Str.ofString "__length_hint__") >>= _) _ _ _
  refine wpAny_bind (wpAny_specialOf hT hint_lri ?_)
  generalize hid : ("list_reverseiterator.__length_hint__" : String) = id0
  wp_delta
  rw [show splitId id0 = some ("list_reverseiterator", "__length_hint__") from by subst hid; decide +kernel]
  subst hid
  refine wpAny_bind (wpAny_isInstance (b := true) hT (by rw [isSubtype_type]; kernel_rfl) ?_)
  refine wpAny_pure ?_
  rw [if_neg (by decide)]
  have e0 : ((items.size : Nat) : Int) - 1 - ((0 : Nat) : Int) = (items.size : Int) - 1 := by omega
  refine wpAny_pure ⟨plainId_quiet F.plain_extend_loop _, codeAny_extend_loopS W hn _ hSf _ items.size 0 _ _ _ rfl (Nat.zero_le _) ⟨Nat.zero_le _, by rw [e0]; exact hit, hl⟩ hS (ItemsOf.nil _) fun s' acc' c' hm hS' hacc => ?_⟩
  rw [Moved.eq_with hm]
  refine hR s'.heap s'.toks acc' c' (fun b o hb hi e => hm.heap b o (fun hmem => ?_) e) hS' hacc
  rcases List.mem_cons.mp hmem with e' | hmem
  · exact hb e'
  · exact hi (List.mem_singleton.mp hmem)
theorem list_init_rev {R : Result → Shared → Prop} {it l : Addr} {items : Array Value} (hh : A.handled = none) (hit : s.heap.IsRevIter it l ((items.size : Int) - 1)) (hl : s.heap.IsList l items) (hne : l ≠ it) (hn : items.size ≤ sizeLine)
    (S : Addr) (hSi : S ≠ it) (hSl : S ≠ l) (hS : s.heap.get? S = some { cls := .type "list", data := .seq #[] })
    (hR : ∀ (h' : Heap) (tk : Nat) (acc' : Array Value) (c' : Nat), (∀ b o, b ≠ S → b ≠ it → s.heap.get? b = some o → h'.get? b = some o) → h'.get? S = some { cls := .type "list", dict := none, data := .seq acc' c', slots := #[] } →
      ItemsOf (fun i v => items[items.size - 1 - i]? = some v) acc' items.size → R (.ok (.ret .none)) { s with heap := h', toks := tk }) :
    wpAny (model prog w) A.in1 (Builtin.«list.__init__» ⟨[.ref S, .ref it], []⟩)
      (fun fin s' => match fin with | .done f => R (.ok f) s' | .again c' => c'.quiet = true ∧ codeAny (model prog w) A c' R s') (fun e s' => R (.error e) s') s := by
  show wpAny _ _ (do let old ← Builtin.List.listItems (.ref S); Builtin.List.listUpdate (.ref S) (fun _ => #[]); letGo old.toList.reverse; Builtin.List.listExtendWith (.ref S) (.ref it) .none) _ _ s
  refine wpAny_bind ?_
  unfold Builtin.List.listItems
  refine wpAny_bind (wpAny_seqItems hS rfl (wpAny_pure ?_))
  show wpAny _ _ (updateSeq S (fun _ => #[]) >>= fun _ => letGo (#[] : Array Value).toList.reverse >>= fun _ => Builtin.List.listExtendWith (.ref S) (.ref it) .none) _ _ s
  refine wpAny_bind (wpAny_updateSeq hS rfl ?_)
  have hS₂ := Heap.get?_update_self (Obj.mapSeq (fun _ => (#[] : Array Value))) hS rfl
  have oth : ∀ b o, b ≠ S → s.heap.get? b = some o → (s.heap.update S (Obj.mapSeq (fun _ => (#[] : Array Value)))).get? b = some o :=
    fun b o hb e => (Heap.get?_update_other _ _ (Ne.symm hb)).trans e
  refine wpAny_bind (wpAny_letGo ?_)
  obtain ⟨oi, hoi, hc1, hd1⟩ := id hit
  obtain ⟨ol, hol, hc2⟩ := id hl
  refine extend_rev hh ⟨oi, oth it _ (Ne.symm hSi) hoi, hc1, hd1⟩ ⟨ol, oth l _ (Ne.symm hSl) hol, hc2⟩ hne hn S .none _ hSi hSl hS₂ fun h' tk acc' c' hk hS' hacc => ?_
  exact hR h' tk acc' c' (fun b o hb hi e => hk b o hb hi (oth b o hb e)) hS' hacc
theorem call_list_rev {Q : Value → Shared → Prop} {it l : Addr} {items : Array Value} (hh : A.handled = none) (hit : s.heap.IsRevIter it l ((items.size : Int) - 1)) (hl : s.heap.IsList l items) (hne : l ≠ it) (hn : items.size ≤ sizeLine)
    (hQ : ∀ (h' : Heap) (tk : Nat) (acc' : Array Value) (c' : Nat), (∀ b o, b ≠ it → s.heap.get? b = some o → h'.get? b = some o) →
      h'.get? s.heap.objs.size = some { cls := .type "list", dict := none, data := .seq acc' c', slots := #[] } → ItemsOf (fun i v => items[items.size - 1 - i]? = some v) acc' items.size → Q (.ref s.heap.objs.size) { s with heap := h', toks := tk }) :
    wpAny (model prog w) A (call (.type "list") [.ref it]) Q E s := by
  refine callType_codes (Q₁ := fun obj s₁ => obj = .ref s.heap.objs.size ∧ s₁ = { s with heap := s.heap.push { cls := .type "list", data := .seq #[] } }) F.called_list (F.typeCall_list_1 _) F.entry_list_init
    (code_list_new _ ⟨rfl, rfl⟩) fun obj s₁ h₁ => ?_
  obtain ⟨rfl, rfl⟩ := h₁
  have hS : (s.heap.push { cls := .type "list", data := .seq #[] }).get? s.heap.objs.size = some { cls := .type "list", data := .seq #[] } := Heap.get?_push_size _ rfl
  obtain ⟨oi, hoi, hc1⟩ := id hit
  obtain ⟨ol, hol, hc2⟩ := id hl
  refine ⟨⟨_, hS, rfl⟩, F.args_list_init_2 _ _, list_init_rev (A := A.in1) hh ⟨oi, Heap.get?_push_of_some _ hoi, hc1⟩ ⟨ol, Heap.get?_push_of_some _ hol, hc2⟩ hne hn _ (Nat.ne_of_gt (Heap.lt_size hoi)) (Nat.ne_of_gt (Heap.lt_size hol)) hS fun h' tk acc' c' hk hS' hacc => ?_⟩
  exact ⟨rfl, hQ h' tk acc' c' (fun b o hi e => hk b o (Nat.ne_of_lt (Heap.lt_size e)) hi (Heap.get?_push_of_some _ e)) hS' hacc⟩
end
end RT
namespace L2
open PySem PySem.Spec PyProof.Rows RT
/-- list(reversed(x)), x a list: a new list -/
def tLstRev (K : PySem.W.Frag) (te : TE) : TE := fun σ H Q => te σ H fun v H1 => ∃ (a : Addr) (xs : List V), v = .ref a ∧ SqL K H1 a xs ∧ ∀ q, H1 q = none → Q (.ref q) (upd H1 q (.lst xs.reverse))
section
variable {X : Cx}
theorem pe_lstRev {e : Expr} {te : TE} {p p2 pos pos2 : Pos} (hc : X.calm = true) (hg : Gl X "list") (hm : X.mg "list" = none) (hg2 : Gl X "reversed") (hm2 : X.mg "reversed" = none) (he : PE X e te)
    (hs : starEach [e] X.env = (false, eval e X.env) :: starEach [] X.env := by rfl)
    (hs2 : starEach [.Call (.Name "reversed" p2) [e] [] pos2] X.env = (false, eval (.Call (.Name "reversed" p2) [e] [] pos2) X.env) :: starEach [] X.env := by rfl) :
    PE X (.Call (.Name "list" p) [.Call (.Name "reversed" p2) [e] [] pos2] [] pos) (tLstRev X.K te) := by
  refine ⟨fun pins s σ H Q I h => ?_⟩
  refine Call_ (ld_blt I hg hm boot_list (PyProof.Rows.callWith_type1 (args_cons (Call_ (ld_blt I hg2 hm2 PyProof.Rows.boot_reversed (PyProof.Rows.callWith_type1 (args_cons (thn (he.run pins s σ H _ I h) fun u s1 ⟨v, H1, I1, r1, q1⟩ => args_nil ?_) hs) hs rfl))) hs2) hs2 rfl))
  obtain ⟨a, xs, ev, hq, q⟩ := q1
  subst ev
  obtain rfl : u = Value.ref a := r1
  obtain ⟨its, rv, p', hz⟩ := I1.list hq
  refine call_reversed_list p'.isList (args_nil ?_)
  have k0 : ∀ b o, s1.heap.get? b = some o → (s1.heap.push (revObj a ((its.toArray.size : Int) - 1))).get? b = some o := fun b o e => Heap.get?_push_of_some _ e
  have I2 : Inv X pins σ H1 { s1 with heap := s1.heap.push (revObj a ((its.toArray.size : Int) - 1)) } := I1.kept (t' := s1.toks) k0
  have hl := p'.isList
  obtain ⟨ol, hol, _⟩ := id hl
  have hne : a ≠ s1.heap.objs.size := Nat.ne_of_lt (Heap.lt_size hol)
  have hn : its.toArray.size ≤ sizeLine := by rw [List.size_toArray, ← rv.length]; exact hz
  refine call_list_rev (s := { s1 with heap := s1.heap.push (revObj a ((its.toArray.size : Int) - 1)) }) (I1.ok.hd hc) ⟨_, Heap.get?_push_size _ rfl, rfl, rfl⟩ (hl.push _) hne hn fun h' tk acc c' hk e' hi => ?_
  have hsz : (s1.heap.push (revObj a ((its.toArray.size : Int) - 1))).objs.size = s1.heap.objs.size + 1 := by simp [Heap.push]
  have hfr : H1 (s1.heap.push (revObj a ((its.toArray.size : Int) - 1))).objs.size = none := I2.hok.fresh (Nat.le_refl _)
  have hneS : s1.heap.objs.size ≠ (s1.heap.push (revObj a ((its.toArray.size : Int) - 1))).objs.size := by rw [hsz]; omega
  obtain ⟨f0, f1, f2, f3, f4, f5⟩ := I1.fpOk (H' := upd H1 (s1.heap.push (revObj a ((its.toArray.size : Int) - 1))).objs.size (.lst xs.reverse)) (b := s1.heap.objs.size) (Nat.le_refl _) (by rw [upd_ne hneS]; exact I1.hok.fresh (Nat.le_refl _))
  have I3 : Inv X pins σ (upd H1 (s1.heap.push (revObj a ((its.toArray.size : Int) - 1))).objs.size (.lst xs.reverse)) { s1 with heap := (s1.heap.push (revObj a ((its.toArray.size : Int) - 1))).push { cls := .type "list", dict := none, data := .seq acc c', slots := #[] } } :=
    I2.laid (t' := s1.toks) (fun c o e => Heap.get?_push_of_some _ e) (Nat.le_refl _) (show ObjOk X.prog X.w _ _ _ (.lst xs.reverse) from ⟨by rw [List.length_reverse]; exact hz, acc.toList, c', vals_rev rv hi, by rw [Array.toArray_toList]; exact Heap.get?_push_size _ rfl⟩)
  have I4 : Inv X pins σ (upd H1 (s1.heap.push (revObj a ((its.toArray.size : Int) - 1))).objs.size (.lst xs.reverse)) { s1 with heap := h', toks := tk } := by
    have I5 := I3.turned (h' := h') (t' := tk) (it := s1.heap.objs.size) (fun b o hb e => by
      rcases Heap.get?_push_cases e with ⟨rfl, rfl⟩ | e
      · exact e'
      · exact hk b o hb e) f0 f1 f3 f4 f5
    exact I5
  exact ⟨.ref _, _, I4, rfl, q _ hfr⟩
end
end L2
namespace Den
variable [Tbs]
open PySem L2 Evl PySem.Spec PyProof.Rows
open Classical
section
variable {K : PySem.W.Frag} {W : WX} {X : Cx} {θ : Addr → Prop} {π α : Nat → Option Addr} {σ : L2.St} {H : Hp} {ρ : En} {p : Addr} {o : HO}
/-! list(reversed(x)): a new list -/
def wRevL (w : WL) : WA := fun ρ R E => w ρ (fun L ρ1 => ∃ ds, L ρ1 (.list ds) ∧ R ds.reverse ρ1) E
theorem dpA_reverse {G : Hp} : ∀ {vs : List V} {ds : List D}, DpAll K G vs ds → DpAll K G vs.reverse ds.reverse
  | _, _, .nil => .nil
  | _, _, .cons h hs => by
    rw [List.reverse_cons, List.reverse_cons]
    exact dpA_app (dpA_reverse hs) (.cons h .nil)
theorem dRevL {e a : Expr} {w : WL} (h : ∀ ta, PE X a ta → PE X e (tLstRev X.K ta)) (ha : PE X a (cL X.K W w)) : PE X e (cF X.K W (wRevL w)) :=
  peI (h _ ha) fun σ H Q ⟨θ, π, α, ρ, R, E, hR, hw, hq, he⟩ => by
    refine ⟨θ, π, α, ρ, _, E, hR, hw, fun α1 v1 H1 L1 ρ1 R1 s1 l1 w1 => ?_, he⟩
    obtain ⟨ds, hd, hk⟩ := w1
    obtain ⟨a, vs, rfl, h1, h2⟩ := (l1 α1 H1 ρ1 R1 (Stp.refl ..) _ hd).lst
    refine ⟨a, vs, rfl, h1, fun p hp => ?_⟩
    have e := hid_new (θ := θ) (α := α1) (o := .lst vs.reverse) hp
    exact hq α1 p _ _ _ ρ1 (R1.hideNew hp) ⟨by rw [e]; exact s1.1, fun b hb => (s1.2 b hb).trans ((R1.stpNew hp).2 b hb)⟩ (fun z => R1.lv p z hp) upd_same (by rw [e]; exact dpA_reverse h2) hk
theorem s_revL {w : WL} {A : List D → En → Prop} {E : EC} (h : w ρ (fun L ρ1 => ∃ ds, L ρ1 (.list ds) ∧ A ds.reverse ρ1) E) : wRevL w ρ A E := h
end
end Den

set_option maxHeartbeats 4000000
namespace L2
open PySem PySem.Spec PyProof.Rows HT
section
variable {prog : Program} {w : World} {A : Around} {E : Value → Shared → Prop} {s : Shared}
/-- t[::-1] -/
theorem getItem_tuple_rev {t sl : Addr} {items : Array Value} {vs : Value} {Q : Value → Shared → Prop} (ht : IsTup s.heap t items) (hs : s.heap.IsSliceOf sl .none .none vs) (ps : IsPart vs (some (-1))) (hz : items.size ≤ sizeLine)
    (h : Q (.ref s.heap.objs.size) { s with heap := s.heap.push { cls := .type "tuple", data := .seq items.toList.reverse.toArray } }) : wpAny (model prog w) A (getItem (.ref t) (.ref sl)) Q E s := by
  obtain ⟨os, hos, hcs, hds⟩ := id hs
  have hTs : s.TypeIs (.ref sl) "slice" := ⟨os, hos, hcs⟩
  unfold getItem
  try with_reducible refine wpAny_holding ?_
  first | refine wpAny_bind (wpAny_pure ?_) | skip
  refine wpAny_bind (wpAny_sequenceKey ht.typeIs (by decide) ?_)
  refine wpAny_bind (wpAny_callSpecial?_slot (name := Str.ofString "__getitem__") ht.typeIs PyProof.Rows.slot_tuple_getitem
    (wpAny_call_entry PyProof.Rows.slot_tuple_getitem ht.typeIs entry_tuple_getitem ?_ (args_tuple_getitem _ _)))
  show wpAny _ _ (Builtin.Tuple.tupleItemsOf (.ref t) >>= _) _ _ s
  refine wpAny_bind (tupleItemsOf_ ht ?_)
  refine wpAny_bind (wpAny_typeOf hTs ?_)
  rw [if_pos (by decide)]
  refine wpAny_bind (m := Builtin.Slice.sliceApplied _ _) (Q := _) ?_
  unfold Builtin.Slice.sliceApplied Builtin.Slice.sliceFields
  refine wpAny_bind (wpAny_bind (wpAny_field hos hds (x := .none) rfl (wpAny_bind (wpAny_field hos hds (x := .none) rfl (wpAny_bind (wpAny_field hos hds (x := vs) rfl (wpAny_pure ?_)))))))
  show wpAny _ _ (Builtin.Slice.slicePartIndex vs >>= _) _ _ s
  refine wpAny_bind (slicePart_ ps ?_)
  show wpAny _ _ (if ((-1 : Int) == 0) = true then _ else _) _ _ s
  rw [if_neg (by decide)]
  refine wpAny_bind (slicePart_none (wpAny_bind (slicePart_none (wpAny_bind (wpAny_pure ?_)))))
  have ea : Builtin.Slice.sliceAdjust none none (-1) (items.size : Int) = ((items.size : Int) - 1, -1) := by
    unfold Builtin.Slice.sliceAdjust
    rfl
  have ep : Builtin.Slice.slicePlaces ((items.size : Int) - 1) (-1) (-1) = items.size := by
    unfold Builtin.Slice.slicePlaces
    rw [if_neg (by decide)]
    split
    · rw [show (- -1 : Int) = 1 by decide, Int.ediv_one]; omega
    · omega
  show wpAny _ _ (match Builtin.Slice.sliceAdjust none none (-1) (items.size : Int) with | (lo, hi) => pure (lo, (-1 : Int), Builtin.Slice.slicePlaces lo hi (-1))) _ _ s
  rw [ea]
  show wpAny _ _ (pure ((items.size : Int) - 1, (-1 : Int), Builtin.Slice.slicePlaces ((items.size : Int) - 1) (-1) (-1))) _ _ s
  rw [ep]
  refine wpAny_pure ?_
  have hno : ¬ (((items.size : Int) - 1 == 0 && (-1 : Int) == 1 && items.size == items.size) = true) := by simp
  show wpAny _ _ (if ((items.size : Int) - 1 == 0 && (-1 : Int) == 1 && items.size == items.size) = true then _ else _) _ _ s
  rw [if_neg hno]
  have epk : ((List.range items.size).filterMap fun (k : Nat) => items[((items.size : Int) - 1 + (k : Int) * (-1)).toNat]?) = items.toList.reverse := by
    have e1 : ((List.range items.size).filterMap fun (k : Nat) => items[((items.size : Int) - 1 + (k : Int) * (-1)).toNat]?) = ((List.range items.size).map fun k => items.size - 1 - k).filterMap (items[·]?) := by
      rw [List.filterMap_map]
      have gen : ∀ l : List Nat, (∀ k ∈ l, k < items.size) → l.filterMap (fun (k : Nat) => items[((items.size : Int) - 1 + (k : Int) * (-1)).toNat]?) = l.filterMap ((fun x => items[x]?) ∘ fun k => items.size - 1 - k) := by
        intro l
        induction l with
        | nil => intro _; rfl
        | cons k l ih =>
          intro h
          have hk := h k List.mem_cons_self
          have e2 : ((items.size : Int) - 1 + (k : Int) * (-1)).toNat = items.size - 1 - k := by omega
          rw [List.filterMap_cons, List.filterMap_cons, ih fun j m => h j (List.mem_cons_of_mem _ m), e2]
          rfl
      exact gen _ fun k hk => List.mem_range.mp hk
    rw [e1, PySem.W.krv_range, List.filterMap_reverse, PySem.W.krv_all]
  rw [epk]
  refine wpAny_bind ?_
  unfold Builtin.Tuple.tupleExact
  refine wpAny_newObj_type ?_ (by show items.toList.reverse.toArray.size ≤ sizeLine; simpa using hz)
  exact wpAny_pure ⟨_, rfl, wpAny_pure h⟩
end
/-- t[::-1], a tuple -/
def tRevT (K : PySem.W.Frag) (te : TE) : TE := fun σ H Q => te σ H fun x H1 => ∃ a xs, x = .ref a ∧ SqT K H1 a xs ∧ ∀ p, H1 p = none → Q (.ref p) (upd H1 p (.tup xs.reverse))
section
variable {X : Cx}
theorem pe_revT {e : Expr} {te : TE} {k : Nat} {p1 p2 p3 pos : Pos} (he : PE X e te) : PE X (.Subscript e (.Slice none none (some (.UnaryOp .USub (.Constant (.int 1) k p1) p2)) p3) pos) (tRevT X.K te) := by
  refine ⟨fun pins s σ H Q I h => ?_⟩
  refine Subscript_ (thn (he.run pins s σ H _ I h) fun v s1 ⟨x, H1, I1, r1, q1⟩ => ?_)
  obtain ⟨a, xs, ex, hx, q⟩ := q1
  subst ex
  cases r1
  have hst : PO X (some (.UnaryOp .USub (.Constant (.int 1) k p1) p2)) (tPart (tUn (rU fun i => .int (-i)) (tC (.int 1)))) := po_some (pe_un un_neg pe_int)
  refine wpAny_Slice (thn (po_none.run pins s1 σ H1 (fun o H2 => o = none ∧ H2 = H1) I1 ⟨rfl, rfl⟩) fun vl s2 ⟨l, H2, I2, pl, el, e2⟩ => ?_)
  subst el e2
  refine thn (po_none.run pins s2 σ H2 (fun o H3 => o = none ∧ H3 = H2) I2 ⟨rfl, rfl⟩) fun vu s3 ⟨u, H3, I3, pu, eu, e3⟩ => ?_
  subst eu e3
  refine thn (hst.run pins s3 σ H3 (fun o H4 => o = some (-1) ∧ H4 = H3) I3 ⟨1, rfl, -1, rfl, rfl, rfl⟩) fun vs s4 ⟨o, H4, I4, ps, eo, e4⟩ => ?_
  subst eo e4
  have I5 : Inv X pins σ H4 { s4 with heap := s4.heap.push { cls := .type "slice", data := .fields #[vl, vu, vs] } } := I4.kept (t' := s4.toks) fun b ob q => Heap.get?_push_of_some _ q
  obtain ⟨its, r, ht, hz⟩ := I5.tuple hx
  have hlen := r.length
  cases pl
  cases pu
  show wpAny (model X.prog X.w) X.A (subscriptTail e (.Slice none none (some (.UnaryOp .USub (.Constant (.int 1) k p1) p2)) p3) (.ref a) (.ref s4.heap.objs.size)) (EP X pins σ Q) X.xe { s4 with heap := s4.heap.push { cls := .type "slice", data := .fields #[.none, .none, vs] } }
  refine tail_any (ops := [.ref a, .ref s4.heap.objs.size]) ht.typeIs (PyProof.Rows.slot_tuple_getitem.lookup) ?_ (by with_unfolding_all rfl)
  refine getItem_tuple_rev ht (Heap.IsSliceOf.new _ .none .none vs) ps (by rw [List.size_toArray]; omega) ?_
  refine ⟨.ref _, _, I5.laid (t' := s4.toks) (o := .tup xs.reverse) (fun b ob q => Heap.get?_push_of_some _ q) (Nat.le_refl _) ?_, rfl, q _ (I5.hok.fresh (Nat.le_refl _))⟩
  exact ⟨by rw [List.length_reverse]; exact hz, its.reverse, r.reverse, by
    have e : its.toArray.toList.reverse.toArray = its.reverse.toArray := by simp
    rw [← e]
    exact IsTup.new _ _⟩
end
end L2
namespace Den
variable [Tbs]
open PySem L2 Evl PySem.Spec PyProof.Rows
open Classical
section
variable {K : PySem.W.Frag} {W : WX} {X : Cx} {θ : Addr → Prop} {π α : Nat → Option Addr} {σ : L2.St} {H : Hp} {ρ : En} {p : Addr} {o : HO}
/-! the signs of a text -/
def chD (x : Str) : List D := x.cps.toList.map fun c => .str ⟨#[c]⟩
theorem walks_str {x : Str} {G : Hp} : Walks K (Its x) G (chD x) := fun S2 H2 i hl hx => by
  refine ⟨fun e => ?_, fun d hi => ?_⟩
  · show x.cps.size ≤ i
    rw [e]; simp [chD]
  · unfold chD at hi
    rw [List.getElem?_map] at hi
    obtain ⟨c, hc, rfl⟩ := Option.map_eq_some_iff.mp hi
    rw [Array.getElem?_toList] at hc
    obtain ⟨h1, _⟩ := Array.getElem?_eq_some_iff.mp hc
    refine ⟨h1, fun y H3 ⟨e, c', q, z⟩ => ?_⟩
    subst e
    rw [hc] at q
    cases q
    subst z
    exact ⟨Ex.refl _, .str _⟩
/-- over a list, a tuple, a text -/
def iLTS (K : PySem.W.Frag) (tl : TE) : TI := fun σ H R => tl σ H fun x H1 => (∃ a, x = .ref a ∧ (((∃ xs, SqL K H1 a xs) ∧ R (Itl K a) H1) ∨ ((∃ xs, SqT K H1 a xs) ∧ R (Itt K a) H1))) ∨ ∃ z, x = .str z ∧ R (Its z) H1
theorem pi_lts {tg l : Expr} {tl : TE} (hl : PE X l tl) : PI X tg l (iLTS X.K tl) := by
  refine ⟨fun pins s σ H R I h => ?_⟩
  refine thn (hl.run pins s σ H _ I h) fun v s1 ⟨x, H1, I1, r1, q1⟩ => ?_
  rcases q1 with ⟨a, e, q1⟩ | ⟨x, e, q⟩
  · subst e
    cases r1
    rcases q1 with ⟨⟨xs, hq⟩, q⟩ | ⟨⟨xs, hq⟩, q⟩
    · obtain ⟨its, rv, p, hz⟩ := I1.list hq
      refine wpAny_pyIter_list p.isList ?_
      refine ⟨s1.heap.objs.size, [s1.heap.objs.size], _, _, H1, rfl, I1.kept (t' := s1.toks) fun b o e => Heap.get?_push_of_some _ e, turn_list a _, ⟨_, Heap.get?_push_size _ rfl, rfl, rfl⟩, fun b hb => ?_, q⟩
      have e : b = s1.heap.objs.size := by simpa using hb
      subst e
      exact I1.fpOk (Nat.le_refl _) (I1.hok.fresh (Nat.le_refl _))
    · obtain ⟨its, rv, p, hz⟩ := I1.tuple hq
      refine wpAny_pyIter_tuple (show s1.heap.IsTuple a its.toArray from p) ?_
      refine ⟨s1.heap.objs.size, [s1.heap.objs.size], _, _, H1, rfl, I1.kept (t' := s1.toks) fun b o e => Heap.get?_push_of_some _ e, turn_tuple a _, ⟨_, Heap.get?_push_size _ rfl, rfl, rfl⟩, fun b hb => ?_, q⟩
      have e : b = s1.heap.objs.size := by simpa using hb
      subst e
      exact I1.fpOk (Nat.le_refl _) (I1.hok.fresh (Nat.le_refl _))
  · subst e
    obtain ⟨t, rfl⟩ := r1
    cases ha : x.cps.all (· < 128)
    · exact wpAny_pyIter_wide ha (pi_one (tk := s1.toks) I1 _ (turn_str _ x t "str_iterator" (.inr rfl)) ⟨_, Heap.get?_push_size _ rfl, rfl, rfl⟩ q)
    · exact wpAny_pyIter_ascii ha (pi_one (tk := s1.toks) I1 _ (turn_str _ x t "str_ascii_iterator" (.inl rfl)) ⟨_, Heap.get?_push_size _ rfl, rfl, rfl⟩ q)
def itD : D → Option (List D)
  | .list ds => some ds
  | .tuple ds => some ds
  | .str x => some (chD x)
  | _ => none
def wiU (w : WE) : WI := fun ρ R E => w ρ (fun d ρ' => ∃ ds, itD d = some ds ∧ R ds ρ') E
theorem diU {tg e : Expr} {w : WE} (h : PI X tg e (iLTS K (cE K W w))) : PI X tg e (cI K W (wiU w)) := piI h fun σ H Q ⟨θ, π, α, ρ, R, E, hR, hw, hq, he⟩ =>
  ⟨θ, π, α, ρ, _, E, hR, hw, fun α1 v H1 d ρ1 R1 s1 p1 w1 => by
    obtain ⟨ds, e, w1⟩ := w1
    cases p1 with
    | lst h1 hs => cases e; exact .inl ⟨_, rfl, .inl ⟨⟨_, ex_l hidS_ex h1⟩, hq α1 _ H1 _ ρ1 R1 s1 (walks_list h1 hs) w1⟩⟩
    | tup h1 hs => cases e; exact .inl ⟨_, rfl, .inr ⟨⟨_, ex_t hidS_ex h1⟩, hq α1 _ H1 _ ρ1 R1 s1 (walks_tup h1 hs) w1⟩⟩
    | str x => cases e; exact .inr ⟨_, rfl, hq α1 _ H1 _ ρ1 R1 s1 walks_str w1⟩
    | non => cases e
    | bl b => cases e
    | int i => (cases e), he⟩
theorem s_iU {w : WE} {G : List D → En → Prop} {E : EC} (h : w ρ (fun d ρ' => ∃ ds, itD d = some ds ∧ G ds ρ') E) : wiU w ρ G E := h
/-! a sign in a text -/
def occS (i j : Str) : Bool := !(Builtin.Str.occurrences j i 0 j.length 1).isEmpty
def fInS (neg : Bool) (d e : D) (k : D → Prop) : Prop := match d, e with
  | .str i, .str j => k (.bool (if neg then !occS i j else occS i j))
  | _, _ => False
theorem sr_inS : SR K (fun x y H Q => ∃ i j, x = .str i ∧ y = .str j ∧ Q (.bl (!(Builtin.Str.occurrences j i 0 j.length 1).isEmpty)) H) (fInS false) := by
  intro S H x y d e Q R lv hx hy hf q
  unfold fInS at hf
  split at hf
  · cases hx.str; cases hy.str
    exact ⟨_, _, rfl, rfl, q _ H _ (Ex.refl _) (.bl _) hf⟩
  · exact hf.elim
theorem sr_ninS : SR K (fun x y H Q => ∃ i j, x = .str i ∧ y = .str j ∧ Q (.bl (!(!(Builtin.Str.occurrences j i 0 j.length 1).isEmpty))) H) (fInS true) := by
  intro S H x y d e Q R lv hx hy hf q
  unfold fInS at hf
  split at hf
  · cases hx.str; cases hy.str
    exact ⟨_, _, rfl, rfl, q _ H _ (Ex.refl _) (.bl _) hf⟩
  · exact hf.elim
theorem s_inS {i j : Str} {k : D → Prop} (h : k (.bool (occS i j))) : fInS false (.str i) (.str j) k := h
theorem s_ninS {i j : Str} {k : D → Prop} (h : k (.bool (!occS i j))) : fInS true (.str i) (.str j) k := h
/-! list(range(a, b)) -/
def wRgL (wa wb : WL) : WA := fun ρ R E => wa ρ (fun La ρ1 => wb ρ1 (fun Lb ρ2 => ∃ a b : Int, La ρ2 (.int a) ∧ Lb ρ2 (.int b) ∧ RgOk a b ∧ R (rng a (b - a).toNat) ρ2) E) E
theorem rgV_dp {G : Hp} {a b : Int} : DpAll K G (rgV a b) (rng a (b - a).toNat) := by
  unfold rgV rng
  generalize List.range (b - a).toNat = l
  induction l with
  | nil => exact .nil
  | cons x l ih => exact .cons (.int _) ih
theorem dRgL {e ea eb : Expr} {wa wb : WL} (h : ∀ ta tb, PE X ea ta → PE X eb tb → PE X e (tLstRg (tRg2 ta tb))) (ha : PE X ea (cL X.K W wa)) (hb : PE X eb (cL X.K W wb)) : PE X e (cF X.K W (wRgL wa wb)) :=
  peI (h _ _ ha hb) fun σ H Q ⟨θ, π, α, ρ, R, E, hR, hw, hq, he⟩ => by
    refine ⟨θ, π, α, ρ, _, E, hR, hw, fun α1 v1 H1 L1 ρ1 R1 s1 l1 w1 => ?_, he⟩
    refine ⟨θ, π, α1, ρ1, _, E, R1, w1, fun α2 v2 H2 L2 ρ2 R2 s2 l2 w2 => ?_, he.step s1⟩
    obtain ⟨a, b, z1, z2, ok, hk⟩ := w2
    have e1 := (l1 α2 H2 ρ2 R2 s2 _ z1).int
    have e2 := (l2 α2 H2 ρ2 R2 (Stp.refl ..) _ z2).int
    subst e1 e2
    refine ⟨a, b, rfl, rfl, ok, fun p hp => ?_⟩
    have e := hid_new (θ := θ) (α := α2) (o := .lst (rgV a b)) hp
    exact hq α2 p _ _ _ ρ2 (R2.hideNew hp) ⟨by rw [e]; exact s1.1.trans s2.1, fun b hb => ((s1.2 b hb).trans (s2.2 b hb)).trans ((R2.stpNew hp).2 b hb)⟩ (fun z => R2.lv p z hp) upd_same rgV_dp hk
theorem s_rgL {wa wb : WL} {A : List D → En → Prop} {E : EC} (h : wa ρ (fun La ρ1 => wb ρ1 (fun Lb ρ2 => ∃ a b : Int, La ρ2 (.int a) ∧ Lb ρ2 (.int b) ∧ RgOk a b ∧ A (rng a (b - a).toNat) ρ2) E) E) : wRgL wa wb ρ A E := h
/-! t[::-1] of a tuple -/
def wRevT (w : WL) : WE := fun ρ R E => w ρ (fun L ρ1 => ∃ ds, L ρ1 (.tuple ds) ∧ R (.tuple ds.reverse) ρ1) E
theorem dRevT {e a : Expr} {w : WL} (h : ∀ ta, PE X a ta → PE X e (tRevT X.K ta)) (ha : PE X a (cL X.K W w)) : PE X e (cE X.K W (wRevT w)) :=
  peI (h _ ha) fun σ H Q ⟨θ, π, α, ρ, R, E, hR, hw, hq, he⟩ => by
    refine ⟨θ, π, α, ρ, _, E, hR, hw, fun α1 v1 H1 L1 ρ1 R1 s1 l1 w1 => ?_, he⟩
    obtain ⟨ds, hd, hk⟩ := w1
    obtain ⟨a, vs, rfl, h1, h2⟩ := (l1 α1 H1 ρ1 R1 (Stp.refl ..) _ hd).tup
    refine ⟨a, vs, rfl, h1, fun p hp => ?_⟩
    exact hq α1 _ _ _ ρ1 (R1.ext (Ex.new hp)) (s1.trans (R1.stp (Ex.new hp))) (new_tup R1.live hp (dpA_reverse h2)) hk
theorem s_revT {w : WL} {R : RC} {E : EC} (h : w ρ (fun L ρ1 => ∃ ds, L ρ1 (.tuple ds) ∧ R (.tuple ds.reverse) ρ1) E) : wRevT w ρ R E := h
/-! whether a list has an item -/
def wTl (w : WL) : WT := fun ρ R E => w ρ (fun L ρ' => ∃ ds, L ρ' (.list ds) ∧ R (!ds.isEmpty) ρ') E
theorem dTl {e : Expr} {w : WL} (h : PE X e (cL X.K W w)) (he : ∀ whole, isTrue e X.env whole = (do let v ← whole; standAt e.pos; holding [v] (truthy v)) := by intro _; rfl) : PT X e (cT X.K W (wTl w)) :=
  ptI (pt_truth h he) fun σ H Q ⟨θ, π, α, ρ, R, E, hR, hw, hq, hx⟩ => by
    refine ⟨θ, π, α, ρ, _, E, hR, hw, fun α1 v1 H1 L1 ρ1 R1 s1 l1 w1 => ?_, hx⟩
    obtain ⟨ds, hd, w1⟩ := w1
    obtain ⟨a, vs, rfl, h1, h2⟩ := (l1 α1 H1 ρ1 R1 (Stp.refl ..) _ hd).lst
    refine ⟨_, .inl ⟨vs, h1, rfl⟩, ?_⟩
    have e : vs.isEmpty = ds.isEmpty := by
      have := dpA_len h2
      cases vs <;> cases ds <;> simp_all
    rw [e]
    exact hq α1 H1 _ ρ1 R1 s1 w1
theorem s_Tl {w : WL} {T : Bool → En → Prop} {E : EC} (h : w ρ (fun L ρ' => ∃ ds, L ρ' (.list ds) ∧ T (!ds.isEmpty) ρ') E) : wTl w ρ T E := h
end
end Den
namespace Den
variable [Tbs]
open PySem L2 Evl PySem.Spec PyProof.Rows
open Classical
section
variable {K : PySem.W.Frag} {W : WX} {X : Cx} {θ : Addr → Prop} {π α : Nat → Option Addr} {σ : L2.St} {H : Hp} {ρ : En} {p : Addr} {o : HO}
/-! xs.extend(a new list) -/
def wExt (j : Nat) (w : WA) : WS := fun B ρ => (∃ k, ownd ρ j k) ∧ w ρ (fun es ρ' => ownd ρ' j fun ds f => ds.length + es.length ≤ sizeLine ∧ B.nx (f (ds ++ es))) B.rs
theorem dExt {j : Nat} {s : Stmt} {w : WA} (h : PS X s (tDrop (tBM K "list" rExtend (tVar j) (tCons (cF K W w) tNil)))) : PS X s (cS K W (wExt j w)) := psI h fun D σ H ⟨θ, π, α, ρ, B, hR, hw, hf⟩ => by
  obtain ⟨⟨k0, hk0⟩, hw⟩ := hw
  obtain ⟨a0, vs0, ds0, f0, hs0, h0, _, _, _⟩ := hR.change hk0
  refine ⟨.ref a0, hs0, .inl ⟨rfl, vs0, .inl (.inl h0)⟩, θ, π, α, ρ, _, _, hR, hw, fun α1 p zs H1 es ρ1 R1 s1 np h1 p1 w1 => ?_, hf.exi⟩
  obtain ⟨R2, hx⟩ := R1.unhide np h1
  obtain ⟨a, vs, ds, f, hs, h2, hd, ⟨hl, hn⟩, hc⟩ := R2.change w1
  rw [hs0] at hs
  cases hs
  obtain ⟨r3, s3⟩ := hc (vs ++ zs) (ds ++ es) (dpA_app hd (dpA_mono hx p1))
  exact ⟨a0, p, vs, zs, rfl, rfl, h2, h1, by rw [dpA_len hd, dpA_len p1]; exact hl, hf.nx α1 σ _ _ r3 ((show Stp θ α H α1 H1 from ⟨s1.1.trans hx, s1.2⟩).trans s3) hn⟩
variable {nx : En → Prop} {rt : D → En → Prop} {rf : List D → En → Prop} {bk ct : En → Prop} {rs : Addr → En → Prop}
theorem s_ext {j : Nat} {w : WA} (h : (∃ k, ownd ρ j k) ∧ w ρ (fun es ρ' => ownd ρ' j fun ds f => ds.length + es.length ≤ sizeLine ∧ nx (f (ds ++ es))) rs) : wExt j w ⟨nx, rt, rf, bk, ct, rs⟩ ρ := h
/-! a def that calls itself: nothing is promised at the bottom -/
theorem fn_none {k : Nat} {f : Addr} {fd : FuncData} {ps : List Str} {P : Program} {w : World} {mg : Str → Option Value} {base : Heap} {n : Nat} {S : WF} (h : ∀ pr R E, ¬ S pr R E) : FnOk P w K mg base (L2N.CX P w) k f fd ps (toSp K n S) :=
  ⟨fun vs H Q E ⟨_, _, _, _, _, _, _, hS, _⟩ => (h _ _ _ hS).elim, fun A outer s H args us vs Q E _ _ _ _ ⟨_, _, _, _, _, _, _, hS, _⟩ => (h _ _ _ hS).elim⟩
end
end Den
namespace L2
open PySem PySem.Spec PyProof.Rows
section
variable {X : Cx} {a b c d : Expr} {ta tb tc td : TE} {pos : Pos}
/-- a op1 b op2 c op3 d, as a test -/
def tChain3 (r r' r'' : R2) (ta tb tc td : TE) : TT := fun σ H Q => ta σ H fun x H1 => tb σ H1 fun y H2 => r x y H2 fun z H3 => ∃ k, z = .bl k ∧
  (if k = true then tc σ H3 fun u H4 => r' y u H4 fun z2 H5 => ∃ k2, z2 = .bl k2 ∧ (if k2 = true then td σ H5 fun v H6 => r'' u v H6 fun z3 H7 => ∃ k3, z3 = .bl k3 ∧ Q k3 H7 else Q false H5) else Q false H3)
theorem pt_chain3 {op op' op'' : CmpOp} {r r' r'' : R2} (ho : OpR X (compareOp op) r) (ho' : OpR X (compareOp op') r') (ho'' : OpR X (compareOp op'') r'') (ha : PE X a ta) (hb : PE X b tb) (hc : PE X c tc) (hd : PE X d td)
    (hm : lastMarks [op, op', op''] [b, c, d] = false := by with_unfolding_all rfl) : PT X (.Compare a [op, op', op''] [b, c, d] pos) (tChain3 r r' r'' ta tb tc td) := by
  refine ⟨fun pins s σ H Q I h => ?_⟩
  refine isTrue_chain (thn (ha.run pins s σ H _ I h) fun v s1 ⟨x, H1, I1, r1, q1⟩ => test_link (thn (hb.run pins s1 σ H1 _ I1 q1) fun u s2 ⟨y, H2, I2, r2, q2⟩ =>
    thn (ho pins s2 σ H2 x y v u _ I2 r1 r2 q2) fun d s3 ⟨z, H3, I3, r3, k, e, q3⟩ => ?_)) hm
  subst e
  cases r3
  refine wpAny_truthy_bool ?_
  cases k with
  | false => exact ite_ff ⟨H3, I3, q3⟩
  | true =>
    refine ite_tt (test_link (thn (hc.run pins s3 σ H3 _ I3 q3) fun w' s4 ⟨z', H4, I4, r4, q4⟩ => thn (ho' pins s4 σ H4 y z' u w' _ I4 r2 r4 q4) fun d' s5 ⟨z2, H5, I5, r5, k2, e2, q5⟩ => ?_))
    subst e2
    cases r5
    refine wpAny_truthy_bool ?_
    cases k2 with
    | false => exact ite_ff ⟨H5, I5, q5⟩
    | true =>
      refine ite_tt (test_last (thn (hd.run pins s5 σ H5 _ I5 q5) fun w2 s6 ⟨z6, H6, I6, r6, q6⟩ => thn (ho'' pins s6 σ H6 z' z6 w' w2 _ I6 r4 r6 q6) fun d2 s7 ⟨z7, H7, I7, r7, k3, e3, q7⟩ => ?_))
      subst e3
      cases r7
      exact wpAny_truthy_bool ⟨H7, I7, q7⟩
end
end L2
namespace Den
variable [Tbs]
open PySem L2 Evl PySem.Spec PyProof.Rows
open Classical
section
variable {K : PySem.W.Frag} {W : WX} {X : Cx} {ρ : En}
def wT3 (f f' f'' : D → D → (D → Prop) → Prop) (wa wb wc wd : WL) : WT := fun ρ R E => wa ρ (fun La ρ1 => wb ρ1 (fun Lb ρ2 => ∃ d e, La ρ2 d ∧ Lb ρ2 e ∧ f d e (fun z => ∃ k, z = .bool k ∧
  if k = true then wc ρ2 (fun Lc ρ3 => ∃ e' g, Lb ρ3 e' ∧ Lc ρ3 g ∧ f' e' g (fun z => ∃ k2, z = .bool k2 ∧
    if k2 = true then wd ρ3 (fun Ld ρ4 => ∃ g' h, Lc ρ4 g' ∧ Ld ρ4 h ∧ f'' g' h (fun z => ∃ k3, z = .bool k3 ∧ R k3 ρ4)) E else R false ρ3)) E else R false ρ2)) E) E
theorem dT3 {op op' op'' : CmpOp} {r r' r'' : R2} {f f' f'' : D → D → (D → Prop) → Prop} {a b c d : Expr} {pos : Pos} {wa wb wc wd : WL} (ho : OpR X (compareOp op) r) (ho' : OpR X (compareOp op') r') (ho'' : OpR X (compareOp op'') r'')
    (hr : SR K r f) (hr' : SR K r' f') (hr'' : SR K r'' f'') (ha : PE X a (cL K W wa)) (hb : PE X b (cL K W wb)) (hc : PE X c (cL K W wc)) (hd : PE X d (cL K W wd))
    (hm : lastMarks [op, op', op''] [b, c, d] = false := by with_unfolding_all rfl) : PT X (.Compare a [op, op', op''] [b, c, d] pos) (cT K W (wT3 f f' f'' wa wb wc wd)) :=
  ptI (pt_chain3 ho ho' ho'' ha hb hc hd hm) fun σ H Q ⟨θ, π, α, ρ, R, E, hR, hw, hq, he⟩ => by
    refine ⟨θ, π, α, ρ, _, E, hR, hw, fun α1 v1 H1 L1 ρ1 R1 s1 l1 w1 => ?_, he⟩
    refine ⟨θ, π, α1, ρ1, _, E, R1, w1, fun α2 v2 H2 L2 ρ2 R2 s2 l2 w2 => ?_, he.step s1⟩
    obtain ⟨d, e, hd, he', hf⟩ := w2
    refine hr _ H2 _ _ d e _ _ R2.live (l1 α2 H2 ρ2 R2 s2 d hd) (l2 α2 H2 ρ2 R2 (Stp.refl ..) e he') hf fun v H' c ex dp rc => ?_
    obtain ⟨k, rfl, rc⟩ := rc
    refine ⟨k, dp_b dp, ?_⟩
    have Rx := R2.ext ex
    have sx := (s1.trans s2).trans (R2.stp ex)
    cases k with
    | false => rw [if_neg Bool.false_ne_true] at rc ⊢; exact hq α2 H' _ ρ2 Rx sx rc
    | true =>
      rw [if_pos rfl] at rc ⊢
      refine ⟨θ, π, α2, ρ2, _, E, Rx, rc, fun α3 v3 H3 L3 ρ3 R3 s3 l3 w3 => ?_, he.step sx⟩
      obtain ⟨e2, g, h1, h2, hf2⟩ := w3
      refine hr' _ H3 _ _ e2 g _ _ R3.live (l2 α3 H3 ρ3 R3 ((R2.stp ex).trans s3) e2 h1) (l3 α3 H3 ρ3 R3 (Stp.refl ..) g h2) hf2 fun v H4 c ex2 dp rc => ?_
      obtain ⟨k2, rfl, rc⟩ := rc
      refine ⟨k2, dp_b dp, ?_⟩
      have Ry := R3.ext ex2
      have sy := (sx.trans s3).trans (R3.stp ex2)
      cases k2 with
      | false => rw [if_neg Bool.false_ne_true] at rc ⊢; exact hq α3 H4 _ ρ3 Ry sy rc
      | true =>
        rw [if_pos rfl] at rc ⊢
        refine ⟨θ, π, α3, ρ3, _, E, Ry, rc, fun α5 v5 H5 L5 ρ5 R5 s5 l5 w5 => ?_, he.step sy⟩
        obtain ⟨g2, h, h3, h4, hf3⟩ := w5
        refine hr'' _ H5 _ _ g2 h _ _ R5.live (l3 α5 H5 ρ5 R5 ((R3.stp ex2).trans s5) g2 h3) (l5 α5 H5 ρ5 R5 (Stp.refl ..) h h4) hf3 fun v H6 c ex3 dp rc => ?_
        obtain ⟨k3, rfl, rc⟩ := rc
        exact ⟨k3, dp_b dp, hq α5 H6 _ ρ5 (R5.ext ex3) ((sy.trans s5).trans (R5.stp ex3)) rc⟩
theorem s_T3 {f f' f'' : D → D → (D → Prop) → Prop} {wa wb wc wd : WL} {T : Bool → En → Prop} {E : EC} (h : wa ρ (fun La ρ1 => wb ρ1 (fun Lb ρ2 => ∃ d e, La ρ2 d ∧ Lb ρ2 e ∧ f d e (fun z => ∃ k, z = .bool k ∧
  if k = true then wc ρ2 (fun Lc ρ3 => ∃ e' g, Lb ρ3 e' ∧ Lc ρ3 g ∧ f' e' g (fun z => ∃ k2, z = .bool k2 ∧
    if k2 = true then wd ρ3 (fun Ld ρ4 => ∃ g' h, Lc ρ4 g' ∧ Ld ρ4 h ∧ f'' g' h (fun z => ∃ k3, z = .bool k3 ∧ T k3 ρ4)) E else T false ρ3)) E else T false ρ2)) E) E) : wT3 f f' f'' wa wb wc wd ρ T E := h
end
end Den

set_option maxHeartbeats 4000000
namespace Den
variable [Tbs]
open PySem L2 Evl PySem.Spec PyProof.Rows
open Classical
section
variable {K : PySem.W.Frag} {W : WX} {X : Cx} {θ : Addr → Prop} {π α : Nat → Option Addr} {σ : L2.St} {H : Hp} {ρ : En} {p : Addr} {o : HO}
/-! xs.index(x), flat things -/
def wIdx (wo : WL) (wa : WE) : WE := fun ρ R E => wo ρ (fun Lo ρ1 => (∃ ds, Lo ρ1 (.list ds)) ∧ wa ρ1 (fun d ρ2 => ∃ ds j z, Lo ρ2 (.list ds) ∧ flatD d = true ∧ ds.all flatD = true ∧ ds[j]? = some z ∧ eqF z d = true ∧ (∀ m z', m < j → ds[m]? = some z' → eqF z' d = false) ∧ R (.int (j : Nat)) ρ2) E) E
theorem dIdx {e : Expr} {wo : WL} {wa : WE} (h : PE X e (tBM X.K "list" (rIndex X.K) (cL X.K W wo) (tCons (cE X.K W wa) tNil))) : PE X e (cE X.K W (wIdx wo wa)) := peI h fun σ H Q ⟨θ, π, α, ρ, R, E, hR, hw, hq, he⟩ => by
  refine ⟨θ, π, α, ρ, _, E, hR, hw, fun α1 v1 H1 L1 ρ1 R1 s1 l1 w1 => ?_, he⟩
  obtain ⟨⟨ds0, hd0⟩, w1⟩ := w1
  obtain ⟨a, vs, rfl, h1, h2⟩ := (l1 α1 H1 ρ1 R1 (Stp.refl ..) _ hd0).lst
  refine ⟨.inl ⟨rfl, vs, h1⟩, θ, π, α1, ρ1, _, E, R1, w1, fun α2 v H2 d ρ2 R2 s2 p2 w2 => ?_, he.step s1⟩
  obtain ⟨ds, j, z, hd, f1, f2, hz, hzj, hno, hk⟩ := w2
  obtain ⟨a', vs', ea, h3, h4⟩ := (l1 α2 H2 ρ2 R2 s2 _ hd).lst
  cases ea
  obtain ⟨u, hu, du⟩ := dpA_get h4 hz
  refine ⟨a, vs', v, j, u, rfl, rfl, h3, flat_dp p2 f1, (inD_dp p2 f1 h4 f2).1, hu, ?_, fun m z' hm hz' => ?_, hq α2 _ H2 _ ρ2 R2 (s1.trans s2) (.int _) hk⟩
  · rw [eqF_dp du p2 (List.all_eq_true.mp f2 z (List.mem_of_getElem? hz)) f1]; exact hzj
  · obtain ⟨y, hy, dy⟩ := dpA_get' h4 hz'
    rw [eqF_dp dy p2 (List.all_eq_true.mp f2 y (List.mem_of_getElem? hy)) f1]
    exact hno m y hm hy
theorem s_idx {wo : WL} {wa : WE} {R : RC} {E : EC} (h : wo ρ (fun Lo ρ1 => (∃ ds, Lo ρ1 (.list ds)) ∧ wa ρ1 (fun d ρ2 => ∃ ds j z, Lo ρ2 (.list ds) ∧ flatD d = true ∧ ds.all flatD = true ∧ ds[j]? = some z ∧ eqF z d = true ∧ (∀ m z', m < j → ds[m]? = some z' → eqF z' d = false) ∧ R (.int (j : Nat)) ρ2) E) E) : wIdx wo wa ρ R E := h
/-! enumerate(a list) -/
def enD (ds : List D) : List D := (List.range ds.length).map fun i => .tuple [.int (i : Nat), ds.getD i .none]
theorem enD_at {ds : List D} {i : Nat} {d : D} (h : (enD ds)[i]? = some d) : ∃ x, ds[i]? = some x ∧ d = .tuple [.int (i : Nat), x] := by
  unfold enD at h
  rw [List.getElem?_map] at h
  obtain ⟨k, hk, rfl⟩ := Option.map_eq_some_iff.mp h
  obtain ⟨a, b⟩ := List.getElem?_eq_some_iff.mp hk
  rw [List.getElem_range] at b
  subst b
  rw [List.length_range] at a
  refine ⟨ds[i], List.getElem?_eq_getElem a, ?_⟩
  rw [List.getD_eq_getElem?_getD, List.getElem?_eq_getElem a]
  rfl
theorem enD_len (ds : List D) : (enD ds).length = ds.length := by unfold enD; rw [List.length_map, List.length_range]
theorem walks_enum {G : Hp} {a : Addr} {vs : List V} {ds : List D} (h : SqL K G a vs) (hd : DpAll K G vs ds) : Walks K (Ite K a) G (enD ds) := fun S2 H2 i hl hx => by
  have h2 : SqL K H2 a vs := ex_l (hx.trans hidS_ex) h
  refine ⟨fun e => ⟨vs, h2, by rw [dpA_len hd, e, enD_len]; exact Nat.le_refl _⟩, fun d hi => ?_⟩
  obtain ⟨x, hx1, rfl⟩ := enD_at hi
  obtain ⟨v, q1, q2⟩ := dpA_get hd hx1
  refine ⟨⟨vs, v, h2, q1⟩, fun y H3 z => ?_⟩
  obtain ⟨T, y', rfl, hT, rfl, hy⟩ := z
  have q := hy vs h2
  rw [q1] at q
  cases q
  exact ⟨Ex.new hT, new_tup hl hT (.cons (.int _) (.cons (dp_mono hx q2) .nil))⟩
def wiEn (wa : WA) : WI := fun ρ R E => wa ρ (fun ds ρ' => ∃ xs, ds = [.list xs] ∧ R (enD xs) ρ') E
theorem diEn {tg e : Expr} {n : Nat} {w : WA} (h : PI X tg e (iEnum K (cA K W n w))) : PI X tg e (cI K W (wiEn w)) := piI h fun σ H Q ⟨θ, π, α, ρ, R, E, hR, hw, hq, he⟩ =>
  ⟨θ, π, α, ρ, _, E, hR, hw, fun α1 vs H1 ds ρ1 R1 s1 p1 l1 w1 => by
    obtain ⟨xs, rfl, w1⟩ := w1
    cases p1 with
    | cons h1 h2 => cases h2 with
      | nil => cases h1 with
        | lst h3 h4 => exact ⟨_, _, rfl, ex_l hidS_ex h3, hq α1 _ H1 _ ρ1 R1 s1 (walks_enum h3 h4) w1⟩, he⟩
theorem s_iEn {wa : WA} {G : List D → En → Prop} {E : EC} (h : wa ρ (fun ds ρ' => ∃ xs, ds = [.list xs] ∧ G (enD xs) ρ') E) : wiEn wa ρ G E := h
/-! range(a, b, c) -/
def rngC (lo c : Int) (n : Nat) : List D := (List.range n).map fun k => .int (lo + (k : Nat) * c)
theorem walks_rngC {lo c : Int} {n : Nat} {G : Hp} : Walks K (Itc lo c n) G (rngC lo c n) := fun S2 H2 i hl hx => by
  refine ⟨fun e => ?_, fun d hi => ?_⟩
  · show n ≤ i
    rw [e]; simp [rngC]
  · unfold rngC at hi
    rw [List.getElem?_map] at hi
    obtain ⟨k, q, rfl⟩ := Option.map_eq_some_iff.mp hi
    obtain ⟨h1, h2⟩ := List.getElem?_eq_some_iff.mp q
    simp at h1 h2
    subst h2
    exact ⟨h1, fun x H3 ⟨e, y⟩ => by subst e y; exact ⟨Ex.refl _, .int _⟩⟩
def wiR3 (wa : WA) : WI := fun ρ R E => wa ρ (fun ds ρ' => ∃ (a b c : Int) (n : Nat), ds = [.int a, .int b, .int c] ∧ RgC a b c n ∧ R (rngC a c n) ρ') E
theorem diR3 {tg e : Expr} {n : Nat} {w : WA} (h : PI X tg e (iRng3 (cA K W n w))) : PI X tg e (cI K W (wiR3 w)) := piI h fun σ H Q ⟨θ, π, α, ρ, R, E, hR, hw, hq, he⟩ =>
  ⟨θ, π, α, ρ, _, E, hR, hw, fun α1 vs H1 ds ρ1 R1 s1 p1 l1 w1 => by
    obtain ⟨a, b, c, n, rfl, ok, w1⟩ := w1
    cases p1 with
    | cons h1 h2 => cases h2 with
      | cons h3 h4 => cases h4 with
        | cons h5 h6 => cases h6; cases h1; cases h3; cases h5; exact ⟨a, b, c, n, rfl, ok, hq α1 _ H1 _ ρ1 R1 s1 walks_rngC w1⟩, he⟩
theorem s_iR3 {wa : WA} {G : List D → En → Prop} {E : EC} (h : wa ρ (fun ds ρ' => ∃ (a b c : Int) (n : Nat), ds = [.int a, .int b, .int c] ∧ RgC a b c n ∧ G (rngC a c n) ρ') E) : wiR3 wa ρ G E := h
/-! sorted(ints): a new list -/
def gSortI (d : D) (k : List D → Prop) : Prop := ∃ ns : List Int, d = .list (ns.map PyData.int) ∧ ∀ ms : List Int, ms.Perm ns → ms.Pairwise (· ≤ ·) → k (ms.map PyData.int)
theorem dpA_intsV {G : Hp} : ∀ {ns : List Int} {vs : List V}, DpAll K G vs (ns.map PyData.int) → vs = ns.map V.int
  | [], _, h => by cases h; rfl
  | n :: ns, _, h => by
    cases h with
    | cons h3 h4 => cases h3; rw [dpA_intsV h4]; rfl
theorem sn_sortI : SN K (fun x => rSortedI K [x]) gSortI := by
  intro S H x d Q R lv hx hg q
  obtain ⟨ns, rfl, hk⟩ := hg
  obtain ⟨a, vs, rfl, h1, h2⟩ := hx.lst
  have e := dpA_intsV h2
  subst e
  exact ⟨a, ns, rfl, h1, fun ms l hp hs hl => q l _ _ hl (dpA_ints ms) (hk ms hp hs)⟩
theorem s_sortI {d : D} {k : List D → Prop} (ns : List Int) (e : d = .list (ns.map PyData.int)) (h : ∀ ms : List Int, ms.Perm ns → ms.Pairwise (· ≤ ·) → k (ms.map PyData.int)) : gSortI d k := ⟨ns, e, h⟩
/-! divmod of small numbers -/
def fDvm (d e : D) (k : D → Prop) : Prop := match d, e with
  | .int i, .int j => CDiv i j ∧ k (.tuple [.int (i / j), .int (i % j)])
  | _, _ => False
theorem sr_dvm : SR K (fun x y H Q => ∃ i j, [x, y] = [V.int i, V.int j] ∧ CDiv i j ∧ ∀ p, H p = none → Q (.ref p) (upd H p (.tup [.int (i / j), .int (i % j)]))) fDvm := by
  intro S H x y d e Q R lv hx hy hf q
  unfold fDvm at hf
  split at hf
  · rename_i i j
    cases hx.int; cases hy.int
    exact ⟨i, j, rfl, hf.1, fun p hp => q _ _ _ (Ex.new hp) (new_tup lv hp (.cons (.int _) (.cons (.int _) .nil))) hf.2⟩
  · exact hf.elim
theorem s_dvm {i j : Int} {k : D → Prop} (h : k (.tuple [.int (i / j), .int (i % j)])) (c : CDiv i j) : fDvm (.int i) (.int j) k := ⟨c, h⟩
end
end Den

set_option maxHeartbeats 4000000
namespace Den
variable [Tbs]
open PySem L2 Evl PySem.Spec PyProof.Rows
open Classical
section
variable {K : PySem.W.Frag} {W : WX} {X : Cx} {θ : Addr → Prop} {π α : Nat → Option Addr} {σ : L2.St} {H : Hp} {ρ : En} {p : Addr} {o : HO}
/-! list * int -/
def rRepL (K : PySem.W.Frag) : R2 := fun x y H Q => ∃ l k xs, x = .ref l ∧ y = .int k ∧ SqL K H l xs ∧ 0 ≤ k ∧ k ≤ 1000 ∧ xs.length ≤ 1000 ∧ ∀ p, H p = none → Q (.ref p) (upd H p (.lst (List.replicate k.toNat xs).flatten))
theorem rep_empty (k : Nat) : (List.replicate (if (([] : List Value).toArray).isEmpty = true then 0 else k) ([] : List Value).toArray) = [] := rfl
omit [Tbs] in
theorem op_repL : OpR X (binaryOp .Mult) (rRepL X.K) := by
  intro pins s σ H x y v u Q I rx ry h
  obtain ⟨l, k, xs, rfl, rfl, hT, h1, h2, hz, q⟩ := h
  cases rx
  obtain ⟨t, rfl⟩ := ry
  obtain ⟨its, r, ⟨⟨cls, dd, data, sl⟩, n, ho, hc, hdd, hd⟩, _⟩ := I.list hT
  simp only at hc hd
  subst hc hd
  have hle : its.length = xs.length := r.length.symm
  have hsz0 : its.toArray.size = xs.length := by rw [List.size_toArray, hle]
  have hm : its.toArray.size * k.toNat ≤ 1000 * 1000 := by
    rw [hsz0]
    exact Nat.mul_le_mul hz (by omega)
  have hm2 : its.length * k.toNat ≤ 1000 * 1000 := by
    rw [hle]
    exact Nat.mul_le_mul hz (by omega)
  have e : List.foldl (fun x1 x2 => x1 ++ x2) #[] (List.replicate (if its.toArray.isEmpty = true then 0 else k.toNat) its.toArray) = (List.replicate k.toNat its).flatten.toArray := by
    cases its with
    | nil =>
      show #[] = _
      have : (List.replicate k.toNat ([] : List Value)).flatten = [] := by simp
      rw [this]
    | cons a b => exact size_rep (a :: b) k.toNat
  refine wpAny_binaryOp_repeat_ref (T := "list") (U := "int") (by decide) ⟨_, ho, rfl⟩ (fun s' => typeIs_int s' k t) noFill_list_mul F.fills_int_mul F.slot_int_rmul repeat_list F.slot_int_index.lookup
    (call_meets F.slot_int_rmul (typeIs_int s k t) F.entry_int_rmul (F.args_int_rmul_2 _ _) (lm_int_rmul_list_any k t l its.toArray n dd sl)
      ⟨ho, rfl, ⟨_, ho, rfl⟩, call_meets F.slot_list_mul ⟨_, ho, rfl⟩ F.entry_list_mul (F.args_list_mul_2 _ _)
        (lm_list_mul_any l its.toArray n dd sl k t (by simp [Builtin.List.listFitsIndex]; omega) (by omega) (by simp [Builtin.List.listTooLong, sizeLine]; omega)) ⟨ho, ?_⟩⟩)
  rw [e]
  refine ⟨.ref _, _, I.lnew (t' := s.toks) (r.rep k.toNat) ?_, rfl, q _ I.fresh⟩
  rw [PyProof.Rows.lm_len_rep_flat, sizeLine_eq]
  have a1 : k.toNat * xs.length ≤ 1000 * 1000 := Nat.mul_le_mul (by omega) hz
  omega
def fRepL (d e : D) (k : D → Prop) : Prop := match d, e with
  | .list ds, .int n => 0 ≤ n ∧ n ≤ 1000 ∧ ds.length ≤ 1000 ∧ k (.list (List.replicate n.toNat ds).flatten)
  | _, _ => False
theorem sr_repL : SR K (rRepL K) fRepL := by
  intro S H x y d e Q R lv hx hy hf q
  unfold fRepL at hf
  split at hf
  · rename_i ds n
    obtain ⟨h1, h2, h3, hr⟩ := hf
    have ey := hy.int
    subst ey
    obtain ⟨a, vs, rfl, t1, t2⟩ := hx.lst
    have hl := dpA_len t2
    exact ⟨a, n, vs, rfl, rfl, t1, h1, h2, by omega, fun p hp => q _ _ _ (Ex.new hp) (new_lst lv hp (dpA_rep t2 _)) hr⟩
  · exact hf.elim
theorem s_repL {ds : List D} {n : Int} {k : D → Prop} (h : k (.list (List.replicate n.toNat ds).flatten)) (h1 : 0 ≤ n) (h2 : n ≤ 1000) (h3 : ds.length ≤ 1000) : fRepL (.list ds) (.int n) k := ⟨h1, h2, h3, h⟩
end
end Den

set_option maxHeartbeats 4000000
namespace Den
variable [Tbs]
open PySem L2 Evl PySem.Spec PyProof.Rows
section
variable {K : PySem.W.Frag} {W : WX} {X : Cx} {θ : Addr → Prop} {π α : Nat → Option Addr} {σ : L2.St} {H : Hp} {ρ : En} {p : Addr} {o : HO}
/-! list * int: a new list of one's own -/
def wRepF (wa wb : WL) : WA := fun ρ R E => wa ρ (fun La ρ1 => wb ρ1 (fun Lb ρ2 => ∃ ds n, La ρ2 (.list ds) ∧ Lb ρ2 (.int n) ∧ 0 ≤ n ∧ n ≤ 1000 ∧ ds.length ≤ 1000 ∧ R (List.replicate n.toNat ds).flatten ρ2) E) E
theorem dRepF {a b : Expr} {pos : Pos} {wa wb : WL} (ha : PE X a (cL X.K W wa)) (hb : PE X b (cL X.K W wb)) : PE X (.BinOp a .Mult b pos) (cF X.K W (wRepF wa wb)) :=
  peI (pe_op op_repL ha hb) fun σ H Q ⟨θ, π, α, ρ, R, E, hR, hw, hq, he⟩ => by
    refine ⟨θ, π, α, ρ, _, E, hR, hw, fun α1 v1 H1 L1 ρ1 R1 s1 l1 w1 => ?_, he⟩
    refine ⟨θ, π, α1, ρ1, _, E, R1, w1, fun α2 v2 H2 L2 ρ2 R2 s2 l2 w2 => ?_, he.step s1⟩
    obtain ⟨ds, n, hd, hn, h1, h2, h3, hk⟩ := w2
    obtain ⟨a, vs, rfl, t1, t2⟩ := (l1 α2 H2 ρ2 R2 s2 _ hd).lst
    have ey := (l2 α2 H2 ρ2 R2 (Stp.refl ..) _ hn).int
    have hl := dpA_len t2
    refine ⟨a, n, vs, rfl, ey, t1, h1, h2, by omega, fun p hp => ?_⟩
    have e := hid_new (θ := θ) (α := α2) (o := .lst (List.replicate n.toNat vs).flatten) hp
    have s3 := s1.trans s2
    exact hq α2 p _ _ _ ρ2 (R2.hideNew hp) ⟨by rw [e]; exact s3.1, fun b hb => (s3.2 b hb).trans ((R2.stpNew hp).2 b hb)⟩ (fun z => R2.lv p z hp) upd_same (by rw [e]; exact dpA_rep t2 _) hk
theorem s_repF {wa wb : WL} {A : List D → En → Prop} {E : EC} (h : wa ρ (fun La ρ1 => wb ρ1 (fun Lb ρ2 => ∃ ds n, La ρ2 (.list ds) ∧ Lb ρ2 (.int n) ∧ 0 ≤ n ∧ n ≤ 1000 ∧ ds.length ≤ 1000 ∧ A (List.replicate n.toNat ds).flatten ρ2) E) E) : wRepF wa wb ρ A E := h
end
end Den
namespace Lw
open PySem L2 Den Evl PySem.Spec PyProof.Rows Zn
def top (i : Nat) : Stmt := PySem.Challenge.pw_lotshown_k46_whole_drawing_below_a_bound.main.body.getD i (.Pass ⟨0, 0, 0, 0⟩)
abbrev sis_number : Stmt := top 9
abbrev Nis_number : List Str := ["value", "least", "most"]
abbrev Pis_number : List Str := ["value", "least", "most"]
theorem scis_number : FnScope Nis_number Pis_number (defScope sis_number) := ⟨rfl, rfl, rfl, by decide +kernel, rfl, by decide +kernel, by decide +kernel⟩
abbrev smade : Stmt := top 11
abbrev Nmade : List Str := ["part", "whole", "divisor"]
abbrev Pmade : List Str := ["part", "whole"]
theorem scmade : FnScope Nmade Pmade (defScope smade) := ⟨rfl, rfl, rfl, by decide +kernel, rfl, by decide +kernel, by decide +kernel⟩
abbrev sto_power : Stmt := top 13
abbrev Nto_power : List Str := ["base", "exponent", "product", "square"]
abbrev Pto_power : List Str := ["base", "exponent"]
theorem scto_power : FnScope Nto_power Pto_power (defScope sto_power) := ⟨rfl, rfl, rfl, by decide +kernel, rfl, by decide +kernel, by decide +kernel⟩
abbrev s_number_at : Stmt := top 23
abbrev N_number_at : List Str := ["row", "at", "m", "base", "number", "digit"]
abbrev P_number_at : List Str := ["row", "at", "m", "base"]
theorem sc_number_at : FnScope N_number_at P_number_at (defScope s_number_at) := ⟨rfl, rfl, rfl, by decide +kernel, rfl, by decide +kernel, by decide +kernel⟩
abbrev s_least_number : Stmt := top 27
abbrev N_least_number : List Str := ["n", "whole", "result"]
abbrev P_least_number : List Str := ["n", "whole", "result"]
theorem sc_least_number : FnScope N_least_number P_least_number (defScope s_least_number) := ⟨rfl, rfl, rfl, by decide +kernel, rfl, by decide +kernel, by decide +kernel⟩
abbrev s_law_draws : Stmt := top 29
abbrev N_law_draws : List Str := ["script", "draws", "cell", "seed", "k", "number", "first"]
abbrev P_law_draws : List Str := ["script"]
theorem sc_law_draws : FnScope N_law_draws P_law_draws (defScope s_law_draws) := ⟨rfl, rfl, rfl, by decide +kernel, rfl, by decide +kernel, by decide +kernel⟩
abbrev s_law_take : Stmt := top 30
abbrev N_law_take : List Str := ["draws", "bound"]
abbrev P_law_take : List Str := ["draws", "bound"]
theorem sc_law_take : FnScope N_law_take P_law_take (defScope s_law_take) := ⟨rfl, rfl, rfl, by decide +kernel, rfl, by decide +kernel, by decide +kernel⟩
abbrev s_law_power : Stmt := top 32
abbrev N_law_power : List Str := ["base", "exponent", "product", "k"]
abbrev P_law_power : List Str := ["base", "exponent"]
theorem sc_law_power : FnScope N_law_power P_law_power (defScope s_law_power) := ⟨rfl, rfl, rfl, by decide +kernel, rfl, by decide +kernel, by decide +kernel⟩
abbrev s_law_told : Stmt := top 33
abbrev N_law_told : List Str := ["error", "kinds", "kind"]
abbrev P_law_told : List Str := ["error"]
theorem sc_law_told : FnScope N_law_told P_law_told (defScope s_law_told) := ⟨rfl, rfl, rfl, by decide +kernel, rfl, by decide +kernel, by decide +kernel⟩
abbrev s_law_lowest : Stmt := top 34
abbrev N_law_lowest : List Str := ["part", "whole", "one", "other", "k"]
abbrev P_law_lowest : List Str := ["part", "whole"]
theorem sc_law_lowest : FnScope N_law_lowest P_law_lowest (defScope s_law_lowest) := ⟨rfl, rfl, rfl, by decide +kernel, rfl, by decide +kernel, by decide +kernel⟩
abbrev s_law_rows : Stmt := top 38
abbrev N_law_rows : List Str := ["base", "count", "found", "k", "more", "row", "digit"]
abbrev P_law_rows : List Str := ["base", "count"]
theorem sc_law_rows : FnScope N_law_rows P_law_rows (defScope s_law_rows) := ⟨rfl, rfl, rfl, by decide +kernel, rfl, by decide +kernel, by decide +kernel⟩
abbrev s_law_fits : Stmt := top 40
abbrev N_law_fits : List Str := ["value", "number"]
abbrev P_law_fits : List Str := ["value"]
theorem sc_law_fits : FnScope N_law_fits P_law_fits (defScope s_law_fits) := ⟨rfl, rfl, rfl, by decide +kernel, rfl, by decide +kernel, by decide +kernel⟩
abbrev sis_manner : Stmt := top 18
abbrev Nis_manner : List Str := ["value", "kind", "m", "tries"]
abbrev Pis_manner : List Str := ["value"]
theorem scis_manner : FnScope Nis_manner Pis_manner (defScope sis_manner) := ⟨rfl, rfl, rfl, by decide +kernel, rfl, by decide +kernel, by decide +kernel⟩
abbrev sis_bound : Stmt := top 19
abbrev Nis_bound : List Str := ["value"]
abbrev Pis_bound : List Str := ["value"]
theorem scis_bound : FnScope Nis_bound Pis_bound (defScope sis_bound) := ⟨rfl, rfl, rfl, by decide +kernel, rfl, by decide +kernel, by decide +kernel⟩
abbrev sread_below : Stmt := top 22
abbrev Nread_below : List Str := ["n", "manner", "base", "row", "at", "whole", "level", "left", "kind", "m", "tries", "number"]
abbrev Pread_below : List Str := ["n", "manner", "base", "row", "at"]
theorem scread_below : FnScope Nread_below Pread_below (defScope sread_below) := ⟨rfl, rfl, rfl, by decide +kernel, rfl, by decide +kernel, by decide +kernel⟩
abbrev swhole_below : Stmt := top 25
abbrev Nwhole_below : List Str := ["n", "manner", "base", "whole", "kind", "m", "tries"]
abbrev Pwhole_below : List Str := ["n", "manner", "base"]
theorem scwhole_below : FnScope Nwhole_below Pwhole_below (defScope swhole_below) := ⟨rfl, rfl, rfl, by decide +kernel, rfl, by decide +kernel, by decide +kernel⟩
abbrev sweight_between : Stmt := top 26
abbrev Nweight_between : List Str := ["n", "manner", "base", "low", "high", "whole", "rest", "favoured", "lost", "kind", "m", "tries"]
abbrev Pweight_between : List Str := ["n", "manner", "base", "low", "high"]
theorem scweight_between : FnScope Nweight_between Pweight_between (defScope sweight_between) := ⟨rfl, rfl, rfl, by decide +kernel, rfl, by decide +kernel, by decide +kernel⟩
abbrev s_law_plus : Stmt := top 35
abbrev N_law_plus : List Str := ["one", "other"]
abbrev P_law_plus : List Str := ["one", "other"]
theorem sc_law_plus : FnScope N_law_plus P_law_plus (defScope s_law_plus) := ⟨rfl, rfl, rfl, by decide +kernel, rfl, by decide +kernel, by decide +kernel⟩
abbrev s_law_below : Stmt := top 36
abbrev N_law_below : List Str := ["n", "manner", "base", "row", "place", "whole", "turn", "kind", "count", "tries", "number", "digit"]
abbrev P_law_below : List Str := ["n", "manner", "base", "row", "place"]
theorem sc_law_below : FnScope N_law_below P_law_below (defScope s_law_below) := ⟨rfl, rfl, rfl, by decide +kernel, rfl, by decide +kernel, by decide +kernel⟩
abbrev s_law_manner : Stmt := top 37
abbrev N_law_manner : List Str := ["draws", "most", "turn", "base", "kind", "manner"]
abbrev P_law_manner : List Str := ["draws", "most"]
theorem sc_law_manner : FnScope N_law_manner P_law_manner (defScope s_law_manner) := ⟨rfl, rfl, rfl, by decide +kernel, rfl, by decide +kernel, by decide +kernel⟩
abbrev scheck_bound : Stmt := top 20
abbrev Ncheck_bound : List Str := ["n"]
abbrev Pcheck_bound : List Str := ["n"]
theorem sccheck_bound : FnScope Ncheck_bound Pcheck_bound (defScope scheck_bound) := ⟨rfl, rfl, rfl, by decide +kernel, rfl, by decide +kernel, by decide +kernel⟩
abbrev sdraw_below : Stmt := top 21
abbrev Ndraw_below : List Str := ["n", "manner", "base", "row"]
abbrev Pdraw_below : List Str := ["n", "manner", "base", "row"]
theorem scdraw_below : FnScope Ndraw_below Pdraw_below (defScope sdraw_below) := ⟨rfl, rfl, rfl, by decide +kernel, rfl, by decide +kernel, by decide +kernel⟩
abbrev schance_below : Stmt := top 24
abbrev Nchance_below : List Str := ["n", "manner", "base", "result"]
abbrev Pchance_below : List Str := ["n", "manner", "base", "result"]
theorem scchance_below : FnScope Nchance_below Pchance_below (defScope schance_below) := ⟨rfl, rfl, rfl, by decide +kernel, rfl, by decide +kernel, by decide +kernel⟩
abbrev s_law_same : Stmt := top 31
abbrev N_law_same : List Str := ["actual", "due", "k"]
abbrev P_law_same : List Str := ["actual", "due"]
theorem sc_law_same : FnScope N_law_same P_law_same (defScope s_law_same) := ⟨rfl, rfl, rfl, by decide +kernel, rfl, by decide +kernel, by decide +kernel⟩
abbrev s_law_try : Stmt := top 39
abbrev N_law_try : List Str := ["which", "n", "manner", "base", "more", "error"]
abbrev P_law_try : List Str := ["which", "n", "manner", "base", "more"]
theorem sc_law_try : FnScope N_law_try P_law_try (defScope s_law_try) := ⟨rfl, rfl, rfl, by decide +kernel, rfl, by decide +kernel, by decide +kernel⟩
abbrev s_law_are_judged : Stmt := top 41
abbrev N_law_are_judged : List Str := ["draws", "manner", "odd", "value", "kind", "count", "tries"]
abbrev P_law_are_judged : List Str := ["draws", "manner"]
theorem sc_law_are_judged : FnScope N_law_are_judged P_law_are_judged (defScope s_law_are_judged) := ⟨rfl, rfl, rfl, by decide +kernel, rfl, by decide +kernel, by decide +kernel⟩
abbrev slaw : Stmt := top 42
abbrev Nlaw : List Str := ["script", "draws", "n", "size", "rows", "counts", "row", "total", "k", "short", "other", "great", "long", "kind", "base", "manner", "due", "told", "unused"]
abbrev Plaw : List Str := ["script"]
theorem sclaw : FnScope Nlaw Plaw (defScope slaw) := ⟨rfl, rfl, rfl, by decide +kernel, rfl, by decide +kernel, by decide +kernel⟩
/-- where the classes and the defs stand -/
structure Ad where
  cLotError : Addr
  cOutOfRange : Addr
  cMalformed : Addr
  cNotThere : Addr
  cRefused : Addr
  cTooMuch : Addr
  fis_number : Addr
  dis_number : FuncData
  fmade : Addr
  dmade : FuncData
  fto_power : Addr
  dto_power : FuncData
  f_number_at : Addr
  d_number_at : FuncData
  f_least_number : Addr
  d_least_number : FuncData
  f_law_draws : Addr
  d_law_draws : FuncData
  f_law_take : Addr
  d_law_take : FuncData
  f_law_power : Addr
  d_law_power : FuncData
  f_law_told : Addr
  d_law_told : FuncData
  f_law_lowest : Addr
  d_law_lowest : FuncData
  f_law_rows : Addr
  d_law_rows : FuncData
  f_law_fits : Addr
  d_law_fits : FuncData
  fis_manner : Addr
  dis_manner : FuncData
  fis_bound : Addr
  dis_bound : FuncData
  fread_below : Addr
  dread_below : FuncData
  fwhole_below : Addr
  dwhole_below : FuncData
  fweight_between : Addr
  dweight_between : FuncData
  f_law_plus : Addr
  d_law_plus : FuncData
  f_law_below : Addr
  d_law_below : FuncData
  f_law_manner : Addr
  d_law_manner : FuncData
  fcheck_bound : Addr
  dcheck_bound : FuncData
  fdraw_below : Addr
  ddraw_below : FuncData
  fchance_below : Addr
  dchance_below : FuncData
  f_law_same : Addr
  d_law_same : FuncData
  f_law_try : Addr
  d_law_try : FuncData
  f_law_are_judged : Addr
  d_law_are_judged : FuncData
  flaw : Addr
  dlaw : FuncData
variable [Tbs]
structure Txt (K : PySem.W.Frag) (mg : Str → Option Value) (A : Ad) : Prop where
  fis_number : mg "is_number" = some (.ref A.fis_number)
  pis_number : PySem.W.keepIn K (.ref A.fis_number) = true
  ais_number : Binds K A.dis_number Pis_number []
  Fis_number : Fun K "is_number" "is_number" sis_number A.fis_number A.dis_number
  fmade : mg "made" = some (.ref A.fmade)
  pmade : PySem.W.keepIn K (.ref A.fmade) = true
  amade : Binds K A.dmade Pmade []
  Fmade : Fun K "made" "made" smade A.fmade A.dmade
  fto_power : mg "to_power" = some (.ref A.fto_power)
  pto_power : PySem.W.keepIn K (.ref A.fto_power) = true
  ato_power : Binds K A.dto_power Pto_power []
  Fto_power : Fun K "to_power" "to_power" sto_power A.fto_power A.dto_power
  f_number_at : mg "_number_at" = some (.ref A.f_number_at)
  p_number_at : PySem.W.keepIn K (.ref A.f_number_at) = true
  a_number_at : Binds K A.d_number_at P_number_at []
  F_number_at : Fun K "_number_at" "_number_at" s_number_at A.f_number_at A.d_number_at
  f_least_number : mg "_least_number" = some (.ref A.f_least_number)
  p_least_number : PySem.W.keepIn K (.ref A.f_least_number) = true
  a_least_number : Binds K A.d_least_number P_least_number []
  F_least_number : Fun K "_least_number" "_least_number" s_least_number A.f_least_number A.d_least_number
  f_law_draws : mg "_law_draws" = some (.ref A.f_law_draws)
  p_law_draws : PySem.W.keepIn K (.ref A.f_law_draws) = true
  a_law_draws : Binds K A.d_law_draws P_law_draws []
  F_law_draws : Fun K "_law_draws" "_law_draws" s_law_draws A.f_law_draws A.d_law_draws
  f_law_take : mg "_law_take" = some (.ref A.f_law_take)
  p_law_take : PySem.W.keepIn K (.ref A.f_law_take) = true
  a_law_take : Binds K A.d_law_take P_law_take []
  F_law_take : Fun K "_law_take" "_law_take" s_law_take A.f_law_take A.d_law_take
  f_law_power : mg "_law_power" = some (.ref A.f_law_power)
  p_law_power : PySem.W.keepIn K (.ref A.f_law_power) = true
  a_law_power : Binds K A.d_law_power P_law_power []
  F_law_power : Fun K "_law_power" "_law_power" s_law_power A.f_law_power A.d_law_power
  f_law_told : mg "_law_told" = some (.ref A.f_law_told)
  p_law_told : PySem.W.keepIn K (.ref A.f_law_told) = true
  a_law_told : Binds K A.d_law_told P_law_told []
  F_law_told : Fun K "_law_told" "_law_told" s_law_told A.f_law_told A.d_law_told
  f_law_lowest : mg "_law_lowest" = some (.ref A.f_law_lowest)
  p_law_lowest : PySem.W.keepIn K (.ref A.f_law_lowest) = true
  a_law_lowest : Binds K A.d_law_lowest P_law_lowest []
  F_law_lowest : Fun K "_law_lowest" "_law_lowest" s_law_lowest A.f_law_lowest A.d_law_lowest
  f_law_rows : mg "_law_rows" = some (.ref A.f_law_rows)
  p_law_rows : PySem.W.keepIn K (.ref A.f_law_rows) = true
  a_law_rows : Binds K A.d_law_rows P_law_rows []
  F_law_rows : Fun K "_law_rows" "_law_rows" s_law_rows A.f_law_rows A.d_law_rows
  f_law_fits : mg "_law_fits" = some (.ref A.f_law_fits)
  p_law_fits : PySem.W.keepIn K (.ref A.f_law_fits) = true
  a_law_fits : Binds K A.d_law_fits P_law_fits []
  F_law_fits : Fun K "_law_fits" "_law_fits" s_law_fits A.f_law_fits A.d_law_fits
  fis_manner : mg "is_manner" = some (.ref A.fis_manner)
  pis_manner : PySem.W.keepIn K (.ref A.fis_manner) = true
  ais_manner : Binds K A.dis_manner Pis_manner []
  Fis_manner : Fun K "is_manner" "is_manner" sis_manner A.fis_manner A.dis_manner
  fis_bound : mg "is_bound" = some (.ref A.fis_bound)
  pis_bound : PySem.W.keepIn K (.ref A.fis_bound) = true
  ais_bound : Binds K A.dis_bound Pis_bound []
  Fis_bound : Fun K "is_bound" "is_bound" sis_bound A.fis_bound A.dis_bound
  fread_below : mg "read_below" = some (.ref A.fread_below)
  pread_below : PySem.W.keepIn K (.ref A.fread_below) = true
  aread_below : Binds K A.dread_below Pread_below []
  Fread_below : Fun K "read_below" "read_below" sread_below A.fread_below A.dread_below
  fwhole_below : mg "whole_below" = some (.ref A.fwhole_below)
  pwhole_below : PySem.W.keepIn K (.ref A.fwhole_below) = true
  awhole_below : Binds K A.dwhole_below Pwhole_below []
  Fwhole_below : Fun K "whole_below" "whole_below" swhole_below A.fwhole_below A.dwhole_below
  fweight_between : mg "weight_between" = some (.ref A.fweight_between)
  pweight_between : PySem.W.keepIn K (.ref A.fweight_between) = true
  aweight_between : Binds K A.dweight_between Pweight_between []
  Fweight_between : Fun K "weight_between" "weight_between" sweight_between A.fweight_between A.dweight_between
  f_law_plus : mg "_law_plus" = some (.ref A.f_law_plus)
  p_law_plus : PySem.W.keepIn K (.ref A.f_law_plus) = true
  a_law_plus : Binds K A.d_law_plus P_law_plus []
  F_law_plus : Fun K "_law_plus" "_law_plus" s_law_plus A.f_law_plus A.d_law_plus
  f_law_below : mg "_law_below" = some (.ref A.f_law_below)
  p_law_below : PySem.W.keepIn K (.ref A.f_law_below) = true
  a_law_below : Binds K A.d_law_below P_law_below []
  F_law_below : Fun K "_law_below" "_law_below" s_law_below A.f_law_below A.d_law_below
  f_law_manner : mg "_law_manner" = some (.ref A.f_law_manner)
  p_law_manner : PySem.W.keepIn K (.ref A.f_law_manner) = true
  a_law_manner : Binds K A.d_law_manner P_law_manner []
  F_law_manner : Fun K "_law_manner" "_law_manner" s_law_manner A.f_law_manner A.d_law_manner
  fcheck_bound : mg "check_bound" = some (.ref A.fcheck_bound)
  pcheck_bound : PySem.W.keepIn K (.ref A.fcheck_bound) = true
  acheck_bound : Binds K A.dcheck_bound Pcheck_bound []
  Fcheck_bound : Fun K "check_bound" "check_bound" scheck_bound A.fcheck_bound A.dcheck_bound
  fdraw_below : mg "draw_below" = some (.ref A.fdraw_below)
  pdraw_below : PySem.W.keepIn K (.ref A.fdraw_below) = true
  adraw_below : Binds K A.ddraw_below Pdraw_below []
  Fdraw_below : Fun K "draw_below" "draw_below" sdraw_below A.fdraw_below A.ddraw_below
  fchance_below : mg "chance_below" = some (.ref A.fchance_below)
  pchance_below : PySem.W.keepIn K (.ref A.fchance_below) = true
  achance_below : Binds K A.dchance_below Pchance_below []
  Fchance_below : Fun K "chance_below" "chance_below" schance_below A.fchance_below A.dchance_below
  f_law_same : mg "_law_same" = some (.ref A.f_law_same)
  p_law_same : PySem.W.keepIn K (.ref A.f_law_same) = true
  a_law_same : Binds K A.d_law_same P_law_same []
  F_law_same : Fun K "_law_same" "_law_same" s_law_same A.f_law_same A.d_law_same
  f_law_try : mg "_law_try" = some (.ref A.f_law_try)
  p_law_try : PySem.W.keepIn K (.ref A.f_law_try) = true
  a_law_try : Binds K A.d_law_try P_law_try []
  F_law_try : Fun K "_law_try" "_law_try" s_law_try A.f_law_try A.d_law_try
  f_law_are_judged : mg "_law_are_judged" = some (.ref A.f_law_are_judged)
  p_law_are_judged : PySem.W.keepIn K (.ref A.f_law_are_judged) = true
  a_law_are_judged : Binds K A.d_law_are_judged P_law_are_judged []
  F_law_are_judged : Fun K "_law_are_judged" "_law_are_judged" s_law_are_judged A.f_law_are_judged A.d_law_are_judged
  flaw : mg "law" = some (.ref A.flaw)
  plaw : PySem.W.keepIn K (.ref A.flaw) = true
  alaw : Binds K A.dlaw Plaw []
  Flaw : Fun K "law" "law" slaw A.flaw A.dlaw
  b_ValueError : mg "ValueError" = none
  b_abs : mg "abs" = none
  b_bool : mg "bool" = none
  b_int : mg "int" = none
  b_isinstance : mg "isinstance" = none
  b_len : mg "len" = none
  b_list : mg "list" = none
  b_min : mg "min" = none
  b_range : mg "range" = none
  b_reversed : mg "reversed" = none
  b_str : mg "str" = none
  b_tuple : mg "tuple" = none
  k_MOST_BOUND : ∃ t, mg "_MOST_BOUND" = some (.int 1000000000000000 t)
  k_MOST_DIGITS : ∃ t, mg "_MOST_DIGITS" = some (.int 64 t)
  k_MOST_TRIES : ∃ t, mg "_MOST_TRIES" = some (.int 64 t)
  g_gcd : mg "gcd" = some (.builtin "math.gcd")
  cLotError : mg "LotError" = some (.ref A.cLotError)
  cOutOfRange : mg "OutOfRange" = some (.ref A.cOutOfRange)
  cMalformed : mg "Malformed" = some (.ref A.cMalformed)
  cNotThere : mg "NotThere" = some (.ref A.cNotThere)
  cRefused : mg "Refused" = some (.ref A.cRefused)
  cTooMuch : mg "TooMuch" = some (.ref A.cTooMuch)
  xOutOfRange : PySem.W.excIn K A.cOutOfRange [.type "ValueError", .type "Exception", .type "BaseException", .type "object"] "ValueError.__new__" = true
  qOutOfRange : PySem.W.keepIn K (.ref A.cOutOfRange) = true
  uOutOfRange : PySem.W.subIn K (.ref A.cOutOfRange) (.type "BaseException") = some true
  tOutOfRange : PySem.W.typeIn K (.ref A.cOutOfRange) = some (.type "type")
  XOutOfRange : ExcC K A.cOutOfRange
  eOutOfRange : PySem.W.exmOne K (.ref A.cOutOfRange) (.ref A.cLotError) = some true
  xRefused : PySem.W.excIn K A.cRefused [.type "ValueError", .type "Exception", .type "BaseException", .type "object"] "ValueError.__new__" = true
  qRefused : PySem.W.keepIn K (.ref A.cRefused) = true
  uRefused : PySem.W.subIn K (.ref A.cRefused) (.type "BaseException") = some true
  tRefused : PySem.W.typeIn K (.ref A.cRefused) = some (.type "type")
  XRefused : ExcC K A.cRefused
  eRefused : PySem.W.exmOne K (.ref A.cRefused) (.ref A.cLotError) = some true
  iOutOfRange_OutOfRange : PySem.W.kitOne K (.ref A.cOutOfRange) (.ref A.cOutOfRange) = some true
  iOutOfRange_Malformed : PySem.W.kitOne K (.ref A.cOutOfRange) (.ref A.cMalformed) = some false
  iOutOfRange_NotThere : PySem.W.kitOne K (.ref A.cOutOfRange) (.ref A.cNotThere) = some false
  iOutOfRange_Refused : PySem.W.kitOne K (.ref A.cOutOfRange) (.ref A.cRefused) = some false
  iOutOfRange_TooMuch : PySem.W.kitOne K (.ref A.cOutOfRange) (.ref A.cTooMuch) = some false
  iOutOfRange_ValueError : PySem.W.kitOne K (.ref A.cOutOfRange) (.type "ValueError") = some true
  iRefused_OutOfRange : PySem.W.kitOne K (.ref A.cRefused) (.ref A.cOutOfRange) = some false
  iRefused_Malformed : PySem.W.kitOne K (.ref A.cRefused) (.ref A.cMalformed) = some false
  iRefused_NotThere : PySem.W.kitOne K (.ref A.cRefused) (.ref A.cNotThere) = some false
  iRefused_Refused : PySem.W.kitOne K (.ref A.cRefused) (.ref A.cRefused) = some true
  iRefused_TooMuch : PySem.W.kitOne K (.ref A.cRefused) (.ref A.cTooMuch) = some false
  iRefused_ValueError : PySem.W.kitOne K (.ref A.cRefused) (.type "ValueError") = some true
structure Bs (base : Heap) (mg : Str → Option Value) (A : Ad) : Prop where
/-- the names of the errors that are raised -/
def nm (A : Ad) : Addr → Option Str := fun c => if c = A.cOutOfRange then some "OutOfRange" else if c = A.cRefused then some "Refused" else none
section
variable {K : PySem.W.Frag} {mg : Str → Option Value} {A : Ad}
theorem hcat (T : Txt K mg A) : ∀ c b, catOf (nm A) c = some b → PySem.W.exmOne K (.ref c) (.ref A.cLotError) = some b := fun c b h => by
  unfold catOf nm at h
  by_cases eOutOfRange : c = A.cOutOfRange
  · rw [eOutOfRange, T.eOutOfRange]
    have : b = true := by
      revert h; split <;> simp_all
    rw [this]
  by_cases eRefused : c = A.cRefused
  · rw [eRefused, T.eRefused]
    have : b = true := by
      revert h; split <;> simp_all
    rw [this]
  · exfalso; simp [eOutOfRange, eRefused] at h
end
end Lw

namespace Lw
open PySem L2 Den Evl PySem.Spec PyProof.Rows Zn
variable [Tbs]
/-! the draws -/
def S_law_draws (A : Ad) : WFF := fun ps R _ => ∃ ns : List Int, ps = [.va (.list (ns.map PyData.int))] ∧ ns.length ≤ 63 ∧ (∀ z, z ∈ ns → Builtin.Int.intBits z ≤ 1048576) ∧ ∀ ms : List Int, R (ms.map PyData.int) [.no]
def S_law_take (A : Ad) : WF := fun ps R _ => ∃ (ms : List Int) (b : Int), ps = [.io (ms.map PyData.int), .va (.int b)] ∧ 0 < b ∧ b ≤ 10 ^ 100 ∧ ∀ (r : Int) (ms' : List Int), 0 ≤ r → r < b → R (.int r) [.io (ms'.map PyData.int), .no]
/-! alike -/
def flatP : D → Prop
  | .list _ => False
  | .tuple _ => False
  | .dict _ => False
  | _ => True
def okS : Nat → D → Prop
  | 0, x => flatP x
  | d + 1, x => match x with
    | .list xs => xs.length ≤ 100000 ∧ ∀ y, y ∈ xs → okS d y
    | .tuple xs => xs.length ≤ 100000 ∧ ∀ y, y ∈ xs → okS d y
    | x => flatP x
def S_law_same : Nat → Ad → WF
  | 0, _ => fun _ _ _ => False
  | d + 1, _ => fun ps R _ => ∃ x : D, ps = [.va x, .va x] ∧ okS d x ∧ R (.bool true) [.no, .no]
def isNum (d : D) (a b : Int) : Bool := match d with
  | .int i => decide (a ≤ i) && decide (i ≤ b)
  | _ => false
def Sis_number (A : Ad) : WF := fun ps R _ => ∃ (d : D) (a b : Int), ps = [.va d, .va (.int a), .va (.int b)] ∧ R (.bool (isNum d a b)) [.no, .no, .no]
/-! fractions and powers, over natural numbers -/
abbrev nI (n : Nat) : D := .int (n : Int)
abbrev frN (p w : Nat) : D := .tuple [nI p, nI w]
def loD (p w : Nat) : D := frN (p / Nat.gcd p w) (w / Nat.gcd p w)
def bX : Nat := 2 ^ 4000
def Smade (A : Ad) : WF := fun ps R _ => ∃ p w : Nat, ps = [.va (nI p), .va (nI w)] ∧ 0 < w ∧ w < bX ∧ R (loD p w) [.no, .no]
def Sto_power (A : Ad) : WF := fun ps R _ => ∃ b e : Nat, ps = [.va (nI b), .va (nI e)] ∧ b < 2 ^ 520 ∧ e ≤ 64 ∧ R (nI (b ^ e)) [.no, .no]
def S_law_power (A : Ad) : WF := Sto_power A
def S_law_lowest (A : Ad) : WF := fun ps R _ => ∃ p w : Nat, ps = [.va (nI p), .va (nI w)] ∧ 0 < w ∧ w < bX ∧ p * w < 2 ^ 3999 ∧ R (loD p w) [.no, .no]
def S_law_plus (A : Ad) : WF := fun ps R _ => ∃ a b c d : Nat, ps = [.va (frN a b), .va (frN c d)] ∧ 0 < b ∧ 0 < d ∧ a < 2 ^ 800 ∧ b < 2 ^ 800 ∧ c < 2 ^ 800 ∧ d < 2 ^ 800 ∧ R (loD (a * d + c * b) (b * d)) [.no, .no]
/-! manners -/
def kMod : Str := "mod"
def kScale : Str := "scale"
def kAgain : Str := "again"
abbrev mnD (kd : Str) (m t : Nat) : D := .tuple [.str kd, nI m, nI t]
def okN (n : Nat) : Prop := 1 ≤ n ∧ n ≤ 1000000000000000
structure Mn (kd : Str) (b m t : Nat) : Prop where
  k : kd = kMod ∨ kd = kScale ∨ kd = kAgain
  b0 : 1 ≤ b
  b1 : b ≤ 256
  m1 : m ≤ 64
  t0 : 1 ≤ t
  t1 : t ≤ 64
  mt : m * t ≤ 192
/-- the weight of a result, and of all -/
def wB (n : Nat) (kd : Str) (b m t : Nat) : Nat := if kd = kAgain then n * (b ^ m) ^ t else b ^ m
def clI (n W r : Nat) : Nat := (r * W + (n - 1)) / n
def fav (n b m r : Nat) : Nat := if r < b ^ m % n then 1 else 0
def wt (n : Nat) (kd : Str) (b m t r : Nat) : Nat :=
  if kd = kScale then clI n (b ^ m) (r + 1) - clI n (b ^ m) r
  else if kd = kMod then b ^ m / n + fav n b m r
  else if b ^ m % n = 0 then (b ^ m) ^ t
  else ((b ^ m) ^ t - (b ^ m % n) ^ t) + (b ^ m % n) ^ (t - 1) * n * fav n b m r
def okI (n : Int) : Prop := 1 ≤ n ∧ n ≤ 1000000000000000
instance (n : Int) : Decidable (okI n) := inferInstanceAs (Decidable (_ ∧ _))
def Sis_bound (A : Ad) : WF := fun ps R _ => ∃ n : Int, ps = [.va (.int n)] ∧ R (.bool (decide (okI n))) [.no]
def Scheck_bound (A : Ad) : WF := fun ps R E => ∃ n : Int, ps = [.va (.int n)] ∧ (¬ okI n → E A.cOutOfRange [.no]) ∧ (okI n → R .none [.no])
def S_least_number (A : Ad) : WF := fun ps R _ => ∃ n W r : Nat, ps = [.va (nI n), .va (nI W), .va (nI r)] ∧ okN n ∧ W < 2 ^ 520 ∧ r < 2 ^ 60 ∧ R (nI (clI n W r)) [.no, .no, .no]
def Swhole_below (A : Ad) : WF := fun ps R _ => ∃ (n : Nat) (kd : Str) (b m t : Nat), ps = [.va (nI n), .va (mnD kd m t), .va (nI b)] ∧ okN n ∧ Mn kd b m t ∧ R (nI (wB n kd b m t)) [.no, .no, .no]
def Sweight_between (A : Ad) : WF := fun ps R _ => ∃ (n : Nat) (kd : Str) (b m t r : Nat), ps = [.va (nI n), .va (mnD kd m t), .va (nI b), .va (nI r), .va (nI (r + 1))] ∧ okN n ∧ Mn kd b m t ∧ r < n ∧ R (nI (wt n kd b m t r)) [.no, .no, .no, .no, .no]
def Schance_below (A : Ad) : WF := fun ps R E => ∃ (n : Int) (kd : Str) (b m t : Nat) (r : Int), ps = [.va (.int n), .va (mnD kd m t), .va (nI b), .va (.int r)] ∧ Mn kd b m t ∧ (¬ okI n → E A.cOutOfRange [.no, .no, .no, .no]) ∧
  (okI n → (0 ≤ r → r < n → R (loD (wt n.toNat kd b m t r.toNat) (wB n.toNat kd b m t)) [.no, .no, .no, .no]) ∧ (¬ (0 ≤ r ∧ r < n) → R (frN 0 1) [.no, .no, .no, .no]))
/-! rows of digits -/
def rowD (r : List Nat) : D := .tuple (r.map fun d => nI d)
def numN (b : Nat) (l : List Nat) : Nat := l.foldl (fun a d => a * b + d) 0
def lev (n b m : Nat) : Nat := b ^ m - b ^ m % n
def agn (n b m : Nat) : Nat → List Nat → Nat → Option (Nat × Nat)
  | 0, _, _ => none
  | t + 1, l, a => if m ≤ l.length then (if t = 0 ∨ numN b (l.take m) < lev n b m then some (numN b (l.take m) % n, a + m) else agn n b m t (l.drop m) (a + m)) else none
/-- what is drawn from the row, and the place behind -/
def rdB (n : Nat) (kd : Str) (b m t : Nat) (r : List Nat) : Option (Nat × Nat) :=
  if n = 1 then some (0, 0) else if kd = kScale then (if m ≤ r.length then some (numN b (r.take m) * n / b ^ m, m) else none) else agn n b m t r 0
def prD : Option (Nat × Nat) → D
  | none => .none
  | some (x, a) => .tuple [nI x, nI a]
structure Mk (kd : Str) (b m t : Nat) : Prop where
  n : Mn kd b m t
  one : kd ≠ kAgain → t = 1
  two : 2 ≤ b
structure Rw (b : Nat) (r : List Nat) : Prop where
  d : ∀ x, x ∈ r → x < b
  l : r.length ≤ 1000
def S_number_at (A : Ad) : WF := fun ps R E => ∃ (r : List Nat) (a m b : Nat), ps = [.va (rowD r), .va (nI a), .va (nI m), .va (nI b)] ∧ 0 < b ∧ b ≤ 256 ∧ Rw b r ∧ m ≤ 64 ∧ (r.length < a + m → E A.cRefused [.no, .no, .no, .no]) ∧
  (a + m ≤ r.length → R (nI (numN b ((r.drop a).take m))) [.no, .no, .no, .no])
def Sread_below (A : Ad) : WF := fun ps R E => ∃ (n : Nat) (kd : Str) (b m t : Nat) (r : List Nat), ps = [.va (nI n), .va (mnD kd m t), .va (nI b), .va (rowD r), .va (.int 0)] ∧ okN n ∧ Mk kd b m t ∧ Rw b r ∧
  (rdB n kd b m t r = none → E A.cRefused [.no, .no, .no, .no, .no]) ∧ (∀ x a, rdB n kd b m t r = some (x, a) → R (.tuple [nI x, nI a]) [.no, .no, .no, .no, .no])
def Sdraw_below (A : Ad) : WF := fun ps R E => ∃ (n : Int) (kd : Str) (b m t : Nat) (r : List Nat), ps = [.va (.int n), .va (mnD kd m t), .va (nI b), .va (rowD r)] ∧ Mk kd b m t ∧ Rw b r ∧ (¬ okI n → E A.cOutOfRange [.no, .no, .no, .no]) ∧
  (okI n → rdB n.toNat kd b m t r = none → E A.cRefused [.no, .no, .no, .no]) ∧ (okI n → ∀ x a, rdB n.toNat kd b m t r = some (x, a) → R (.tuple [nI x, nI a]) [.no, .no, .no, .no])
def S_law_below (A : Ad) : WF := fun ps R _ => ∃ (n : Nat) (kd : Str) (b m t : Nat) (r : List Nat), ps = [.va (nI n), .va (mnD kd m t), .va (nI b), .va (rowD r), .va (.int 0)] ∧ okN n ∧ Mk kd b m t ∧ Rw b r ∧ R (prD (rdB n kd b m t r)) [.no, .no, .no, .no, .no]
/-! is this a manner? -/
def kOk : D → Bool
  | .str s => decide (s = kMod) || (decide (s = kScale) || decide (s = kAgain))
  | _ => false
def kAg : D → Bool
  | .str s => decide (s = kAgain)
  | _ => false
def t1B : D → Bool
  | .int i => decide (i = 1)
  | _ => false
def manB : D → Bool
  | .tuple [k, m, t] => kOk k && (isNum m 1 64 && (isNum t 1 64 && (kAg k || t1B t)))
  | _ => false
def shp : D → Prop
  | .tuple ds => ds.length ≤ 1000 ∧ ∀ k m t, ds = [k, m, t] → (k = .none ∨ ∃ s, k = .str s) ∧ flatP m ∧ flatP t
  | .list _ => True
  | .none => True
  | _ => False
def Sis_manner (A : Ad) : WF := fun ps R _ => ∃ d : D, ps = [.va d] ∧ shp d ∧ R (.bool (manB d)) [.no]
def S_law_fits (A : Ad) : WF := Sis_manner A
def S_law_are_judged (A : Ad) : WF := fun ps R _ => ∃ (ms : List Int) (kd : Str) (m t : Nat), ps = [.io (ms.map PyData.int), .va (mnD kd m t)] ∧ ∀ ms' : List Int, R (.bool true) [.io (ms'.map PyData.int), .no]
/-! rows, manners, tries -/
def rows (b : Nat) : Nat → List (List Nat)
  | 0 => [[]]
  | c + 1 => (rows b c).flatMap fun r => (List.range b).map fun d => r ++ [d]
def S_law_manner (A : Ad) : WF := fun ps R _ => ∃ ms : List Int, ps = [.io (ms.map PyData.int), .va (.int 700)] ∧ ∀ (kd : Str) (b m t : Nat) (ms' : List Int), Mk kd b m t → m ≤ 4 → t ≤ 4 → b ≤ 10 → b ^ (m * t) ≤ 700 → R (.tuple [nI b, mnD kd m t]) [.io (ms'.map PyData.int), .no]
def S_law_rows (A : Ad) : WF := fun ps R _ => ∃ b c : Nat, ps = [.va (nI b), .va (nI c)] ∧ 2 ≤ b ∧ b ≤ 10 ∧ c ≤ 16 ∧ b ^ c ≤ 700 ∧ R (.list ((rows b c).map rowD)) [.no, .no]
def tryD (n : Int) (kd : Str) (b m t : Nat) (r : List Nat) : D := if okI n then (match rdB n.toNat kd b m t r with
  | none => .str "Refused"
  | some (x, a) => .tuple [nI x, nI a]) else .str "OutOfRange"
def S_law_try (A : Ad) : WF := fun ps R _ => ∃ (w : Nat) (n : Int) (kd : Str) (b m t : Nat) (d : D), ps = [.va (nI w), .va (.int n), .va (mnD kd m t), .va (nI b), .va d] ∧ Mk kd b m t ∧
  ((w = 0 ∧ ∃ r, d = rowD r ∧ Rw b r ∧ R (tryD n kd b m t r) [.no, .no, .no, .no, .no]) ∨ (w = 1 ∧ ∃ r : Int, d = .int r ∧ ¬ okI n ∧ R (.str "OutOfRange") [.no, .no, .no, .no, .no]))
def Slaw (A : Ad) : WF := SLaw
end Lw

namespace Lw
open PySem L2 Den Evl PySem.Spec PyProof.Rows Zn
variable [Tbs]
def wis_number (A : Ad) : WS := wRet (wAndV (wIsi "int" (wN 0)) (wAndV (wNotV (wIsi "bool" (wN 0))) (wChain fLe fLe (wN 1) (wN 0) (wN 2))))
@[reducible] def wmade_t0 (A : Ad) : WS := wSeq (wSet 2 (wIf (wTb (wOp fGt (wN 1) (wL (wC (.int 0))))) (wB2 fGcd (wN 0) (wN 1)) (wUn fNeg (wL (wB2 fGcd (wN 0) (wN 1)))))) (wRet (wTup (waCons (wOp fDiv (wN 0) (wN 2)) (waCons (wOp fDiv (wN 1) (wN 2)) (waNil)))))
def wmade (A : Ad) : WS := wSeq (wIfS (wTb (wOp fEq (wN 1) (wL (wC (.int 0))))) (wRaise A.cOutOfRange) (wNext)) (wmade_t0 A)
@[reducible] def wto_power_t0 (A : Ad) : WS := wSeq (wWhile (wTb (wOp fGt (wN 1) (wL (wC (.int 0))))) (wSeq (wIfS (wTb (wOp fEq (wL (wOp fMod (wN 1) (wL (wC (.int 2))))) (wL (wC (.int 1))))) (wSet 2 (wOp fMul (wN 2) (wN 3))) (wNext)) (wSeq (wSet 3 (wOp fMul (wN 3) (wN 3))) (wSet 1 (wOp fDiv (wN 1) (wL (wC (.int 2)))))))) (wRet (wV 2))
def wto_power (A : Ad) : WS := wSeq (wSet 2 (wC (.int 1))) (wSeq (wSet 3 (wV 0)) (wto_power_t0 A))
@[reducible] def w_number_at_t0 (A : Ad) : WS := wSeq (wSet 4 (wC (.int 0))) (wSeq (wFor (wiA (wSlV (wN 0) (wpAt (wV 1)) (wpAt (wOp fAdd (wN 1) (wN 2))))) (wgName 5) (wSet 4 (wOp fAdd (wL (wOp fMul (wN 4) (wN 3))) (wN 5)))) (wRet (wV 4)))
def w_number_at (A : Ad) : WS := wSeq (wIfS (wTb (wOp fGt (wL (wOp fAdd (wN 1) (wN 2))) (wL (wB1 fLen (wN 0))))) (wRaise A.cRefused) (wNext)) (w_number_at_t0 A)
def w_least_number (A : Ad) : WS := wRet (wUn fNeg (wL (wOp fDiv (wL (wOp fMul (wL (wUn fNeg (wN 2))) (wN 1))) (wN 0))))
@[reducible] def w_law_draws_t0 (A : Ad) : WS := wSeq (wApp 1 (wOp fMod (wL (wB1 fInt (wL (wOp fAdd (wL (wOp fMul (wN 6) (wL (wC (.int 69621))))) (wN 5))))) (wL (wC (.int 2147483629))))) (wSeq (wApp 1 (wOp fMod (wL (wB1 fInt (wL (wOp fAdd (wN 6) (wL (wOp fDiv (wN 5) (wL (wC (.int 7))))))))) (wL (wC (.int 1000003))))) (wSet 5 (wC (.int 0))))
@[reducible] def w_law_draws_t1 (A : Ad) : WS := wIfS (wTb (wOp fGt (wN 5) (wL (wC (.int 0))))) (wSeq (wApp 1 (wOp fMod (wL (wB1 fInt (wN 5))) (wL (wC (.int 997))))) (wSet 5 (wOp fDiv (wN 5) (wL (wC (.int 997)))))) (wNext)
@[reducible] def w_law_draws_t2 (A : Ad) : WS := wSeq (wIfS (wTb (wOp fLt (wN 5) (wL (wOp fPow (wL (wC (.int 10))) (wL (wC (.int 18))))))) (wSeq (wSet 6 (wOp fMod (wL (wB1 fInt (wL (wOp fAdd (wL (wOp fMul (wN 5) (wL (wC (.int 48271))))) (wL (wC (.int 11))))))) (wL (wC (.int 2147483647))))) (w_law_draws_t0 A)) (wNext)) (wFor (wiR1 (waCons (wC (.int 60)) (waNil))) (wgName 4) (w_law_draws_t1 A))
@[reducible] def w_law_draws_t3 (A : Ad) : WS := wSeq (wSet 3 (wOp fMod (wL (wB1 fInt (wL (wOp fAdd (wL (wOp fMul (wN 3) (wL (wC (.int 48271))))) (wL (wC (.int 69621))))))) (wL (wC (.int 2147483647))))) (wApp 1 (wOp fDiv (wN 3) (wL (wC (.int 5)))))
@[reducible] def w_law_draws_t4 (A : Ad) : WS := wSeq (wIfS (wTb (wOp fGt (wL (wB1 fLen (wN 0))) (wL (wC (.int 0))))) (wSet 3 (wOp fAdd (wL (wC (.int 1))) (wL (wB1 fAbs (wL (wOp fIx (wN 0) (wL (wC (.int 0))))))))) (wNext)) (wSeq (wFor (wiR1 (waCons (wC (.int 900)) (waNil))) (wgName 4) (w_law_draws_t3 A)) (wRetF (wRevL (wN 1))))
def w_law_draws (A : Ad) : WS := wSeq (wSetO 1 (waNil)) (wSeq (wFor (wiA (wV 0)) (wgName 2) (wSeq (wSet 5 (wB1 fAbs (wN 2))) (w_law_draws_t2 A))) (wSeq (wSet 3 (wC (.int 1))) (w_law_draws_t4 A)))
def w_law_take (A : Ad) : WS := wSeq (wIfS (wTb (wOp fEq (wL (wB1 fLen (wN 0))) (wL (wC (.int 0))))) (wRet (wC (.int 0))) (wNext)) (wRet (wOp fMod (wL (wB1 fInt (wL (wPop 0)))) (wN 1)))
def w_law_power (A : Ad) : WS := wSeq (wSet 2 (wC (.int 1))) (wSeq (wFor (wiR1 (waCons (wV 1) (waNil))) (wgName 3) (wSet 2 (wOp fMul (wN 2) (wN 0)))) (wRet (wV 2)))
def w_law_told (a : Addr) (bOutOfRange bMalformed bNotThere bRefused bTooMuch bValueError : Bool) : WS := wSeq (wSet 1 (wFE (waCons (wIsX 0 a bOutOfRange) (waCons (wIsX 0 a bMalformed) (waCons (wIsX 0 a bNotThere) (waCons (wIsX 0 a bRefused) (waCons (wIsX 0 a bTooMuch) (waNil)))))))) (wSeq (wIfS (wOr (wNot (wTb (wIsX 0 a bValueError))) (wTb (wOp fNe (wL (wB1 fLen (wL (wFE (wLc [2] (wiL (wV 1)) (wgName 2) (wTb (wV 2)) (wV 2)))))) (wL (wC (.int 1)))))) (wRet (wC (.str "other"))) (wNext)) (wRet (wOp fIx (wL (wFE (waCons (wC (.str "OutOfRange")) (waCons (wC (.str "Malformed")) (waCons (wC (.str "NotThere")) (waCons (wC (.str "Refused")) (waCons (wC (.str "TooMuch")) (waNil)))))))) (wL (wIdx (wN 1) (wC (.bool true)))))))
@[reducible] def w_law_lowest_t0 (A : Ad) : WS := wSeq (wFor (wiR1 (waCons (wC (.int 4000)) (waNil))) (wgName 4) (wSeq (wIfS (wTb (wOp fEq (wN 3) (wL (wC (.int 0))))) (wBreak) (wNext)) (wPar 2 3 (waCons (wV 3) (waCons (wOp fMod (wL (wB1 fInt (wN 2))) (wN 3)) (waNil)))))) (wRet (wTup (waCons (wOp fDiv (wN 0) (wN 2)) (waCons (wOp fDiv (wN 1) (wN 2)) (waNil)))))
def w_law_lowest (A : Ad) : WS := wSeq (wSet 2 (wV 1)) (wSeq (wSet 3 (wV 0)) (w_law_lowest_t0 A))
@[reducible] def w_law_rows_t0 (A : Ad) : WS := wSeq (wFor (wiA (wV 2)) (wgName 5) (wFor (wiR1 (waCons (wV 0) (waNil))) (wgName 6) (wApp 4 (wOp fAdd (wN 5) (wL (wTup (waCons (wV 6) (waNil)))))))) (wSet 2 (wV 4))
def w_law_rows (A : Ad) : WS := wSeq (wSet 2 (wFE (waCons (wTup (waNil)) (waNil)))) (wSeq (wFor (wiR1 (waCons (wV 1) (waNil))) (wgName 3) (wSeq (wSetO 4 (waNil)) (w_law_rows_t0 A))) (wRet (wV 2)))
@[reducible] def w_law_fits_t0 (A : Ad) : WS := wIfS (wOr (wNot (wTb (wIsi "int" (wN 1)))) (wOr (wTb (wIsi "bool" (wN 1))) (wNot (wTb (wChain fLe fLe (wL (wC (.int 1))) (wN 1) (wL (wC (.int 64)))))))) (wRet (wC (.bool false))) (wNext)
@[reducible] def w_law_fits_t1 (A : Ad) : WS := wSeq (wFor (wiA (wSlV (wN 0) (wpAt (wC (.int 1))) (wpNo))) (wgName 1) (w_law_fits_t0 A)) (wRet (wOrV (wOp fEq (wL (wOp fIx (wN 0) (wL (wC (.int 0))))) (wL (wC (.str "again")))) (wOp fEq (wL (wOp fIx (wN 0) (wL (wC (.int 2))))) (wL (wC (.int 1))))))
def w_law_fits (A : Ad) : WS := wSeq (wIfS (wOr (wNot (wTb (wIsi "tuple" (wN 0)))) (wOr (wTb (wOp fNe (wL (wB1 fLen (wN 0))) (wL (wC (.int 3))))) (wOr (wNot (wTb (wIsi "str" (wL (wOp fIx (wN 0) (wL (wC (.int 0)))))))) (wTb (wOp (fIn true) (wL (wOp fIx (wN 0) (wL (wC (.int 0))))) (wL (wFE (waCons (wC (.str "mod")) (waCons (wC (.str "scale")) (waCons (wC (.str "again")) (waNil))))))))))) (wRet (wC (.bool false))) (wNext)) (w_law_fits_t1 A)
@[reducible] def wis_manner_t0 (A : Ad) : WS := wSeq (wIfS (wOr (wTb (wOp (fIn true) (wN 1) (wL (wTup (waCons (wC (.str "mod")) (waCons (wC (.str "scale")) (waCons (wC (.str "again")) (waNil)))))))) (wNot (wTb (wCall (Sis_number A) (wmV (wV 2) (wmV (wC (.int 1)) (wmV (wC (.int 64)) (wmNil)))))))) (wRet (wC (.bool false))) (wNext)) (wRet (wCall (Sis_number A) (wmV (wV 3) (wmV (wC (.int 1)) (wmV (wIf (wTb (wOp fEq (wN 1) (wL (wC (.str "again"))))) (wC (.int 64)) (wC (.int 1))) (wmNil))))))
def wis_manner (A : Ad) : WS := wSeq (wIfS (wOr (wNot (wTb (wIsi "tuple" (wN 0)))) (wTb (wOp fNe (wL (wB1 fLen (wN 0))) (wL (wC (.int 3)))))) (wRet (wC (.bool false))) (wNext)) (wSeq (wUnpT [1, 2, 3] (wN 0)) (wis_manner_t0 A))
def wis_bound (A : Ad) : WS := wRet (wCall (Sis_number A) (wmV (wV 0) (wmV (wC (.int 1)) (wmV (wC (.int 1000000000000000)) (wmNil)))))
@[reducible] def wread_below_t0 (A : Ad) : WS := wSeq (wSet 11 (wCall (S_number_at A) (wmV (wV 3) (wmV (wV 4) (wmV (wV 9) (wmV (wV 2) (wmNil))))))) (wSeq (wSet 4 (wOp fAdd (wN 4) (wN 9))) (wIfS (wOr (wTb (wOp fEq (wN 7) (wL (wC (.int 1))))) (wTb (wOp fLt (wN 11) (wN 6)))) (wBreak) (wNext)))
@[reducible] def wread_below_t1 (A : Ad) : WS := wSeq (wFor (wiR3 (waCons (wV 10) (waCons (wC (.int 0)) (waCons (wUn fNeg (wL (wC (.int 1)))) (waNil))))) (wgName 7) (wread_below_t0 A)) (wRet (wTup (waCons (wOp fMod (wN 11) (wN 0)) (waCons (wV 4) (waNil)))))
@[reducible] def wread_below_t2 (A : Ad) : WS := wSeq (wIfS (wTb (wOp fEq (wN 8) (wL (wC (.str "scale"))))) (wRet (wTup (waCons (wOp fDiv (wL (wOp fMul (wL (wCall (S_number_at A) (wmV (wV 3) (wmV (wV 4) (wmV (wV 9) (wmV (wV 2) (wmNil))))))) (wN 0))) (wN 5)) (waCons (wOp fAdd (wN 4) (wN 9)) (waNil))))) (wNext)) (wSeq (wSet 6 (wOp fSub (wN 5) (wL (wOp fMod (wN 5) (wN 0))))) (wread_below_t1 A))
def wread_below (A : Ad) : WS := wSeq (wIfS (wTb (wOp fEq (wN 0) (wL (wC (.int 1))))) (wRet (wTup (waCons (wC (.int 0)) (waCons (wV 4) (waNil))))) (wNext)) (wSeq (wUnpT [8, 9, 10] (wN 1)) (wSeq (wSet 5 (wCall (Sto_power A) (wmV (wV 2) (wmV (wV 9) (wmNil))))) (wread_below_t2 A)))
@[reducible] def wwhole_below_t0 (A : Ad) : WS := wSeq (wSet 3 (wCall (Sto_power A) (wmV (wV 2) (wmV (wV 5) (wmNil))))) (wRet (wIf (wTb (wOp fEq (wN 4) (wL (wC (.str "again"))))) (wOp fMul (wN 0) (wL (wCall (Sto_power A) (wmV (wV 3) (wmV (wV 6) (wmNil)))))) (wV 3)))
def wwhole_below (A : Ad) : WS := wSeq (wUnpT [4, 5, 6] (wN 1)) (wwhole_below_t0 A)
@[reducible] def wweight_between_t0 (A : Ad) : WS := wRet (wOp fAdd (wL (wOp fMul (wL (wOp fSub (wL (wCall (Sto_power A) (wmV (wV 5) (wmV (wV 11) (wmNil))))) (wL (wOp fMul (wN 8) (wN 6))))) (wL (wOp fSub (wN 4) (wN 3))))) (wL (wOp fMul (wL (wOp fMul (wN 8) (wN 0))) (wN 7))))
@[reducible] def wweight_between_t1 (A : Ad) : WS := wSeq (wIfS (wTb (wOp fEq (wN 6) (wL (wC (.int 0))))) (wRet (wOp fMul (wL (wCall (Sto_power A) (wmV (wV 5) (wmV (wV 11) (wmNil))))) (wL (wOp fSub (wN 4) (wN 3))))) (wNext)) (wSeq (wSet 8 (wCall (Sto_power A) (wmV (wV 6) (wmV (wOp fSub (wN 11) (wL (wC (.int 1)))) (wmNil))))) (wweight_between_t0 A))
@[reducible] def wweight_between_t2 (A : Ad) : WS := wSeq (wIfS (wTb (wOp fEq (wN 9) (wL (wC (.str "mod"))))) (wRet (wOp fAdd (wL (wOp fMul (wL (wOp fDiv (wN 5) (wN 0))) (wL (wOp fSub (wN 4) (wN 3))))) (wN 7))) (wNext)) (wweight_between_t1 A)
@[reducible] def wweight_between_t3 (A : Ad) : WS := wSeq (wIfS (wTb (wOp fEq (wN 9) (wL (wC (.str "scale"))))) (wRet (wOp fSub (wL (wCall (S_least_number A) (wmV (wV 0) (wmV (wV 5) (wmV (wV 4) (wmNil)))))) (wL (wCall (S_least_number A) (wmV (wV 0) (wmV (wV 5) (wmV (wV 3) (wmNil)))))))) (wNext)) (wSeq (wSet 7 (wOp fSub (wL (wB2 fMin2 (wN 4) (wN 6))) (wL (wB2 fMin2 (wN 3) (wN 6))))) (wweight_between_t2 A))
def wweight_between (A : Ad) : WS := wSeq (wUnpT [9, 10, 11] (wN 1)) (wSeq (wSet 5 (wCall (Sto_power A) (wmV (wV 2) (wmV (wV 10) (wmNil))))) (wSeq (wSet 6 (wOp fMod (wN 5) (wN 0))) (wweight_between_t3 A)))
def w_law_plus (A : Ad) : WS := wRet (wCall (S_law_lowest A) (wmV (wOp fAdd (wL (wOp fMul (wL (wOp fIx (wN 0) (wL (wC (.int 0))))) (wL (wOp fIx (wN 1) (wL (wC (.int 1))))))) (wL (wOp fMul (wL (wOp fIx (wN 1) (wL (wC (.int 0))))) (wL (wOp fIx (wN 0) (wL (wC (.int 1)))))))) (wmV (wOp fMul (wL (wOp fIx (wN 0) (wL (wC (.int 1))))) (wL (wOp fIx (wN 1) (wL (wC (.int 1)))))) (wmNil))))
@[reducible] def w_law_below_t0 (A : Ad) : WS := wIfS (wOr (wTb (wOp fEq (wN 7) (wL (wC (.str "mod"))))) (wTb (wOp fLt (wN 10) (wL (wOp fSub (wN 5) (wL (wOp fMod (wL (wB1 fInt (wN 5))) (wN 0)))))))) (wRet (wTup (waCons (wOp fMod (wL (wB1 fInt (wN 10))) (wN 0)) (waCons (wV 4) (waNil))))) (wNext)
@[reducible] def w_law_below_t1 (A : Ad) : WS := wSeq (wIfS (wTb (wOp fEq (wN 7) (wL (wC (.str "scale"))))) (wRet (wTup (waCons (wOp fDiv (wL (wOp fMul (wN 10) (wN 0))) (wN 5)) (waCons (wV 4) (waNil))))) (wNext)) (w_law_below_t0 A)
@[reducible] def w_law_below_t2 (A : Ad) : WS := wSeq (wFor (wiA (wSlV (wN 3) (wpAt (wV 4)) (wpAt (wOp fAdd (wN 4) (wN 8))))) (wgName 11) (wSet 10 (wOp fAdd (wL (wOp fMul (wN 10) (wN 2))) (wN 11)))) (wSeq (wSet 4 (wOp fAdd (wN 4) (wN 8))) (w_law_below_t1 A))
@[reducible] def w_law_below_t3 (A : Ad) : WS := wSeq (wFor (wiR1 (waCons (wV 9) (waNil))) (wgName 6) (wSeq (wIfS (wTb (wOp fGt (wL (wOp fAdd (wN 4) (wN 8))) (wL (wB1 fLen (wN 3))))) (wRet (wC .none)) (wNext)) (wSeq (wSet 10 (wC (.int 0))) (w_law_below_t2 A)))) (wRet (wTup (waCons (wOp fMod (wL (wB1 fInt (wN 10))) (wN 0)) (waCons (wV 4) (waNil)))))
@[reducible] def w_law_below_t4 (A : Ad) : WS := wSeq (wIfS (wTb (wOp fEq (wN 0) (wL (wC (.int 1))))) (wRet (wTup (waCons (wC (.int 0)) (waCons (wV 4) (waNil))))) (wNext)) (wSeq (wSet 5 (wCall (S_law_power A) (wmV (wV 2) (wmV (wV 8) (wmNil))))) (w_law_below_t3 A))
def w_law_below (A : Ad) : WS := wSeq (wUnpT [7, 8, 9] (wN 1)) (w_law_below_t4 A)
@[reducible] def w_law_manner_t0 (A : Ad) : WS := wIfS (wTb (wOp fLe (wL (wCall (S_law_power A) (wmV (wV 3) (wmV (wOp fMul (wL (wOp fIx (wN 5) (wL (wC (.int 1))))) (wL (wOp fIx (wN 5) (wL (wC (.int 2)))))) (wmNil))))) (wN 1))) (wRet (wTup (waCons (wV 3) (waCons (wV 5) (waNil))))) (wNext)
@[reducible] def w_law_manner_t1 (A : Ad) : WS := wSeq (wSet 5 (wTup (waCons (wV 4) (waCons (wOp fAdd (wL (wC (.int 1))) (wL (wCall (S_law_take A) (wmIo 0 (wmV (wC (.int 4)) (wmNil)))))) (waCons (wOp fIx (wL (wFE (waCons (wC (.int 1)) (waCons (wOp fAdd (wL (wC (.int 1))) (wL (wCall (S_law_take A) (wmIo 0 (wmV (wC (.int 4)) (wmNil)))))) (waNil))))) (wL (wB1 fInt (wL (wOp fEq (wN 4) (wL (wC (.str "again")))))))) (waNil)))))) (w_law_manner_t0 A)
@[reducible] def w_law_manner_t2 (A : Ad) : WS := wSeq (wSet 4 (wOp fIx (wL (wFE (waCons (wC (.str "mod")) (waCons (wC (.str "scale")) (waCons (wC (.str "again")) (waNil)))))) (wL (wCall (S_law_take A) (wmIo 0 (wmV (wC (.int 3)) (wmNil))))))) (w_law_manner_t1 A)
@[reducible] def w_law_manner_t3 (A : Ad) : WS := wSeq (wSet 3 (wOp fAdd (wL (wC (.int 2))) (wL (wCall (S_law_take A) (wmIo 0 (wmV (wOp fIx (wL (wFE (waCons (wC (.int 3)) (waCons (wC (.int 9)) (waNil))))) (wL (wCall (S_law_take A) (wmIo 0 (wmV (wC (.int 2)) (wmNil)))))) (wmNil))))))) (w_law_manner_t2 A)
def w_law_manner (A : Ad) : WS := wSeq (wFor (wiR1 (waCons (wC (.int 9)) (waNil))) (wgName 2) (w_law_manner_t3 A)) (wRet (wTup (waCons (wC (.int 2)) (waCons (wTup (waCons (wC (.str "again")) (waCons (wC (.int 2)) (waCons (wC (.int 2)) (waNil))))) (waNil)))))
def wcheck_bound (A : Ad) : WS := wIfS (wNot (wTb (wCall (Sis_bound A) (wmV (wV 0) (wmNil))))) (wRaise A.cOutOfRange) (wNext)
def wdraw_below (A : Ad) : WS := wSeq (wDrop (wCall (Scheck_bound A) (wmV (wV 0) (wmNil)))) (wRet (wCall (Sread_below A) (wmV (wV 0) (wmV (wV 1) (wmV (wV 2) (wmV (wV 3) (wmV (wC (.int 0)) (wmNil))))))))
@[reducible] def wchance_below_t0 (A : Ad) : WS := wRet (wCall (Smade A) (wmV (wCall (Sweight_between A) (wmV (wV 0) (wmV (wV 1) (wmV (wV 2) (wmV (wV 3) (wmV (wOp fAdd (wN 3) (wL (wC (.int 1)))) (wmNil))))))) (wmV (wCall (Swhole_below A) (wmV (wV 0) (wmV (wV 1) (wmV (wV 2) (wmNil))))) (wmNil))))
@[reducible] def wchance_below_t1 (A : Ad) : WS := wSeq (wIfS (wNot (wTb (wChain fLe fLt (wL (wC (.int 0))) (wN 3) (wN 0)))) (wRet (wTup (waCons (wC (.int 0)) (waCons (wC (.int 1)) (waNil))))) (wNext)) (wchance_below_t0 A)
def wchance_below (A : Ad) : WS := wSeq (wDrop (wCall (Scheck_bound A) (wmV (wV 0) (wmNil)))) (wchance_below_t1 A)
@[reducible] def w_law_same_t0 (d : Nat) (A : Ad) : WS := wSeq (wFor (wiR1 (waCons (wB1 fLen (wN 1)) (waNil))) (wgName 2) (wIfS (wNot (wTb (wCall (S_law_same d A) (wmV (wOp fIx (wN 0) (wN 2)) (wmV (wOp fIx (wN 1) (wN 2)) (wmNil)))))) (wRet (wC (.bool false))) (wNext))) (wRet (wC (.bool true)))
@[reducible] def w_law_same_t1 (d : Nat) (A : Ad) : WS := wSeq (wIfS (wOr (wTb (wOp fNe (wL (wIsi "int" (wN 1))) (wL (wIsi "int" (wN 0))))) (wTb (wOp fNe (wL (wIsi "str" (wN 1))) (wL (wIsi "str" (wN 0)))))) (wRet (wC (.bool false))) (wNext)) (wRet (wOp fEq (wN 0) (wN 1)))
@[reducible] def w_law_same_t2 (d : Nat) (A : Ad) : WS := wSeq (wIfS (wOr (wTb (wIsi "tuple" (wN 1))) (wTb (wIsi "list" (wN 1)))) (wSeq (wIfS (wOr (wTb (wOp fNe (wL (wIsi "tuple" (wN 1))) (wL (wIsi "tuple" (wN 0))))) (wTb (wOp fNe (wL (wIsi "list" (wN 1))) (wL (wIsi "list" (wN 0)))))) (wRet (wC (.bool false))) (wNext)) (wSeq (wIfS (wTb (wOp fNe (wL (wB1 fLen (wN 0))) (wL (wB1 fLen (wN 1))))) (wRet (wC (.bool false))) (wNext)) (w_law_same_t0 d A))) (wNext)) (wSeq (wIfS (wTb (wOp fNe (wL (wIsi "bool" (wN 1))) (wL (wIsi "bool" (wN 0))))) (wRet (wC (.bool false))) (wNext)) (w_law_same_t1 d A))
def w_law_same (d : Nat) (A : Ad) : WS := wSeq (wIfS (wOr (wTb (wOp fIsN (wN 1) (wL (wC .none)))) (wTb (wOp fIsN (wN 0) (wL (wC .none))))) (wRet (wAndV (wOp fIsN (wN 1) (wL (wC .none))) (wOp fIsN (wN 0) (wL (wC .none))))) (wNext)) (w_law_same_t2 d A)
def w_law_try (A : Ad) : WS := wTry (catOf (nm A)) 5 (wRet (wIf (wTb (wOp fEq (wN 0) (wL (wC (.int 0))))) (wCall (Sdraw_below A) (wmV (wV 1) (wmV (wV 2) (wmV (wV 3) (wmV (wV 4) (wmNil)))))) (wCall (Schance_below A) (wmV (wV 1) (wmV (wV 2) (wmV (wV 3) (wmV (wV 4) (wmNil)))))))) (wSuite (nm A) fun a t => wRet (wTold 5 a t))
@[reducible] def w_law_are_judged_t0 (A : Ad) : WS := wIfS (wNot (wTb (wCall (S_law_same 4 A) (wmV (wCall (Sis_manner A) (wmV (wV 3) (wmNil))) (wmV (wCall (S_law_fits A) (wmV (wV 3) (wmNil))) (wmNil)))))) (wRet (wC (.bool false))) (wNext)
@[reducible] def w_law_are_judged_t1 (A : Ad) : WS := wSeq (wFor (wiA (wFE (waCons (wV 1) (waCons (wTup (waCons (wV 4) (waCons (wV 2) (waCons (wV 6) (waNil))))) (waCons (wTup (waCons (wV 4) (waCons (wV 5) (waCons (wV 2) (waNil))))) (waCons (wTup (waCons (wOp fIx (wL (wFE (waCons (wC (.str "Mod")) (waCons (wC (.str "")) (waCons (wC .none) (waCons (wC (.str "scale")) (waCons (wC (.str "again")) (waCons (wC (.str "mod")) (waNil))))))))) (wL (wCall (S_law_take A) (wmIo 0 (wmV (wC (.int 6)) (wmNil)))))) (waCons (wV 5) (waCons (wV 6) (waNil))))) (waCons (wFE (wNewL gListOf (wN 1))) (waCons (wOp fAdd (wN 1) (wL (wTup (waCons (wC (.int 1)) (waNil))))) (waCons (wSlV (wN 1) (wpNo) (wpAt (wC (.int 2)))) (waCons (wC .none) (waNil))))))))))) (wgName 3) (w_law_are_judged_t0 A)) (wRet (wC (.bool true)))
@[reducible] def w_law_are_judged_t2 (A : Ad) : WS := wSeq (wSet 2 (wOp fIx (wL (wFE (waCons (wC (.int 0)) (waCons (wUn fNeg (wL (wC (.int 1)))) (waCons (wC (.int 64)) (waCons (wC (.int 65)) (waCons (wC (.int 2)) (waCons (wC (.bool true)) (waCons (wC .none) (waCons (wC (.str "1")) (waNil))))))))))) (wL (wCall (S_law_take A) (wmIo 0 (wmV (wC (.int 8)) (wmNil))))))) (w_law_are_judged_t1 A)
def w_law_are_judged (A : Ad) : WS := wSeq (wUnpT [4, 5, 6] (wN 1)) (w_law_are_judged_t2 A)
@[reducible] def wlaw_t0 (A : Ad) : WS := wIfS (wNot (wTb (wCall (S_law_same 4 A) (wmV (wCall (Sdraw_below A) (wmV (wV 2) (wmV (wV 15) (wmV (wV 14) (wmV (wV 6) (wmNil)))))) (wmV (wV 16) (wmNil)))))) (wRet (wC (.bool false))) (wNext)
@[reducible] def wlaw_t1 (A : Ad) : WS := wSeq (wPut 5 (wOp fAdd (wL (wOp fIx (wN 5) (wL (wOp fIx (wN 16) (wL (wC (.int 0))))))) (wL (wC (.int 1)))) (wL (wOp fIx (wN 16) (wL (wC (.int 0)))))) (wlaw_t0 A)
@[reducible] def wlaw_t2 (A : Ad) : WS := wSeq (wIfS (wNot (wTb (wCall (S_law_same 4 A) (wmV (wV 17) (wmV (wCall (S_law_lowest A) (wmV (wOp fIx (wN 5) (wN 8)) (wmV (wB1 fLen (wN 4)) (wmNil)))) (wmNil)))))) (wRet (wC (.bool false))) (wNext)) (wSet 7 (wCall (S_law_plus A) (wmV (wV 7) (wmV (wV 17) (wmNil)))))
@[reducible] def wlaw_t3 (A : Ad) : WS := wIfS (wNot (wTb (wCall (S_law_same 4 A) (wmV (wCall (S_law_try A) (wmV (wC (.int 0)) (wmV (wV 2) (wmV (wV 15) (wmV (wV 14) (wmV (wV 9) (wmNil))))))) (wmV (wIf (wTb (wOp fNotN (wN 16) (wL (wC .none)))) (wV 16) (wC (.str "Refused"))) (wmNil)))))) (wRet (wC (.bool false))) (wNext)
@[reducible] def wlaw_t4 (A : Ad) : WS := wIfS (wOr (wTb (wOp fNe (wL (wCall (S_law_try A) (wmV (wC (.int 0)) (wmV (wV 10) (wmV (wV 15) (wmV (wV 14) (wmV (wV 6) (wmNil)))))))) (wL (wC (.str "OutOfRange"))))) (wTb (wOp fNe (wL (wCall (S_law_try A) (wmV (wC (.int 1)) (wmV (wV 10) (wmV (wV 15) (wmV (wV 14) (wmV (wC (.int 0)) (wmNil)))))))) (wL (wC (.str "OutOfRange")))))) (wRet (wC (.bool false))) (wNext)
@[reducible] def wlaw_t5 (A : Ad) : WS := wIfS (wNot (wTb (wCall (S_law_same 4 A) (wmV (wCall (Sdraw_below A) (wmV (wV 11) (wmV (wTup (waCons (wV 13) (waCons (wC (.int 7)) (waCons (wC (.int 1)) (waNil))))) (wmV (wC (.int 256)) (wmV (wV 12) (wmNil)))))) (wmV (wCall (S_law_below A) (wmV (wV 11) (wmV (wTup (waCons (wV 13) (waCons (wC (.int 7)) (waCons (wC (.int 1)) (waNil))))) (wmV (wC (.int 256)) (wmV (wV 12) (wmV (wC (.int 0)) (wmNil))))))) (wmNil)))))) (wRet (wC (.bool false))) (wNext)
@[reducible] def wlaw_t6 (A : Ad) : WS := wSeq (wFor (wiA (wFE (waCons (wC (.str "mod")) (waCons (wC (.str "scale")) (waCons (wC (.str "again")) (waNil)))))) (wgName 13) (wlaw_t5 A)) (wRet (wC (.bool true)))
@[reducible] def wlaw_t7 (A : Ad) : WS := wSeq (wSet 12 (wB1 fTupOf (wL (wFE (wLc [18] (wiR1 (waCons (wC (.int 14)) (waNil))) (wgName 18) (wYes) (wCall0 (S_law_take A) (wmIo 1 (wmV (wC (.int 256)) (wmNil))))))))) (wlaw_t6 A)
def wlaw_t8 (A : Ad) : WS := wSeq (wSet 11 (wOp fIx (wL (wFE (waCons (wOp fPow (wL (wC (.int 10))) (wL (wC (.int 15)))) (waCons (wOp fSub (wL (wOp fPow (wL (wC (.int 10))) (wL (wC (.int 15))))) (wL (wCall (S_law_take A) (wmIo 1 (wmV (wC (.int 999)) (wmNil)))))) (waNil))))) (wL (wCall (S_law_take A) (wmIo 1 (wmV (wC (.int 2)) (wmNil))))))) (wlaw_t7 A)
def wlaw_t9 (A : Ad) : WS := wSeq (wFor (wiA (wFE (waCons (wC (.int 0)) (waCons (wUn fNeg (wL (wC (.int 1)))) (waCons (wOp fAdd (wL (wOp fPow (wL (wC (.int 10))) (wL (wC (.int 15))))) (wL (wC (.int 1)))) (waCons (wUn fNeg (wN 2)) (waNil))))))) (wgName 10) (wlaw_t4 A)) (wlaw_t8 A)
def wlaw_t10 (A : Ad) : WS := wSeq (wFor (wiA (wFE (waCons (wSlV (wN 6) (wpNo) (wpAt (wCall (S_law_take A) (wmIo 1 (wmV (wOp fAdd (wN 3) (wL (wC (.int 1)))) (wmNil)))))) (waCons (wTup (waNil)) (waCons (wOp fAdd (wN 6) (wL (wTup (waCons (wC (.int 0)) (waCons (wC (.int 1)) (waNil)))))) (waNil)))))) (wgName 9) (wSeq (wSet 16 (wCall (S_law_below A) (wmV (wV 2) (wmV (wV 15) (wmV (wV 14) (wmV (wV 9) (wmV (wC (.int 0)) (wmNil)))))))) (wlaw_t3 A))) (wlaw_t9 A)
def wlaw_t11 (A : Ad) : WS := wSeq (wIfS (wOr (wTb (wOp fNe (wN 7) (wL (wTup (waCons (wC (.int 1)) (waCons (wC (.int 1)) (waNil))))))) (wOr (wTb (wOp fNe (wL (wCall (Schance_below A) (wmV (wV 2) (wmV (wV 15) (wmV (wV 14) (wmV (wV 2) (wmNil))))))) (wL (wTup (waCons (wC (.int 0)) (waCons (wC (.int 1)) (waNil))))))) (wTb (wOp fNe (wL (wCall (Schance_below A) (wmV (wV 2) (wmV (wV 15) (wmV (wV 14) (wmV (wUn fNeg (wL (wC (.int 1)))) (wmNil))))))) (wL (wTup (waCons (wC (.int 0)) (waCons (wC (.int 1)) (waNil))))))))) (wRet (wC (.bool false))) (wNext)) (wSeq (wSet 6 (wOp fIx (wN 4) (wL (wCall (S_law_take A) (wmIo 1 (wmV (wB1 fLen (wN 4)) (wmNil))))))) (wlaw_t10 A))
def wlaw_t12 (A : Ad) : WS := wSeq (wFor (wiR1 (waCons (wV 2) (waNil))) (wgName 8) (wSeq (wSet 17 (wCall (Schance_below A) (wmV (wV 2) (wmV (wV 15) (wmV (wV 14) (wmV (wV 8) (wmNil))))))) (wlaw_t2 A))) (wlaw_t11 A)
def wlaw_t13 (A : Ad) : WS := wSeq (wFor (wiA (wV 4)) (wgName 6) (wSeq (wSet 16 (wCall (S_law_below A) (wmV (wV 2) (wmV (wV 15) (wmV (wV 14) (wmV (wV 6) (wmV (wC (.int 0)) (wmNil)))))))) (wlaw_t1 A))) (wSeq (wSet 7 (wTup (waCons (wC (.int 0)) (waCons (wC (.int 1)) (waNil))))) (wlaw_t12 A))
@[reducible] def wlaw_t14 (A : Ad) : WS := wSeq (wIfS (wNot (wTb (wCall (S_law_are_judged A) (wmIo 1 (wmV (wV 15) (wmNil)))))) (wRet (wC (.bool false))) (wNext)) (wSeq (wSetO 5 (wRepF (wL (wFE (waCons (wC (.int 0)) (waNil)))) (wN 2))) (wlaw_t13 A))
@[reducible] def wlaw_t15 (A : Ad) : WS := wSeq (wSet 3 (wOp fMul (wL (wOp fIx (wN 15) (wL (wC (.int 1))))) (wL (wOp fIx (wN 15) (wL (wC (.int 2))))))) (wSeq (wSet 4 (wCall (S_law_rows A) (wmV (wV 14) (wmV (wV 3) (wmNil))))) (wlaw_t14 A))
@[reducible] def wlaw_t16 (A : Ad) : WS := wSeq (wSet 2 (wOp fAdd (wL (wC (.int 1))) (wL (wCall (S_law_take A) (wmIo 1 (wmV (wOp fIx (wL (wFE (waCons (wC (.int 5)) (waCons (wC (.int 40)) (waNil))))) (wL (wCall (S_law_take A) (wmIo 1 (wmV (wC (.int 2)) (wmNil)))))) (wmNil))))))) (wlaw_t15 A)
def wlaw (A : Ad) : WS := wSeq (wSetO 1 (wCallF (S_law_draws A) (wmV (wV 0) (wmNil)))) (wSeq (wUnpT [14, 15] (wL (wCall (S_law_manner A) (wmIo 1 (wmV (wC (.int 700)) (wmNil)))))) (wlaw_t16 A))
section
variable {P : Program} {w : World} {K : PySem.W.Frag} {mg : Str → Option Value} {base : Heap} {A : Ad}
theorem denis_number (T : Txt K mg A) (B : Bs base mg A) 
    (cdv : Value) (Ar : Around) (outer : List Env) (s : Shared) (H : Hp) (E : XK) (hr : Room 0 (Ar.deeper (envOfC "is_number" (defScope sis_number) s.heap.objs.size A.fis_number cdv))) :
    PSs (cxOf (L2N.CX P w) P w K mg base Nis_number "is_number" (defScope sis_number) A.fis_number cdv Ar outer s H E) (defBody sis_number) (cS K (fun cls d _ H => E cls d H) (wis_number A)) := by
  have nd := scis_number.nd
  exact dsOne (dRet (ps_ret (dAndV (dIsi (fun _ _ ha hb => pe_callB call_isi rfl T.b_isinstance (by decide +kernel) (pa_cons ha (pa_cons hb pa_nil))) (dN (pv 0)) (pe_bltn (v := .ty "int") rfl T.b_int (by decide +kernel) rfl) kit_int) (dAndV (dNotV (dIsi (fun _ _ ha hb => pe_callB call_isi rfl T.b_isinstance (by decide +kernel) (pa_cons ha (pa_cons hb pa_nil))) (dN (pv 0)) (pe_bltn (v := .ty "bool") rfl T.b_bool (by decide +kernel) rfl) kit_bool)) (pe_one (dChain op_le op_le sr_le sr_le (dN (pv 1)) (dN (pv 0)) (dN (pv 2))))))))
theorem denmade (T : Txt K mg A) (B : Bs base mg A) 
    (cdv : Value) (Ar : Around) (outer : List Env) (s : Shared) (H : Hp) (E : XK) (hr : Room 0 (Ar.deeper (envOfC "made" (defScope smade) s.heap.objs.size A.fmade cdv))) :
    PSs (cxOf (L2N.CX P w) P w K mg base Nmade "made" (defScope smade) A.fmade cdv Ar outer s H E) (defBody smade) (cS K (fun cls d _ H => E cls d H) (wmade A)) := by
  have nd := scmade.nd
  have tk : L2N.Takes (cxOf (L2N.CX P w) P w K mg base Nmade "made" (defScope smade) A.fmade cdv Ar outer s H E) (fun cls d _ H => E cls d H) := L2N.takes_of rfl rfl rfl rfl
  exact dsCons (dIfS (ps_if (dTc (op_eqA hr.units) sr_eq (dN (pv 1)) (dl (dI)) (nomark _)) (dsOne (dRaise (L2N.ps_raise rfl tk (L2N.pmk_own PySem.F.excBase_ValueError T.xOutOfRange T.cOutOfRange T.qOutOfRange (raises_own T.uOutOfRange T.tOutOfRange) rfl)))) (dsNil))) (dsCons (dSet (ps_set (i := 2) nd rfl (by first | exact Or.inl rfl | exact Or.inr rfl) (dIf (dTc op_gt sr_gt (dN (pv 1)) (dl (dI)) (nomark _)) (dB2 (fun _ _ ha hb => pe_callBfun cr_gcd rfl T.g_gcd (pa_cons ha (pa_cons hb pa_nil))) sr_gcd (dN (pv 0)) (dN (pv 1))) (dUn un_neg su_neg (dl (dB2 (fun _ _ ha hb => pe_callBfun cr_gcd rfl T.g_gcd (pa_cons ha (pa_cons hb pa_nil))) sr_gcd (dN (pv 0)) (dN (pv 1)))))))) (dsOne (dRet (ps_ret (dTup (daCons (dOp op_fdivA sr_div (dN (pv 0)) (dN (pv 2))) (daCons (dOp op_fdivA sr_div (dN (pv 1)) (dN (pv 2))) (daNil))))))))
theorem dento_power (T : Txt K mg A) (B : Bs base mg A) 
    (cdv : Value) (Ar : Around) (outer : List Env) (s : Shared) (H : Hp) (E : XK) (hr : Room 0 (Ar.deeper (envOfC "to_power" (defScope sto_power) s.heap.objs.size A.fto_power cdv))) :
    PSs (cxOf (L2N.CX P w) P w K mg base Nto_power "to_power" (defScope sto_power) A.fto_power cdv Ar outer s H E) (defBody sto_power) (cS K (fun cls d _ H => E cls d H) (wto_power A)) := by
  have nd := scto_power.nd
  have po : PassesOwn (model P w) (Ar.deeper (envOfC "to_power" (defScope sto_power) s.heap.objs.size A.fto_power cdv)) (envOfC "to_power" (defScope sto_power) s.heap.objs.size A.fto_power cdv) (cxOf (L2N.CX P w) P w K mg base Nto_power "to_power" (defScope sto_power) A.fto_power cdv Ar outer s H E).xe := passes_of (X := cxOf (L2N.CX P w) P w K mg base Nto_power "to_power" (defScope sto_power) A.fto_power cdv Ar outer s H E) rfl
  exact dsCons (dSet (ps_set (i := 2) nd rfl (by first | exact Or.inl rfl | exact Or.inr rfl) (dI))) (dsCons (dSet (ps_set (i := 3) nd rfl (by first | exact Or.inl rfl | exact Or.inr rfl) (dV (pv 0)))) (dsCons (dWhile (ps_while po (dTc op_gt sr_gt (dN (pv 1)) (dl (dI)) (nomark _)) (dsCons (dIfS (ps_if (dTc (op_eqA hr.units) sr_eq (dl (dOp op_modN sr_mod (dN (pv 1)) (dl (dI)))) (dl (dI)) (nomark _)) (dsOne (dSet (ps_set (i := 2) nd rfl (by first | exact Or.inl rfl | exact Or.inr rfl) (dOp op_mulX sr_mul (dN (pv 2)) (dN (pv 3)))))) (dsNil))) (dsCons (dSet (ps_set (i := 3) nd rfl (by first | exact Or.inl rfl | exact Or.inr rfl) (dOp op_mulX sr_mul (dN (pv 3)) (dN (pv 3))))) (dsOne (dSet (ps_set (i := 1) nd rfl (by first | exact Or.inl rfl | exact Or.inr rfl) (dOp op_fdivA sr_div (dN (pv 1)) (dl (dI)))))))))) (dsOne (dRet (ps_ret (dV (pv 2)))))))
theorem den_number_at (T : Txt K mg A) (B : Bs base mg A) 
    (cdv : Value) (Ar : Around) (outer : List Env) (s : Shared) (H : Hp) (E : XK) (hr : Room 0 (Ar.deeper (envOfC "_number_at" (defScope s_number_at) s.heap.objs.size A.f_number_at cdv))) :
    PSs (cxOf (L2N.CX P w) P w K mg base N_number_at "_number_at" (defScope s_number_at) A.f_number_at cdv Ar outer s H E) (defBody s_number_at) (cS K (fun cls d _ H => E cls d H) (w_number_at A)) := by
  have nd := sc_number_at.nd
  have tk : L2N.Takes (cxOf (L2N.CX P w) P w K mg base N_number_at "_number_at" (defScope s_number_at) A.f_number_at cdv Ar outer s H E) (fun cls d _ H => E cls d H) := L2N.takes_of rfl rfl rfl rfl
  have po : PassesOwn (model P w) (Ar.deeper (envOfC "_number_at" (defScope s_number_at) s.heap.objs.size A.f_number_at cdv)) (envOfC "_number_at" (defScope s_number_at) s.heap.objs.size A.f_number_at cdv) (cxOf (L2N.CX P w) P w K mg base N_number_at "_number_at" (defScope s_number_at) A.f_number_at cdv Ar outer s H E).xe := passes_of (X := cxOf (L2N.CX P w) P w K mg base N_number_at "_number_at" (defScope s_number_at) A.f_number_at cdv Ar outer s H E) rfl
  exact dsCons (dIfS (ps_if (dTc op_gt sr_gt (dl (dOp op_addA sr_add (dN (pv 1)) (dN (pv 2)))) (dl (dB1 (fun _ ha => pe_callB call_len rfl T.b_len (by decide +kernel) (pa_cons ha pa_nil)) su_len (dN (pv 0)))) (nomark _)) (dsOne (dRaise (L2N.ps_raise rfl tk (L2N.pmk_own PySem.F.excBase_ValueError T.xRefused T.cRefused T.qRefused (raises_own T.uRefused T.tRefused) rfl)))) (dsNil))) (dsCons (dSet (ps_set (i := 4) nd rfl (by first | exact Or.inl rfl | exact Or.inr rfl) (dI))) (dsCons (dFor (ps_for po rfl (diA (pi_lt (dSlV (dN (pv 0)) (dpAt (dV (pv 1))) (dpAt (dOp op_addA sr_add (dN (pv 1)) (dN (pv 2))))))) (dgName (pg_name (i := 5) nd rfl (by first | exact Or.inl rfl | exact Or.inr rfl))) (dsOne (dSet (ps_set (i := 4) nd rfl (by first | exact Or.inl rfl | exact Or.inr rfl) (dOp op_addA sr_add (dl (dOp op_mulX sr_mul (dN (pv 4)) (dN (pv 3)))) (dN (pv 5)))))))) (dsOne (dRet (ps_ret (dV (pv 4)))))))
theorem den_least_number (T : Txt K mg A) (B : Bs base mg A) 
    (cdv : Value) (Ar : Around) (outer : List Env) (s : Shared) (H : Hp) (E : XK) (hr : Room 0 (Ar.deeper (envOfC "_least_number" (defScope s_least_number) s.heap.objs.size A.f_least_number cdv))) :
    PSs (cxOf (L2N.CX P w) P w K mg base N_least_number "_least_number" (defScope s_least_number) A.f_least_number cdv Ar outer s H E) (defBody s_least_number) (cS K (fun cls d _ H => E cls d H) (w_least_number A)) := by
  have nd := sc_least_number.nd
  exact dsOne (dRet (ps_ret (dUn un_neg su_neg (dl (dOp op_fdivA sr_div (dl (dOp op_mulX sr_mul (dl (dUn un_neg su_neg (dN (pv 2)))) (dN (pv 1)))) (dN (pv 0)))))))
theorem den_law_draws (T : Txt K mg A) (B : Bs base mg A) 
    (cdv : Value) (Ar : Around) (outer : List Env) (s : Shared) (H : Hp) (E : XK) (hr : Room 0 (Ar.deeper (envOfC "_law_draws" (defScope s_law_draws) s.heap.objs.size A.f_law_draws cdv))) :
    PSs (cxOf (L2N.CX P w) P w K mg base N_law_draws "_law_draws" (defScope s_law_draws) A.f_law_draws cdv Ar outer s H E) (defBody s_law_draws) (cS K (fun cls d _ H => E cls d H) (w_law_draws A)) := by
  have nd := sc_law_draws.nd
  have po : PassesOwn (model P w) (Ar.deeper (envOfC "_law_draws" (defScope s_law_draws) s.heap.objs.size A.f_law_draws cdv)) (envOfC "_law_draws" (defScope s_law_draws) s.heap.objs.size A.f_law_draws cdv) (cxOf (L2N.CX P w) P w K mg base N_law_draws "_law_draws" (defScope s_law_draws) A.f_law_draws cdv Ar outer s H E).xe := passes_of (X := cxOf (L2N.CX P w) P w K mg base N_law_draws "_law_draws" (defScope s_law_draws) A.f_law_draws cdv Ar outer s H E) rfl
  exact dsCons (dSetO (ps_set (i := 1) nd rfl (by first | exact Or.inl rfl | exact Or.inr rfl) (dLst (daNil)))) (dsCons (dFor (ps_for po rfl (diA (pi_lt (dV (pv 0)))) (dgName (pg_name (i := 2) nd rfl (by first | exact Or.inl rfl | exact Or.inr rfl))) (dsCons (dSet (ps_set (i := 5) nd rfl (by first | exact Or.inl rfl | exact Or.inr rfl) (dB1 (fun _ ha => pe_callB call_abs rfl T.b_abs (by decide +kernel) (pa_cons ha pa_nil)) su_abs (dN (pv 2))))) (dsCons (dIfS (ps_if (dTc op_lt sr_lt (dN (pv 5)) (dl (dOp op_pow sr_pow (dl (dI)) (dl (dI)))) (nomark _)) (dsCons (dSet (ps_set (i := 6) nd rfl (by first | exact Or.inl rfl | exact Or.inr rfl) (dOp op_modN sr_mod (dl (dB1 (fun _ ha => pe_callTy call_int1 rfl T.b_int (by decide +kernel) (pa_cons ha pa_nil)) su_int (dl (dOp op_addA sr_add (dl (dOp op_mulX sr_mul (dN (pv 5)) (dl (dI)))) (dl (dI)))))) (dl (dI))))) (dsCons (dApp (ps_expr (pe_bm PySem.F.plainAttrs_list PySem.F.slot_list_append PySem.F.type_list_append mt_append (pv 1) (pa_cons (dOp op_modN sr_mod (dl (dB1 (fun _ ha => pe_callTy call_int1 rfl T.b_int (by decide +kernel) (pa_cons ha pa_nil)) su_int (dl (dOp op_addA sr_add (dl (dOp op_mulX sr_mul (dN (pv 6)) (dl (dI)))) (dN (pv 5)))))) (dl (dI))) pa_nil)))) (dsCons (dApp (ps_expr (pe_bm PySem.F.plainAttrs_list PySem.F.slot_list_append PySem.F.type_list_append mt_append (pv 1) (pa_cons (dOp op_modN sr_mod (dl (dB1 (fun _ ha => pe_callTy call_int1 rfl T.b_int (by decide +kernel) (pa_cons ha pa_nil)) su_int (dl (dOp op_addA sr_add (dN (pv 6)) (dl (dOp op_fdivA sr_div (dN (pv 5)) (dl (dI)))))))) (dl (dI))) pa_nil)))) (dsOne (dSet (ps_set (i := 5) nd rfl (by first | exact Or.inl rfl | exact Or.inr rfl) (dI))))))) (dsNil))) (dsOne (dFor (ps_for po rfl (diR1 (pi_range1 rfl T.b_range (daCons (dI) (daNil)))) (dgName (pg_name (i := 4) nd rfl (by first | exact Or.inl rfl | exact Or.inr rfl))) (dsOne (dIfS (ps_if (dTc op_gt sr_gt (dN (pv 5)) (dl (dI)) (nomark _)) (dsCons (dApp (ps_expr (pe_bm PySem.F.plainAttrs_list PySem.F.slot_list_append PySem.F.type_list_append mt_append (pv 1) (pa_cons (dOp op_modN sr_mod (dl (dB1 (fun _ ha => pe_callTy call_int1 rfl T.b_int (by decide +kernel) (pa_cons ha pa_nil)) su_int (dN (pv 5)))) (dl (dI))) pa_nil)))) (dsOne (dSet (ps_set (i := 5) nd rfl (by first | exact Or.inl rfl | exact Or.inr rfl) (dOp op_fdivA sr_div (dN (pv 5)) (dl (dI))))))) (dsNil))))))))))) (dsCons (dSet (ps_set (i := 3) nd rfl (by first | exact Or.inl rfl | exact Or.inr rfl) (dI))) (dsCons (dIfS (ps_if (dTc op_gt sr_gt (dl (dB1 (fun _ ha => pe_callB call_len rfl T.b_len (by decide +kernel) (pa_cons ha pa_nil)) su_len (dN (pv 0)))) (dl (dI)) (nomark _)) (dsOne (dSet (ps_set (i := 3) nd rfl (by first | exact Or.inl rfl | exact Or.inr rfl) (dOp op_addA sr_add (dl (dI)) (dl (dB1 (fun _ ha => pe_callB call_abs rfl T.b_abs (by decide +kernel) (pa_cons ha pa_nil)) su_abs (dl (dIx ix_seq sr_ix (dN (pv 0)) (dl (dI)) (fun _ _ => rfl))))))))) (dsNil))) (dsCons (dFor (ps_for po rfl (diR1 (pi_range1 rfl T.b_range (daCons (dI) (daNil)))) (dgName (pg_name (i := 4) nd rfl (by first | exact Or.inl rfl | exact Or.inr rfl))) (dsCons (dSet (ps_set (i := 3) nd rfl (by first | exact Or.inl rfl | exact Or.inr rfl) (dOp op_modN sr_mod (dl (dB1 (fun _ ha => pe_callTy call_int1 rfl T.b_int (by decide +kernel) (pa_cons ha pa_nil)) su_int (dl (dOp op_addA sr_add (dl (dOp op_mulX sr_mul (dN (pv 3)) (dl (dI)))) (dl (dI)))))) (dl (dI))))) (dsOne (dApp (ps_expr (pe_bm PySem.F.plainAttrs_list PySem.F.slot_list_append PySem.F.type_list_append mt_append (pv 1) (pa_cons (dOp op_fdivA sr_div (dN (pv 3)) (dl (dI))) pa_nil)))))))) (dsOne (dRetF (ps_ret (dRevL (fun _ ha => pe_lstRev rfl rfl T.b_list rfl T.b_reversed ha) (dN (pv 1))))))))))
theorem den_law_take (T : Txt K mg A) (B : Bs base mg A) 
    (cdv : Value) (Ar : Around) (outer : List Env) (s : Shared) (H : Hp) (E : XK) (hr : Room 0 (Ar.deeper (envOfC "_law_take" (defScope s_law_take) s.heap.objs.size A.f_law_take cdv))) :
    PSs (cxOf (L2N.CX P w) P w K mg base N_law_take "_law_take" (defScope s_law_take) A.f_law_take cdv Ar outer s H E) (defBody s_law_take) (cS K (fun cls d _ H => E cls d H) (w_law_take A)) := by
  have nd := sc_law_take.nd
  exact dsCons (dIfS (ps_if (dTc (op_eqA hr.units) sr_eq (dl (dB1 (fun _ ha => pe_callB call_len rfl T.b_len (by decide +kernel) (pa_cons ha pa_nil)) su_len (dN (pv 0)))) (dl (dI)) (nomark _)) (dsOne (dRet (ps_ret (dI)))) (dsNil))) (dsOne (dRet (ps_ret (dOp op_modN sr_mod (dl (dB1 (fun _ ha => pe_callTy call_int1 rfl T.b_int (by decide +kernel) (pa_cons ha pa_nil)) su_int (dl (dPop (pe_bm0 PySem.F.plainAttrs_list PySem.F.slot_list_pop PySem.F.type_list_pop mt_pop (pv 0)))))) (dN (pv 1))))))
theorem den_law_power (T : Txt K mg A) (B : Bs base mg A) 
    (cdv : Value) (Ar : Around) (outer : List Env) (s : Shared) (H : Hp) (E : XK) (hr : Room 0 (Ar.deeper (envOfC "_law_power" (defScope s_law_power) s.heap.objs.size A.f_law_power cdv))) :
    PSs (cxOf (L2N.CX P w) P w K mg base N_law_power "_law_power" (defScope s_law_power) A.f_law_power cdv Ar outer s H E) (defBody s_law_power) (cS K (fun cls d _ H => E cls d H) (w_law_power A)) := by
  have nd := sc_law_power.nd
  have po : PassesOwn (model P w) (Ar.deeper (envOfC "_law_power" (defScope s_law_power) s.heap.objs.size A.f_law_power cdv)) (envOfC "_law_power" (defScope s_law_power) s.heap.objs.size A.f_law_power cdv) (cxOf (L2N.CX P w) P w K mg base N_law_power "_law_power" (defScope s_law_power) A.f_law_power cdv Ar outer s H E).xe := passes_of (X := cxOf (L2N.CX P w) P w K mg base N_law_power "_law_power" (defScope s_law_power) A.f_law_power cdv Ar outer s H E) rfl
  exact dsCons (dSet (ps_set (i := 2) nd rfl (by first | exact Or.inl rfl | exact Or.inr rfl) (dI))) (dsCons (dFor (ps_for po rfl (diR1 (pi_range1 rfl T.b_range (daCons (dV (pv 1)) (daNil)))) (dgName (pg_name (i := 3) nd rfl (by first | exact Or.inl rfl | exact Or.inr rfl))) (dsOne (dSet (ps_set (i := 2) nd rfl (by first | exact Or.inl rfl | exact Or.inr rfl) (dOp op_mulX sr_mul (dN (pv 2)) (dN (pv 0)))))))) (dsOne (dRet (ps_ret (dV (pv 2))))))
theorem den_law_told (T : Txt K mg A) {D : Addr} {bOutOfRange bMalformed bNotThere bRefused bTooMuch bValueError : Bool} (hX : ExcC K D) (hkOutOfRange : PySem.W.kitOne K (.ref D) (.ref A.cOutOfRange) = some bOutOfRange) (hkMalformed : PySem.W.kitOne K (.ref D) (.ref A.cMalformed) = some bMalformed) (hkNotThere : PySem.W.kitOne K (.ref D) (.ref A.cNotThere) = some bNotThere) (hkRefused : PySem.W.kitOne K (.ref D) (.ref A.cRefused) = some bRefused) (hkTooMuch : PySem.W.kitOne K (.ref D) (.ref A.cTooMuch) = some bTooMuch) (hkValueError : PySem.W.kitOne K (.ref D) (.type "ValueError") = some bValueError)
    (cdv : Value) (Ar : Around) (outer : List Env) (s : Shared) (H : Hp) (p : Addr × Obj) (ho : L2H.Hot1 Ar p) (hr0 : L2H.RoomH 0 (Ar.deeper (envOfC "_law_told" (defScope s_law_told) s.heap.objs.size A.f_law_told cdv))) (hz : L2N.Zn (.ref D) none p.2) :
    PSs (cxT P w K mg base N_law_told "_law_told" (defScope s_law_told) A.f_law_told cdv Ar outer s H p) (defBody s_law_told) (cS K WNo (w_law_told p.1 bOutOfRange bMalformed bNotThere bRefused bTooMuch bValueError)) := by
  obtain ⟨a, oe⟩ := p
  have hot : L2H.HotC (cxT P w K mg base N_law_told "_law_told" (defScope s_law_told) A.f_law_told cdv Ar outer s H (a, oe)) := ⟨(a, oe), ho, List.mem_cons_self⟩
  have hzf : ∃ vs, oe.data = .fields vs := by obtain ⟨_, vs, e, _⟩ := ho; exact ⟨vs, e⟩
  have hu : (Ar.deeper (envOfC "_law_told" (defScope s_law_told) s.heap.objs.size A.f_law_told cdv)).units + 64 < cLine := by have := hr0.un; omega
  have nd := sc_law_told.nd
  exact dsCons (dSet (ps_set (i := 1) nd rfl (by first | exact Or.inl rfl | exact Or.inr rfl) (dFE (dLst (daCons (dIsX (pe_callB (call_isP hX (by exact List.mem_cons_self) hz.zc hzf) rfl T.b_isinstance (by decide +kernel) (pa_cons (pv 0) (pa_cons (pe_glob (v := .ref A.cOutOfRange) rfl T.cOutOfRange rfl) pa_nil))) (fun u r => r) hkOutOfRange) (daCons (dIsX (pe_callB (call_isP hX (by exact List.mem_cons_self) hz.zc hzf) rfl T.b_isinstance (by decide +kernel) (pa_cons (pv 0) (pa_cons (pe_glob (v := .ref A.cMalformed) rfl T.cMalformed rfl) pa_nil))) (fun u r => r) hkMalformed) (daCons (dIsX (pe_callB (call_isP hX (by exact List.mem_cons_self) hz.zc hzf) rfl T.b_isinstance (by decide +kernel) (pa_cons (pv 0) (pa_cons (pe_glob (v := .ref A.cNotThere) rfl T.cNotThere rfl) pa_nil))) (fun u r => r) hkNotThere) (daCons (dIsX (pe_callB (call_isP hX (by exact List.mem_cons_self) hz.zc hzf) rfl T.b_isinstance (by decide +kernel) (pa_cons (pv 0) (pa_cons (pe_glob (v := .ref A.cRefused) rfl T.cRefused rfl) pa_nil))) (fun u r => r) hkRefused) (daCons (dIsX (pe_callB (call_isP hX (by exact List.mem_cons_self) hz.zc hzf) rfl T.b_isinstance (by decide +kernel) (pa_cons (pv 0) (pa_cons (pe_glob (v := .ref A.cTooMuch) rfl T.cTooMuch rfl) pa_nil))) (fun u r => r) hkTooMuch) (daNil)))))))))) (dsCons (dIfS (ps_if (PW.pt (dOr (dNot (dTv (dIsX (pe_callB (call_isP hX (by exact List.mem_cons_self) hz.zc hzf) rfl T.b_isinstance (by decide +kernel) (pa_cons (pv 0) (pa_cons (pe_bltn (v := .ty "ValueError") rfl T.b_ValueError (by decide +kernel) rfl) pa_nil))) (fun u r => r) hkValueError))) (pw_or1 (dTc (op_neA hu) sr_ne (dl (dB1 (fun _ ha => pe_callB call_len rfl T.b_len (by decide +kernel) (pa_cons ha pa_nil)) su_len (dl (dFE (dLcF (pe_lcS (own := [("kind", 2)]) hot nd (diLS (pi_listS (dV (pv 1)))) (blkOk_by (N := N_law_told) (sc := defScope s_law_told) (own := [("kind", 2)]) (by decide +kernel)) (fun _ _ _ _ _ hhot => dgvName (pg_name (i := 2) nd rfl (by first | exact Or.inl rfl | exact Or.inr rfl)) (by decide)) (fun _ _ _ _ _ => pts_one (dTv (dV (pv 2)))) (fun _ _ _ _ _ => dV (pv 2)))))))) (dl (dI)) (nomark _))))) (dsOne (dRet (ps_ret (dX)))) (dsNil))) (dsOne (dRet (ps_ret (dIx ix_seq sr_ix (dl (dFE (dLst (daCons (dX) (daCons (dX) (daCons (dX) (daCons (dX) (daCons (dX) (daNil))))))))) (dl (dIdx (pe_bm PySem.F.plainAttrs_list PySem.F.slot_list_index PySem.F.type_list_index mt_index (dN (pv 1)) (pa_cons (dB) pa_nil)))) (fun _ _ => rfl))))))
theorem den_law_lowest (T : Txt K mg A) (B : Bs base mg A) 
    (cdv : Value) (Ar : Around) (outer : List Env) (s : Shared) (H : Hp) (E : XK) (hr : Room 0 (Ar.deeper (envOfC "_law_lowest" (defScope s_law_lowest) s.heap.objs.size A.f_law_lowest cdv))) :
    PSs (cxOf (L2N.CX P w) P w K mg base N_law_lowest "_law_lowest" (defScope s_law_lowest) A.f_law_lowest cdv Ar outer s H E) (defBody s_law_lowest) (cS K (fun cls d _ H => E cls d H) (w_law_lowest A)) := by
  have nd := sc_law_lowest.nd
  have po : PassesOwn (model P w) (Ar.deeper (envOfC "_law_lowest" (defScope s_law_lowest) s.heap.objs.size A.f_law_lowest cdv)) (envOfC "_law_lowest" (defScope s_law_lowest) s.heap.objs.size A.f_law_lowest cdv) (cxOf (L2N.CX P w) P w K mg base N_law_lowest "_law_lowest" (defScope s_law_lowest) A.f_law_lowest cdv Ar outer s H E).xe := passes_of (X := cxOf (L2N.CX P w) P w K mg base N_law_lowest "_law_lowest" (defScope s_law_lowest) A.f_law_lowest cdv Ar outer s H E) rfl
  exact dsCons (dSet (ps_set (i := 2) nd rfl (by first | exact Or.inl rfl | exact Or.inr rfl) (dV (pv 1)))) (dsCons (dSet (ps_set (i := 3) nd rfl (by first | exact Or.inl rfl | exact Or.inr rfl) (dV (pv 0)))) (dsCons (dFor (ps_for po rfl (diR1 (pi_range1 rfl T.b_range (daCons (dI) (daNil)))) (dgName (pg_name (i := 4) nd rfl (by first | exact Or.inl rfl | exact Or.inr rfl))) (dsCons (dIfS (ps_if (dTc (op_eqA hr.units) sr_eq (dN (pv 3)) (dl (dI)) (nomark _)) (dsOne (dBreak)) (dsNil))) (dsOne (dPar (ps_par rfl nd rfl rfl (by decide) rfl rfl (daCons (dV (pv 3)) (daCons (dOp op_modN sr_mod (dl (dB1 (fun _ ha => pe_callTy call_int1 rfl T.b_int (by decide +kernel) (pa_cons ha pa_nil)) su_int (dN (pv 2)))) (dN (pv 3))) (daNil))) rfl)))))) (dsOne (dRet (ps_ret (dTup (daCons (dOp op_fdivA sr_div (dN (pv 0)) (dN (pv 2))) (daCons (dOp op_fdivA sr_div (dN (pv 1)) (dN (pv 2))) (daNil)))))))))
theorem den_law_rows (T : Txt K mg A) (B : Bs base mg A) 
    (cdv : Value) (Ar : Around) (outer : List Env) (s : Shared) (H : Hp) (E : XK) (hr : Room 0 (Ar.deeper (envOfC "_law_rows" (defScope s_law_rows) s.heap.objs.size A.f_law_rows cdv))) :
    PSs (cxOf (L2N.CX P w) P w K mg base N_law_rows "_law_rows" (defScope s_law_rows) A.f_law_rows cdv Ar outer s H E) (defBody s_law_rows) (cS K (fun cls d _ H => E cls d H) (w_law_rows A)) := by
  have nd := sc_law_rows.nd
  have po : PassesOwn (model P w) (Ar.deeper (envOfC "_law_rows" (defScope s_law_rows) s.heap.objs.size A.f_law_rows cdv)) (envOfC "_law_rows" (defScope s_law_rows) s.heap.objs.size A.f_law_rows cdv) (cxOf (L2N.CX P w) P w K mg base N_law_rows "_law_rows" (defScope s_law_rows) A.f_law_rows cdv Ar outer s H E).xe := passes_of (X := cxOf (L2N.CX P w) P w K mg base N_law_rows "_law_rows" (defScope s_law_rows) A.f_law_rows cdv Ar outer s H E) rfl
  exact dsCons (dSet (ps_set (i := 2) nd rfl (by first | exact Or.inl rfl | exact Or.inr rfl) (dFE (dLst (daCons (dTup (daNil)) (daNil)))))) (dsCons (dFor (ps_for po rfl (diR1 (pi_range1 rfl T.b_range (daCons (dV (pv 1)) (daNil)))) (dgName (pg_name (i := 3) nd rfl (by first | exact Or.inl rfl | exact Or.inr rfl))) (dsCons (dSetO (ps_set (i := 4) nd rfl (by first | exact Or.inl rfl | exact Or.inr rfl) (dLst (daNil)))) (dsCons (dFor (ps_for po rfl (diA (pi_lt (dV (pv 2)))) (dgName (pg_name (i := 5) nd rfl (by first | exact Or.inl rfl | exact Or.inr rfl))) (dsOne (dFor (ps_for po rfl (diR1 (pi_range1 rfl T.b_range (daCons (dV (pv 0)) (daNil)))) (dgName (pg_name (i := 6) nd rfl (by first | exact Or.inl rfl | exact Or.inr rfl))) (dsOne (dApp (ps_expr (pe_bm PySem.F.plainAttrs_list PySem.F.slot_list_append PySem.F.type_list_append mt_append (pv 4) (pa_cons (dOp op_addA sr_add (dN (pv 5)) (dl (dTup (daCons (dV (pv 6)) (daNil))))) pa_nil)))))))))) (dsOne (dSet (ps_set (i := 2) nd rfl (by first | exact Or.inl rfl | exact Or.inr rfl) (dV (pv 4))))))))) (dsOne (dRet (ps_ret (dV (pv 2))))))
theorem den_law_fits (T : Txt K mg A) (B : Bs base mg A) 
    (cdv : Value) (Ar : Around) (outer : List Env) (s : Shared) (H : Hp) (E : XK) (hr : Room 0 (Ar.deeper (envOfC "_law_fits" (defScope s_law_fits) s.heap.objs.size A.f_law_fits cdv))) :
    PSs (cxOf (L2N.CX P w) P w K mg base N_law_fits "_law_fits" (defScope s_law_fits) A.f_law_fits cdv Ar outer s H E) (defBody s_law_fits) (cS K (fun cls d _ H => E cls d H) (w_law_fits A)) := by
  have nd := sc_law_fits.nd
  have po : PassesOwn (model P w) (Ar.deeper (envOfC "_law_fits" (defScope s_law_fits) s.heap.objs.size A.f_law_fits cdv)) (envOfC "_law_fits" (defScope s_law_fits) s.heap.objs.size A.f_law_fits cdv) (cxOf (L2N.CX P w) P w K mg base N_law_fits "_law_fits" (defScope s_law_fits) A.f_law_fits cdv Ar outer s H E).xe := passes_of (X := cxOf (L2N.CX P w) P w K mg base N_law_fits "_law_fits" (defScope s_law_fits) A.f_law_fits cdv Ar outer s H E) rfl
  exact dsCons (dIfS (ps_if (PW.pt (dOr (dNot (dTv (dIsi (fun _ _ ha hb => pe_callB call_isi rfl T.b_isinstance (by decide +kernel) (pa_cons ha (pa_cons hb pa_nil))) (dN (pv 0)) (pe_bltn (v := .ty "tuple") rfl T.b_tuple (by decide +kernel) rfl) kit_tuple))) (dOr (dTc (op_neA hr.units) sr_ne (dl (dB1 (fun _ ha => pe_callB call_len rfl T.b_len (by decide +kernel) (pa_cons ha pa_nil)) su_len (dN (pv 0)))) (dl (dI)) (nomark _)) (dOr (dNot (dTv (dIsi (fun _ _ ha hb => pe_callB call_isi rfl T.b_isinstance (by decide +kernel) (pa_cons ha (pa_cons hb pa_nil))) (dl (dIx ix_seq sr_ix (dN (pv 0)) (dl (dI)) (fun _ _ => rfl))) (pe_bltn (v := .ty "str") rfl T.b_str (by decide +kernel) rfl) kit_str))) (pw_or1 (dTc op_notIn_seq (sr_in true) (dl (dIx ix_seq sr_ix (dN (pv 0)) (dl (dI)) (fun _ _ => rfl))) (dl (dFE (dLst (daCons (dX) (daCons (dX) (daCons (dX) (daNil))))))) (by with_unfolding_all rfl))))))) (dsOne (dRet (ps_ret (dB)))) (dsNil))) (dsCons (dFor (ps_for po rfl (diA (pi_lt (dSlV (dN (pv 0)) (dpAt (dI)) (dpNo)))) (dgName (pg_name (i := 1) nd rfl (by first | exact Or.inl rfl | exact Or.inr rfl))) (dsOne (dIfS (ps_if (PW.pt (dOr (dNot (dTv (dIsi (fun _ _ ha hb => pe_callB call_isi rfl T.b_isinstance (by decide +kernel) (pa_cons ha (pa_cons hb pa_nil))) (dN (pv 1)) (pe_bltn (v := .ty "int") rfl T.b_int (by decide +kernel) rfl) kit_int))) (dOr (dTv (dIsi (fun _ _ ha hb => pe_callB call_isi rfl T.b_isinstance (by decide +kernel) (pa_cons ha (pa_cons hb pa_nil))) (dN (pv 1)) (pe_bltn (v := .ty "bool") rfl T.b_bool (by decide +kernel) rfl) kit_bool)) (pw_or1 (dNot (dTchain op_le op_le sr_le sr_le (dl (dI)) (dN (pv 1)) (dl (dI)))))))) (dsOne (dRet (ps_ret (dB)))) (dsNil)))))) (dsOne (dRet (ps_ret (dOrV (dCmp (op_eqA hr.units) sr_eq (dl (dIx ix_seq sr_ix (dN (pv 0)) (dl (dI)) (fun _ _ => rfl))) (dl (dX)) (nomark _)) (pe_one (dCmp (op_eqA hr.units) sr_eq (dl (dIx ix_seq sr_ix (dN (pv 0)) (dl (dI)) (fun _ _ => rfl))) (dl (dI)) (nomark _))))))))
theorem denis_manner (T : Txt K mg A) (B : Bs base mg A) (Fis_number : FnOk P w K mg base (L2N.CX P w) 1 A.fis_number A.dis_number Pis_number (toSp K 3 (Sis_number A)))
    (cdv : Value) (Ar : Around) (outer : List Env) (s : Shared) (H : Hp) (E : XK) (hr : Room 1 (Ar.deeper (envOfC "is_manner" (defScope sis_manner) s.heap.objs.size A.fis_manner cdv))) :
    PSs (cxOf (L2N.CX P w) P w K mg base Nis_manner "is_manner" (defScope sis_manner) A.fis_manner cdv Ar outer s H E) (defBody sis_manner) (cS K (fun cls d _ H => E cls d H) (wis_manner A)) := by
  have nd := scis_manner.nd
  have tk : L2N.Takes (cxOf (L2N.CX P w) P w K mg base Nis_manner "is_manner" (defScope sis_manner) A.fis_manner cdv Ar outer s H E) (fun cls d _ H => E cls d H) := L2N.takes_of rfl rfl rfl rfl
  exact dsCons (dIfS (ps_if (PW.pt (dOr (dNot (dTv (dIsi (fun _ _ ha hb => pe_callB call_isi rfl T.b_isinstance (by decide +kernel) (pa_cons ha (pa_cons hb pa_nil))) (dN (pv 0)) (pe_bltn (v := .ty "tuple") rfl T.b_tuple (by decide +kernel) rfl) kit_tuple))) (pw_or1 (dTc (op_neA hr.units) sr_ne (dl (dB1 (fun _ ha => pe_callB call_len rfl T.b_len (by decide +kernel) (pa_cons ha pa_nil)) su_len (dN (pv 0)))) (dl (dI)) (nomark _))))) (dsOne (dRet (ps_ret (dB)))) (dsNil))) (dsCons (dUnpT (is := [1, 2, 3]) (ps_asg (dN (pv 0)) (pg_tup rfl (pgs_cons (pg_name (i := 1) nd rfl (by first | exact Or.inl rfl | exact Or.inr rfl)) (pgs_cons (pg_name (i := 2) nd rfl (by first | exact Or.inl rfl | exact Or.inr rfl)) (pgs_cons (pg_name (i := 3) nd rfl (by first | exact Or.inl rfl | exact Or.inr rfl)) (pgs_nil))))))) (dsCons (dIfS (ps_if (PW.pt (dOr (dTc op_notIn_seq (sr_in true) (dN (pv 1)) (dl (dTup (daCons (dX) (daCons (dX) (daCons (dX) (daNil)))))) (by with_unfolding_all rfl)) (pw_or1 (dNot (dTv (dCall Fis_number (hr.mono (by decide)) rfl T.fis_number T.pis_number T.ais_number tk (dmV (dV (pv 2)) (dmV (dI) (dmV (dGi rfl T.k_MOST_DIGITS) (dmNil)))))))))) (dsOne (dRet (ps_ret (dB)))) (dsNil))) (dsOne (dRet (ps_ret (dCall Fis_number (hr.mono (by decide)) rfl T.fis_number T.pis_number T.ais_number tk (dmV (dV (pv 3)) (dmV (dI) (dmV (dIf (dTc (op_eqA hr.units) sr_eq (dN (pv 1)) (dl (dX)) (nomark _)) (dGi rfl T.k_MOST_TRIES) (dI)) (dmNil))))))))))
theorem denis_bound (T : Txt K mg A) (B : Bs base mg A) (Fis_number : FnOk P w K mg base (L2N.CX P w) 1 A.fis_number A.dis_number Pis_number (toSp K 3 (Sis_number A)))
    (cdv : Value) (Ar : Around) (outer : List Env) (s : Shared) (H : Hp) (E : XK) (hr : Room 1 (Ar.deeper (envOfC "is_bound" (defScope sis_bound) s.heap.objs.size A.fis_bound cdv))) :
    PSs (cxOf (L2N.CX P w) P w K mg base Nis_bound "is_bound" (defScope sis_bound) A.fis_bound cdv Ar outer s H E) (defBody sis_bound) (cS K (fun cls d _ H => E cls d H) (wis_bound A)) := by
  have nd := scis_bound.nd
  have tk : L2N.Takes (cxOf (L2N.CX P w) P w K mg base Nis_bound "is_bound" (defScope sis_bound) A.fis_bound cdv Ar outer s H E) (fun cls d _ H => E cls d H) := L2N.takes_of rfl rfl rfl rfl
  exact dsOne (dRet (ps_ret (dCall Fis_number (hr.mono (by decide)) rfl T.fis_number T.pis_number T.ais_number tk (dmV (dV (pv 0)) (dmV (dI) (dmV (dGi rfl T.k_MOST_BOUND) (dmNil)))))))
theorem denread_below (T : Txt K mg A) (B : Bs base mg A) (Fto_power : FnOk P w K mg base (L2N.CX P w) 1 A.fto_power A.dto_power Pto_power (toSp K 2 (Sto_power A))) (F_number_at : FnOk P w K mg base (L2N.CX P w) 1 A.f_number_at A.d_number_at P_number_at (toSp K 4 (S_number_at A)))
    (cdv : Value) (Ar : Around) (outer : List Env) (s : Shared) (H : Hp) (E : XK) (hr : Room 1 (Ar.deeper (envOfC "read_below" (defScope sread_below) s.heap.objs.size A.fread_below cdv))) :
    PSs (cxOf (L2N.CX P w) P w K mg base Nread_below "read_below" (defScope sread_below) A.fread_below cdv Ar outer s H E) (defBody sread_below) (cS K (fun cls d _ H => E cls d H) (wread_below A)) := by
  have nd := scread_below.nd
  have tk : L2N.Takes (cxOf (L2N.CX P w) P w K mg base Nread_below "read_below" (defScope sread_below) A.fread_below cdv Ar outer s H E) (fun cls d _ H => E cls d H) := L2N.takes_of rfl rfl rfl rfl
  have po : PassesOwn (model P w) (Ar.deeper (envOfC "read_below" (defScope sread_below) s.heap.objs.size A.fread_below cdv)) (envOfC "read_below" (defScope sread_below) s.heap.objs.size A.fread_below cdv) (cxOf (L2N.CX P w) P w K mg base Nread_below "read_below" (defScope sread_below) A.fread_below cdv Ar outer s H E).xe := passes_of (X := cxOf (L2N.CX P w) P w K mg base Nread_below "read_below" (defScope sread_below) A.fread_below cdv Ar outer s H E) rfl
  exact dsCons (dIfS (ps_if (dTc (op_eqA hr.units) sr_eq (dN (pv 0)) (dl (dI)) (nomark _)) (dsOne (dRet (ps_ret (dTup (daCons (dI) (daCons (dV (pv 4)) (daNil))))))) (dsNil))) (dsCons (dUnpT (is := [8, 9, 10]) (ps_asg (dN (pv 1)) (pg_tup rfl (pgs_cons (pg_name (i := 8) nd rfl (by first | exact Or.inl rfl | exact Or.inr rfl)) (pgs_cons (pg_name (i := 9) nd rfl (by first | exact Or.inl rfl | exact Or.inr rfl)) (pgs_cons (pg_name (i := 10) nd rfl (by first | exact Or.inl rfl | exact Or.inr rfl)) (pgs_nil))))))) (dsCons (dSet (ps_set (i := 5) nd rfl (by first | exact Or.inl rfl | exact Or.inr rfl) (dCall Fto_power (hr.mono (by decide)) rfl T.fto_power T.pto_power T.ato_power tk (dmV (dV (pv 2)) (dmV (dV (pv 9)) (dmNil)))))) (dsCons (dIfS (ps_if (dTc (op_eqA hr.units) sr_eq (dN (pv 8)) (dl (dX)) (nomark _)) (dsOne (dRet (ps_ret (dTup (daCons (dOp op_fdivA sr_div (dl (dOp op_mulX sr_mul (dl (dCall F_number_at (hr.mono (by decide)) rfl T.f_number_at T.p_number_at T.a_number_at tk (dmV (dV (pv 3)) (dmV (dV (pv 4)) (dmV (dV (pv 9)) (dmV (dV (pv 2)) (dmNil))))))) (dN (pv 0)))) (dN (pv 5))) (daCons (dOp op_addA sr_add (dN (pv 4)) (dN (pv 9))) (daNil))))))) (dsNil))) (dsCons (dSet (ps_set (i := 6) nd rfl (by first | exact Or.inl rfl | exact Or.inr rfl) (dOp op_sub sr_sub (dN (pv 5)) (dl (dOp op_modN sr_mod (dN (pv 5)) (dN (pv 0))))))) (dsCons (dFor (ps_for po rfl (diR3 (pi_range3 rfl T.b_range (daCons (dV (pv 10)) (daCons (dI) (daCons (dUn un_neg su_neg (dl (dI))) (daNil)))))) (dgName (pg_name (i := 7) nd rfl (by first | exact Or.inl rfl | exact Or.inr rfl))) (dsCons (dSet (ps_set (i := 11) nd rfl (by first | exact Or.inl rfl | exact Or.inr rfl) (dCall F_number_at (hr.mono (by decide)) rfl T.f_number_at T.p_number_at T.a_number_at tk (dmV (dV (pv 3)) (dmV (dV (pv 4)) (dmV (dV (pv 9)) (dmV (dV (pv 2)) (dmNil)))))))) (dsCons (dSet (ps_set (i := 4) nd rfl (by first | exact Or.inl rfl | exact Or.inr rfl) (dOp op_addA sr_add (dN (pv 4)) (dN (pv 9))))) (dsOne (dIfS (ps_if (PW.pt (dOr (dTc (op_eqA hr.units) sr_eq (dN (pv 7)) (dl (dI)) (nomark _)) (pw_or1 (dTc op_lt sr_lt (dN (pv 11)) (dN (pv 6)) (nomark _))))) (dsOne (dBreak)) (dsNil)))))))) (dsOne (dRet (ps_ret (dTup (daCons (dOp op_modN sr_mod (dN (pv 11)) (dN (pv 0))) (daCons (dV (pv 4)) (daNil))))))))))))
theorem denwhole_below (T : Txt K mg A) (B : Bs base mg A) (Fto_power : FnOk P w K mg base (L2N.CX P w) 1 A.fto_power A.dto_power Pto_power (toSp K 2 (Sto_power A)))
    (cdv : Value) (Ar : Around) (outer : List Env) (s : Shared) (H : Hp) (E : XK) (hr : Room 1 (Ar.deeper (envOfC "whole_below" (defScope swhole_below) s.heap.objs.size A.fwhole_below cdv))) :
    PSs (cxOf (L2N.CX P w) P w K mg base Nwhole_below "whole_below" (defScope swhole_below) A.fwhole_below cdv Ar outer s H E) (defBody swhole_below) (cS K (fun cls d _ H => E cls d H) (wwhole_below A)) := by
  have nd := scwhole_below.nd
  have tk : L2N.Takes (cxOf (L2N.CX P w) P w K mg base Nwhole_below "whole_below" (defScope swhole_below) A.fwhole_below cdv Ar outer s H E) (fun cls d _ H => E cls d H) := L2N.takes_of rfl rfl rfl rfl
  exact dsCons (dUnpT (is := [4, 5, 6]) (ps_asg (dN (pv 1)) (pg_tup rfl (pgs_cons (pg_name (i := 4) nd rfl (by first | exact Or.inl rfl | exact Or.inr rfl)) (pgs_cons (pg_name (i := 5) nd rfl (by first | exact Or.inl rfl | exact Or.inr rfl)) (pgs_cons (pg_name (i := 6) nd rfl (by first | exact Or.inl rfl | exact Or.inr rfl)) (pgs_nil))))))) (dsCons (dSet (ps_set (i := 3) nd rfl (by first | exact Or.inl rfl | exact Or.inr rfl) (dCall Fto_power (hr.mono (by decide)) rfl T.fto_power T.pto_power T.ato_power tk (dmV (dV (pv 2)) (dmV (dV (pv 5)) (dmNil)))))) (dsOne (dRet (ps_ret (dIf (dTc (op_eqA hr.units) sr_eq (dN (pv 4)) (dl (dX)) (nomark _)) (dOp op_mulX sr_mul (dN (pv 0)) (dl (dCall Fto_power (hr.mono (by decide)) rfl T.fto_power T.pto_power T.ato_power tk (dmV (dV (pv 3)) (dmV (dV (pv 6)) (dmNil)))))) (dV (pv 3)))))))
theorem denweight_between (T : Txt K mg A) (B : Bs base mg A) (Fto_power : FnOk P w K mg base (L2N.CX P w) 1 A.fto_power A.dto_power Pto_power (toSp K 2 (Sto_power A))) (F_least_number : FnOk P w K mg base (L2N.CX P w) 1 A.f_least_number A.d_least_number P_least_number (toSp K 3 (S_least_number A)))
    (cdv : Value) (Ar : Around) (outer : List Env) (s : Shared) (H : Hp) (E : XK) (hr : Room 1 (Ar.deeper (envOfC "weight_between" (defScope sweight_between) s.heap.objs.size A.fweight_between cdv))) :
    PSs (cxOf (L2N.CX P w) P w K mg base Nweight_between "weight_between" (defScope sweight_between) A.fweight_between cdv Ar outer s H E) (defBody sweight_between) (cS K (fun cls d _ H => E cls d H) (wweight_between A)) := by
  have nd := scweight_between.nd
  have tk : L2N.Takes (cxOf (L2N.CX P w) P w K mg base Nweight_between "weight_between" (defScope sweight_between) A.fweight_between cdv Ar outer s H E) (fun cls d _ H => E cls d H) := L2N.takes_of rfl rfl rfl rfl
  exact dsCons (dUnpT (is := [9, 10, 11]) (ps_asg (dN (pv 1)) (pg_tup rfl (pgs_cons (pg_name (i := 9) nd rfl (by first | exact Or.inl rfl | exact Or.inr rfl)) (pgs_cons (pg_name (i := 10) nd rfl (by first | exact Or.inl rfl | exact Or.inr rfl)) (pgs_cons (pg_name (i := 11) nd rfl (by first | exact Or.inl rfl | exact Or.inr rfl)) (pgs_nil))))))) (dsCons (dSet (ps_set (i := 5) nd rfl (by first | exact Or.inl rfl | exact Or.inr rfl) (dCall Fto_power (hr.mono (by decide)) rfl T.fto_power T.pto_power T.ato_power tk (dmV (dV (pv 2)) (dmV (dV (pv 10)) (dmNil)))))) (dsCons (dSet (ps_set (i := 6) nd rfl (by first | exact Or.inl rfl | exact Or.inr rfl) (dOp op_modN sr_mod (dN (pv 5)) (dN (pv 0))))) (dsCons (dIfS (ps_if (dTc (op_eqA hr.units) sr_eq (dN (pv 9)) (dl (dX)) (nomark _)) (dsOne (dRet (ps_ret (dOp op_sub sr_sub (dl (dCall F_least_number (hr.mono (by decide)) rfl T.f_least_number T.p_least_number T.a_least_number tk (dmV (dV (pv 0)) (dmV (dV (pv 5)) (dmV (dV (pv 4)) (dmNil)))))) (dl (dCall F_least_number (hr.mono (by decide)) rfl T.f_least_number T.p_least_number T.a_least_number tk (dmV (dV (pv 0)) (dmV (dV (pv 5)) (dmV (dV (pv 3)) (dmNil)))))))))) (dsNil))) (dsCons (dSet (ps_set (i := 7) nd rfl (by first | exact Or.inl rfl | exact Or.inr rfl) (dOp op_sub sr_sub (dl (dB2 (fun _ _ ha hb => pe_callB (call_min2 rfl) rfl T.b_min (by decide +kernel) (pa_cons ha (pa_cons hb pa_nil))) sr_min2 (dN (pv 4)) (dN (pv 6)))) (dl (dB2 (fun _ _ ha hb => pe_callB (call_min2 rfl) rfl T.b_min (by decide +kernel) (pa_cons ha (pa_cons hb pa_nil))) sr_min2 (dN (pv 3)) (dN (pv 6))))))) (dsCons (dIfS (ps_if (dTc (op_eqA hr.units) sr_eq (dN (pv 9)) (dl (dX)) (nomark _)) (dsOne (dRet (ps_ret (dOp op_addA sr_add (dl (dOp op_mulX sr_mul (dl (dOp op_fdivA sr_div (dN (pv 5)) (dN (pv 0)))) (dl (dOp op_sub sr_sub (dN (pv 4)) (dN (pv 3)))))) (dN (pv 7)))))) (dsNil))) (dsCons (dIfS (ps_if (dTc (op_eqA hr.units) sr_eq (dN (pv 6)) (dl (dI)) (nomark _)) (dsOne (dRet (ps_ret (dOp op_mulX sr_mul (dl (dCall Fto_power (hr.mono (by decide)) rfl T.fto_power T.pto_power T.ato_power tk (dmV (dV (pv 5)) (dmV (dV (pv 11)) (dmNil))))) (dl (dOp op_sub sr_sub (dN (pv 4)) (dN (pv 3)))))))) (dsNil))) (dsCons (dSet (ps_set (i := 8) nd rfl (by first | exact Or.inl rfl | exact Or.inr rfl) (dCall Fto_power (hr.mono (by decide)) rfl T.fto_power T.pto_power T.ato_power tk (dmV (dV (pv 6)) (dmV (dOp op_sub sr_sub (dN (pv 11)) (dl (dI))) (dmNil)))))) (dsOne (dRet (ps_ret (dOp op_addA sr_add (dl (dOp op_mulX sr_mul (dl (dOp op_sub sr_sub (dl (dCall Fto_power (hr.mono (by decide)) rfl T.fto_power T.pto_power T.ato_power tk (dmV (dV (pv 5)) (dmV (dV (pv 11)) (dmNil))))) (dl (dOp op_mulX sr_mul (dN (pv 8)) (dN (pv 6)))))) (dl (dOp op_sub sr_sub (dN (pv 4)) (dN (pv 3)))))) (dl (dOp op_mulX sr_mul (dl (dOp op_mulX sr_mul (dN (pv 8)) (dN (pv 0)))) (dN (pv 7)))))))))))))))
theorem den_law_plus (T : Txt K mg A) (B : Bs base mg A) (F_law_lowest : FnOk P w K mg base (L2N.CX P w) 1 A.f_law_lowest A.d_law_lowest P_law_lowest (toSp K 2 (S_law_lowest A)))
    (cdv : Value) (Ar : Around) (outer : List Env) (s : Shared) (H : Hp) (E : XK) (hr : Room 1 (Ar.deeper (envOfC "_law_plus" (defScope s_law_plus) s.heap.objs.size A.f_law_plus cdv))) :
    PSs (cxOf (L2N.CX P w) P w K mg base N_law_plus "_law_plus" (defScope s_law_plus) A.f_law_plus cdv Ar outer s H E) (defBody s_law_plus) (cS K (fun cls d _ H => E cls d H) (w_law_plus A)) := by
  have nd := sc_law_plus.nd
  have tk : L2N.Takes (cxOf (L2N.CX P w) P w K mg base N_law_plus "_law_plus" (defScope s_law_plus) A.f_law_plus cdv Ar outer s H E) (fun cls d _ H => E cls d H) := L2N.takes_of rfl rfl rfl rfl
  exact dsOne (dRet (ps_ret (dCall F_law_lowest (hr.mono (by decide)) rfl T.f_law_lowest T.p_law_lowest T.a_law_lowest tk (dmV (dOp op_addA sr_add (dl (dOp op_mulX sr_mul (dl (dIx ix_seq sr_ix (dN (pv 0)) (dl (dI)) (fun _ _ => rfl))) (dl (dIx ix_seq sr_ix (dN (pv 1)) (dl (dI)) (fun _ _ => rfl))))) (dl (dOp op_mulX sr_mul (dl (dIx ix_seq sr_ix (dN (pv 1)) (dl (dI)) (fun _ _ => rfl))) (dl (dIx ix_seq sr_ix (dN (pv 0)) (dl (dI)) (fun _ _ => rfl)))))) (dmV (dOp op_mulX sr_mul (dl (dIx ix_seq sr_ix (dN (pv 0)) (dl (dI)) (fun _ _ => rfl))) (dl (dIx ix_seq sr_ix (dN (pv 1)) (dl (dI)) (fun _ _ => rfl)))) (dmNil))))))
theorem den_law_below (T : Txt K mg A) (B : Bs base mg A) (F_law_power : FnOk P w K mg base (L2N.CX P w) 1 A.f_law_power A.d_law_power P_law_power (toSp K 2 (S_law_power A)))
    (cdv : Value) (Ar : Around) (outer : List Env) (s : Shared) (H : Hp) (E : XK) (hr : Room 1 (Ar.deeper (envOfC "_law_below" (defScope s_law_below) s.heap.objs.size A.f_law_below cdv))) :
    PSs (cxOf (L2N.CX P w) P w K mg base N_law_below "_law_below" (defScope s_law_below) A.f_law_below cdv Ar outer s H E) (defBody s_law_below) (cS K (fun cls d _ H => E cls d H) (w_law_below A)) := by
  have nd := sc_law_below.nd
  have tk : L2N.Takes (cxOf (L2N.CX P w) P w K mg base N_law_below "_law_below" (defScope s_law_below) A.f_law_below cdv Ar outer s H E) (fun cls d _ H => E cls d H) := L2N.takes_of rfl rfl rfl rfl
  have po : PassesOwn (model P w) (Ar.deeper (envOfC "_law_below" (defScope s_law_below) s.heap.objs.size A.f_law_below cdv)) (envOfC "_law_below" (defScope s_law_below) s.heap.objs.size A.f_law_below cdv) (cxOf (L2N.CX P w) P w K mg base N_law_below "_law_below" (defScope s_law_below) A.f_law_below cdv Ar outer s H E).xe := passes_of (X := cxOf (L2N.CX P w) P w K mg base N_law_below "_law_below" (defScope s_law_below) A.f_law_below cdv Ar outer s H E) rfl
  exact dsCons (dUnpT (is := [7, 8, 9]) (ps_asg (dN (pv 1)) (pg_tup rfl (pgs_cons (pg_name (i := 7) nd rfl (by first | exact Or.inl rfl | exact Or.inr rfl)) (pgs_cons (pg_name (i := 8) nd rfl (by first | exact Or.inl rfl | exact Or.inr rfl)) (pgs_cons (pg_name (i := 9) nd rfl (by first | exact Or.inl rfl | exact Or.inr rfl)) (pgs_nil))))))) (dsCons (dIfS (ps_if (dTc (op_eqA hr.units) sr_eq (dN (pv 0)) (dl (dI)) (nomark _)) (dsOne (dRet (ps_ret (dTup (daCons (dI) (daCons (dV (pv 4)) (daNil))))))) (dsNil))) (dsCons (dSet (ps_set (i := 5) nd rfl (by first | exact Or.inl rfl | exact Or.inr rfl) (dCall F_law_power (hr.mono (by decide)) rfl T.f_law_power T.p_law_power T.a_law_power tk (dmV (dV (pv 2)) (dmV (dV (pv 8)) (dmNil)))))) (dsCons (dFor (ps_for po rfl (diR1 (pi_range1 rfl T.b_range (daCons (dV (pv 9)) (daNil)))) (dgName (pg_name (i := 6) nd rfl (by first | exact Or.inl rfl | exact Or.inr rfl))) (dsCons (dIfS (ps_if (dTc op_gt sr_gt (dl (dOp op_addA sr_add (dN (pv 4)) (dN (pv 8)))) (dl (dB1 (fun _ ha => pe_callB call_len rfl T.b_len (by decide +kernel) (pa_cons ha pa_nil)) su_len (dN (pv 3)))) (nomark _)) (dsOne (dRet (ps_ret (dZ)))) (dsNil))) (dsCons (dSet (ps_set (i := 10) nd rfl (by first | exact Or.inl rfl | exact Or.inr rfl) (dI))) (dsCons (dFor (ps_for po rfl (diA (pi_lt (dSlV (dN (pv 3)) (dpAt (dV (pv 4))) (dpAt (dOp op_addA sr_add (dN (pv 4)) (dN (pv 8))))))) (dgName (pg_name (i := 11) nd rfl (by first | exact Or.inl rfl | exact Or.inr rfl))) (dsOne (dSet (ps_set (i := 10) nd rfl (by first | exact Or.inl rfl | exact Or.inr rfl) (dOp op_addA sr_add (dl (dOp op_mulX sr_mul (dN (pv 10)) (dN (pv 2)))) (dN (pv 11)))))))) (dsCons (dSet (ps_set (i := 4) nd rfl (by first | exact Or.inl rfl | exact Or.inr rfl) (dOp op_addA sr_add (dN (pv 4)) (dN (pv 8))))) (dsCons (dIfS (ps_if (dTc (op_eqA hr.units) sr_eq (dN (pv 7)) (dl (dX)) (nomark _)) (dsOne (dRet (ps_ret (dTup (daCons (dOp op_fdivA sr_div (dl (dOp op_mulX sr_mul (dN (pv 10)) (dN (pv 0)))) (dN (pv 5))) (daCons (dV (pv 4)) (daNil))))))) (dsNil))) (dsOne (dIfS (ps_if (PW.pt (dOr (dTc (op_eqA hr.units) sr_eq (dN (pv 7)) (dl (dX)) (nomark _)) (pw_or1 (dTc op_lt sr_lt (dN (pv 10)) (dl (dOp op_sub sr_sub (dN (pv 5)) (dl (dOp op_modN sr_mod (dl (dB1 (fun _ ha => pe_callTy call_int1 rfl T.b_int (by decide +kernel) (pa_cons ha pa_nil)) su_int (dN (pv 5)))) (dN (pv 0)))))) (nomark _))))) (dsOne (dRet (ps_ret (dTup (daCons (dOp op_modN sr_mod (dl (dB1 (fun _ ha => pe_callTy call_int1 rfl T.b_int (by decide +kernel) (pa_cons ha pa_nil)) su_int (dN (pv 10)))) (dN (pv 0))) (daCons (dV (pv 4)) (daNil))))))) (dsNil))))))))))) (dsOne (dRet (ps_ret (dTup (daCons (dOp op_modN sr_mod (dl (dB1 (fun _ ha => pe_callTy call_int1 rfl T.b_int (by decide +kernel) (pa_cons ha pa_nil)) su_int (dN (pv 10)))) (dN (pv 0))) (daCons (dV (pv 4)) (daNil))))))))))
theorem den_law_manner (T : Txt K mg A) (B : Bs base mg A) (F_law_take : FnOk P w K mg base (L2N.CX P w) 1 A.f_law_take A.d_law_take P_law_take (toSp K 2 (S_law_take A))) (F_law_power : FnOk P w K mg base (L2N.CX P w) 1 A.f_law_power A.d_law_power P_law_power (toSp K 2 (S_law_power A)))
    (cdv : Value) (Ar : Around) (outer : List Env) (s : Shared) (H : Hp) (E : XK) (hr : Room 1 (Ar.deeper (envOfC "_law_manner" (defScope s_law_manner) s.heap.objs.size A.f_law_manner cdv))) :
    PSs (cxOf (L2N.CX P w) P w K mg base N_law_manner "_law_manner" (defScope s_law_manner) A.f_law_manner cdv Ar outer s H E) (defBody s_law_manner) (cS K (fun cls d _ H => E cls d H) (w_law_manner A)) := by
  have nd := sc_law_manner.nd
  have tk : L2N.Takes (cxOf (L2N.CX P w) P w K mg base N_law_manner "_law_manner" (defScope s_law_manner) A.f_law_manner cdv Ar outer s H E) (fun cls d _ H => E cls d H) := L2N.takes_of rfl rfl rfl rfl
  have po : PassesOwn (model P w) (Ar.deeper (envOfC "_law_manner" (defScope s_law_manner) s.heap.objs.size A.f_law_manner cdv)) (envOfC "_law_manner" (defScope s_law_manner) s.heap.objs.size A.f_law_manner cdv) (cxOf (L2N.CX P w) P w K mg base N_law_manner "_law_manner" (defScope s_law_manner) A.f_law_manner cdv Ar outer s H E).xe := passes_of (X := cxOf (L2N.CX P w) P w K mg base N_law_manner "_law_manner" (defScope s_law_manner) A.f_law_manner cdv Ar outer s H E) rfl
  exact dsCons (dFor (ps_for po rfl (diR1 (pi_range1 rfl T.b_range (daCons (dI) (daNil)))) (dgName (pg_name (i := 2) nd rfl (by first | exact Or.inl rfl | exact Or.inr rfl))) (dsCons (dSet (ps_set (i := 3) nd rfl (by first | exact Or.inl rfl | exact Or.inr rfl) (dOp op_addA sr_add (dl (dI)) (dl (dCall F_law_take (hr.mono (by decide)) rfl T.f_law_take T.p_law_take T.a_law_take tk (dmIo (pv 0) (dmV (dIx ix_seq sr_ix (dl (dFE (dLst (daCons (dI) (daCons (dI) (daNil)))))) (dl (dCall F_law_take (hr.mono (by decide)) rfl T.f_law_take T.p_law_take T.a_law_take tk (dmIo (pv 0) (dmV (dI) (dmNil))))) (fun _ _ => rfl)) (dmNil)))))))) (dsCons (dSet (ps_set (i := 4) nd rfl (by first | exact Or.inl rfl | exact Or.inr rfl) (dIx ix_seq sr_ix (dl (dFE (dLst (daCons (dX) (daCons (dX) (daCons (dX) (daNil))))))) (dl (dCall F_law_take (hr.mono (by decide)) rfl T.f_law_take T.p_law_take T.a_law_take tk (dmIo (pv 0) (dmV (dI) (dmNil))))) (fun _ _ => rfl)))) (dsCons (dSet (ps_set (i := 5) nd rfl (by first | exact Or.inl rfl | exact Or.inr rfl) (dTup (daCons (dV (pv 4)) (daCons (dOp op_addA sr_add (dl (dI)) (dl (dCall F_law_take (hr.mono (by decide)) rfl T.f_law_take T.p_law_take T.a_law_take tk (dmIo (pv 0) (dmV (dI) (dmNil)))))) (daCons (dIx ix_seq sr_ix (dl (dFE (dLst (daCons (dI) (daCons (dOp op_addA sr_add (dl (dI)) (dl (dCall F_law_take (hr.mono (by decide)) rfl T.f_law_take T.p_law_take T.a_law_take tk (dmIo (pv 0) (dmV (dI) (dmNil)))))) (daNil)))))) (dl (dB1 (fun _ ha => pe_callTy call_int1 rfl T.b_int (by decide +kernel) (pa_cons ha pa_nil)) su_int (dl (dCmp (op_eqA hr.units) sr_eq (dN (pv 4)) (dl (dX)) (nomark _))))) (fun _ _ => rfl)) (daNil))))))) (dsOne (dIfS (ps_if (dTc op_le sr_le (dl (dCall F_law_power (hr.mono (by decide)) rfl T.f_law_power T.p_law_power T.a_law_power tk (dmV (dV (pv 3)) (dmV (dOp op_mulX sr_mul (dl (dIx ix_seq sr_ix (dN (pv 5)) (dl (dI)) (fun _ _ => rfl))) (dl (dIx ix_seq sr_ix (dN (pv 5)) (dl (dI)) (fun _ _ => rfl)))) (dmNil))))) (dN (pv 1)) (nomark _)) (dsOne (dRet (ps_ret (dTup (daCons (dV (pv 3)) (daCons (dV (pv 5)) (daNil))))))) (dsNil))))))))) (dsOne (dRet (ps_ret (dTup (daCons (dI) (daCons (dTup (daCons (dX) (daCons (dI) (daCons (dI) (daNil))))) (daNil)))))))
theorem dencheck_bound (T : Txt K mg A) (B : Bs base mg A) (Fis_bound : FnOk P w K mg base (L2N.CX P w) 2 A.fis_bound A.dis_bound Pis_bound (toSp K 1 (Sis_bound A)))
    (cdv : Value) (Ar : Around) (outer : List Env) (s : Shared) (H : Hp) (E : XK) (hr : Room 2 (Ar.deeper (envOfC "check_bound" (defScope scheck_bound) s.heap.objs.size A.fcheck_bound cdv))) :
    PSs (cxOf (L2N.CX P w) P w K mg base Ncheck_bound "check_bound" (defScope scheck_bound) A.fcheck_bound cdv Ar outer s H E) (defBody scheck_bound) (cS K (fun cls d _ H => E cls d H) (wcheck_bound A)) := by
  have nd := sccheck_bound.nd
  have tk : L2N.Takes (cxOf (L2N.CX P w) P w K mg base Ncheck_bound "check_bound" (defScope scheck_bound) A.fcheck_bound cdv Ar outer s H E) (fun cls d _ H => E cls d H) := L2N.takes_of rfl rfl rfl rfl
  exact dsOne (dIfS (ps_if (dNot (dTv (dCall Fis_bound (hr.mono (by decide)) rfl T.fis_bound T.pis_bound T.ais_bound tk (dmV (dV (pv 0)) (dmNil))))) (dsOne (dRaise (L2N.ps_raise rfl tk (L2N.pmk_own PySem.F.excBase_ValueError T.xOutOfRange T.cOutOfRange T.qOutOfRange (raises_own T.uOutOfRange T.tOutOfRange) rfl)))) (dsNil)))
theorem dendraw_below (T : Txt K mg A) (B : Bs base mg A) (Fread_below : FnOk P w K mg base (L2N.CX P w) 2 A.fread_below A.dread_below Pread_below (toSp K 5 (Sread_below A))) (Fcheck_bound : FnOk P w K mg base (L2N.CX P w) 3 A.fcheck_bound A.dcheck_bound Pcheck_bound (toSp K 1 (Scheck_bound A)))
    (cdv : Value) (Ar : Around) (outer : List Env) (s : Shared) (H : Hp) (E : XK) (hr : Room 3 (Ar.deeper (envOfC "draw_below" (defScope sdraw_below) s.heap.objs.size A.fdraw_below cdv))) :
    PSs (cxOf (L2N.CX P w) P w K mg base Ndraw_below "draw_below" (defScope sdraw_below) A.fdraw_below cdv Ar outer s H E) (defBody sdraw_below) (cS K (fun cls d _ H => E cls d H) (wdraw_below A)) := by
  have nd := scdraw_below.nd
  have tk : L2N.Takes (cxOf (L2N.CX P w) P w K mg base Ndraw_below "draw_below" (defScope sdraw_below) A.fdraw_below cdv Ar outer s H E) (fun cls d _ H => E cls d H) := L2N.takes_of rfl rfl rfl rfl
  exact dsCons (dDrop (ps_expr (dCall Fcheck_bound (hr.mono (by decide)) rfl T.fcheck_bound T.pcheck_bound T.acheck_bound tk (dmV (dV (pv 0)) (dmNil))))) (dsOne (dRet (ps_ret (dCall Fread_below (hr.mono (by decide)) rfl T.fread_below T.pread_below T.aread_below tk (dmV (dV (pv 0)) (dmV (dV (pv 1)) (dmV (dV (pv 2)) (dmV (dV (pv 3)) (dmV (dI) (dmNil))))))))))
theorem denchance_below (T : Txt K mg A) (B : Bs base mg A) (Fmade : FnOk P w K mg base (L2N.CX P w) 1 A.fmade A.dmade Pmade (toSp K 2 (Smade A))) (Fwhole_below : FnOk P w K mg base (L2N.CX P w) 2 A.fwhole_below A.dwhole_below Pwhole_below (toSp K 3 (Swhole_below A))) (Fweight_between : FnOk P w K mg base (L2N.CX P w) 2 A.fweight_between A.dweight_between Pweight_between (toSp K 5 (Sweight_between A))) (Fcheck_bound : FnOk P w K mg base (L2N.CX P w) 3 A.fcheck_bound A.dcheck_bound Pcheck_bound (toSp K 1 (Scheck_bound A)))
    (cdv : Value) (Ar : Around) (outer : List Env) (s : Shared) (H : Hp) (E : XK) (hr : Room 3 (Ar.deeper (envOfC "chance_below" (defScope schance_below) s.heap.objs.size A.fchance_below cdv))) :
    PSs (cxOf (L2N.CX P w) P w K mg base Nchance_below "chance_below" (defScope schance_below) A.fchance_below cdv Ar outer s H E) (defBody schance_below) (cS K (fun cls d _ H => E cls d H) (wchance_below A)) := by
  have nd := scchance_below.nd
  have tk : L2N.Takes (cxOf (L2N.CX P w) P w K mg base Nchance_below "chance_below" (defScope schance_below) A.fchance_below cdv Ar outer s H E) (fun cls d _ H => E cls d H) := L2N.takes_of rfl rfl rfl rfl
  exact dsCons (dDrop (ps_expr (dCall Fcheck_bound (hr.mono (by decide)) rfl T.fcheck_bound T.pcheck_bound T.acheck_bound tk (dmV (dV (pv 0)) (dmNil))))) (dsCons (dIfS (ps_if (dNot (dTchain op_le op_lt sr_le sr_lt (dl (dI)) (dN (pv 3)) (dN (pv 0)))) (dsOne (dRet (ps_ret (dTup (daCons (dI) (daCons (dI) (daNil))))))) (dsNil))) (dsOne (dRet (ps_ret (dCall Fmade (hr.mono (by decide)) rfl T.fmade T.pmade T.amade tk (dmV (dCall Fweight_between (hr.mono (by decide)) rfl T.fweight_between T.pweight_between T.aweight_between tk (dmV (dV (pv 0)) (dmV (dV (pv 1)) (dmV (dV (pv 2)) (dmV (dV (pv 3)) (dmV (dOp op_addA sr_add (dN (pv 3)) (dl (dI))) (dmNil))))))) (dmV (dCall Fwhole_below (hr.mono (by decide)) rfl T.fwhole_below T.pwhole_below T.awhole_below tk (dmV (dV (pv 0)) (dmV (dV (pv 1)) (dmV (dV (pv 2)) (dmNil))))) (dmNil))))))))
theorem den_law_same (T : Txt K mg A) (B : Bs base mg A) (d : Nat) (F_law_same : FnOk P w K mg base (L2N.CX P w) (1 + d) A.f_law_same A.d_law_same P_law_same (toSp K 2 (S_law_same d A)))
    (cdv : Value) (Ar : Around) (outer : List Env) (s : Shared) (H : Hp) (E : XK) (hr : Room (1 + d) (Ar.deeper (envOfC "_law_same" (defScope s_law_same) s.heap.objs.size A.f_law_same cdv))) :
    PSs (cxOf (L2N.CX P w) P w K mg base N_law_same "_law_same" (defScope s_law_same) A.f_law_same cdv Ar outer s H E) (defBody s_law_same) (cS K (fun cls d _ H => E cls d H) (w_law_same d A)) := by
  have nd := sc_law_same.nd
  have tk : L2N.Takes (cxOf (L2N.CX P w) P w K mg base N_law_same "_law_same" (defScope s_law_same) A.f_law_same cdv Ar outer s H E) (fun cls d _ H => E cls d H) := L2N.takes_of rfl rfl rfl rfl
  have po : PassesOwn (model P w) (Ar.deeper (envOfC "_law_same" (defScope s_law_same) s.heap.objs.size A.f_law_same cdv)) (envOfC "_law_same" (defScope s_law_same) s.heap.objs.size A.f_law_same cdv) (cxOf (L2N.CX P w) P w K mg base N_law_same "_law_same" (defScope s_law_same) A.f_law_same cdv Ar outer s H E).xe := passes_of (X := cxOf (L2N.CX P w) P w K mg base N_law_same "_law_same" (defScope s_law_same) A.f_law_same cdv Ar outer s H E) rfl
  exact dsCons (dIfS (ps_if (PW.pt (dOr (dTc op_isN sr_isN (dN (pv 1)) (dl (dZ)) (nomark _)) (pw_or1 (dTc op_isN sr_isN (dN (pv 0)) (dl (dZ)) (nomark _))))) (dsOne (dRet (ps_ret (dAndV (dCmp op_isN sr_isN (dN (pv 1)) (dl (dZ)) (nomark _)) (pe_one (dCmp op_isN sr_isN (dN (pv 0)) (dl (dZ)) (nomark _))))))) (dsNil))) (dsCons (dIfS (ps_if (PW.pt (dOr (dTv (dIsi (fun _ _ ha hb => pe_callB call_isi rfl T.b_isinstance (by decide +kernel) (pa_cons ha (pa_cons hb pa_nil))) (dN (pv 1)) (pe_bltn (v := .ty "tuple") rfl T.b_tuple (by decide +kernel) rfl) kit_tuple)) (pw_or1 (dTv (dIsi (fun _ _ ha hb => pe_callB call_isi rfl T.b_isinstance (by decide +kernel) (pa_cons ha (pa_cons hb pa_nil))) (dN (pv 1)) (pe_bltn (v := .ty "list") rfl T.b_list (by decide +kernel) rfl) kit_list))))) (dsCons (dIfS (ps_if (PW.pt (dOr (dTc (op_neA hr.units) sr_ne (dl (dIsi (fun _ _ ha hb => pe_callB call_isi rfl T.b_isinstance (by decide +kernel) (pa_cons ha (pa_cons hb pa_nil))) (dN (pv 1)) (pe_bltn (v := .ty "tuple") rfl T.b_tuple (by decide +kernel) rfl) kit_tuple)) (dl (dIsi (fun _ _ ha hb => pe_callB call_isi rfl T.b_isinstance (by decide +kernel) (pa_cons ha (pa_cons hb pa_nil))) (dN (pv 0)) (pe_bltn (v := .ty "tuple") rfl T.b_tuple (by decide +kernel) rfl) kit_tuple)) (nomark _)) (pw_or1 (dTc (op_neA hr.units) sr_ne (dl (dIsi (fun _ _ ha hb => pe_callB call_isi rfl T.b_isinstance (by decide +kernel) (pa_cons ha (pa_cons hb pa_nil))) (dN (pv 1)) (pe_bltn (v := .ty "list") rfl T.b_list (by decide +kernel) rfl) kit_list)) (dl (dIsi (fun _ _ ha hb => pe_callB call_isi rfl T.b_isinstance (by decide +kernel) (pa_cons ha (pa_cons hb pa_nil))) (dN (pv 0)) (pe_bltn (v := .ty "list") rfl T.b_list (by decide +kernel) rfl) kit_list)) (nomark _))))) (dsOne (dRet (ps_ret (dB)))) (dsNil))) (dsCons (dIfS (ps_if (dTc (op_neA hr.units) sr_ne (dl (dB1 (fun _ ha => pe_callB call_len rfl T.b_len (by decide +kernel) (pa_cons ha pa_nil)) su_len (dN (pv 0)))) (dl (dB1 (fun _ ha => pe_callB call_len rfl T.b_len (by decide +kernel) (pa_cons ha pa_nil)) su_len (dN (pv 1)))) (nomark _)) (dsOne (dRet (ps_ret (dB)))) (dsNil))) (dsCons (dFor (ps_for po rfl (diR1 (pi_range1 rfl T.b_range (daCons (dB1 (fun _ ha => pe_callB call_len rfl T.b_len (by decide +kernel) (pa_cons ha pa_nil)) su_len (dN (pv 1))) (daNil)))) (dgName (pg_name (i := 2) nd rfl (by first | exact Or.inl rfl | exact Or.inr rfl))) (dsOne (dIfS (ps_if (dNot (dTv (dCall F_law_same (hr.mono (by omega)) rfl T.f_law_same T.p_law_same T.a_law_same tk (dmV (dIx ix_seq sr_ix (dN (pv 0)) (dN (pv 2)) (fun _ _ => rfl)) (dmV (dIx ix_seq sr_ix (dN (pv 1)) (dN (pv 2)) (fun _ _ => rfl)) (dmNil)))))) (dsOne (dRet (ps_ret (dB)))) (dsNil)))))) (dsOne (dRet (ps_ret (dB))))))) (dsNil))) (dsCons (dIfS (ps_if (dTc (op_neA hr.units) sr_ne (dl (dIsi (fun _ _ ha hb => pe_callB call_isi rfl T.b_isinstance (by decide +kernel) (pa_cons ha (pa_cons hb pa_nil))) (dN (pv 1)) (pe_bltn (v := .ty "bool") rfl T.b_bool (by decide +kernel) rfl) kit_bool)) (dl (dIsi (fun _ _ ha hb => pe_callB call_isi rfl T.b_isinstance (by decide +kernel) (pa_cons ha (pa_cons hb pa_nil))) (dN (pv 0)) (pe_bltn (v := .ty "bool") rfl T.b_bool (by decide +kernel) rfl) kit_bool)) (nomark _)) (dsOne (dRet (ps_ret (dB)))) (dsNil))) (dsCons (dIfS (ps_if (PW.pt (dOr (dTc (op_neA hr.units) sr_ne (dl (dIsi (fun _ _ ha hb => pe_callB call_isi rfl T.b_isinstance (by decide +kernel) (pa_cons ha (pa_cons hb pa_nil))) (dN (pv 1)) (pe_bltn (v := .ty "int") rfl T.b_int (by decide +kernel) rfl) kit_int)) (dl (dIsi (fun _ _ ha hb => pe_callB call_isi rfl T.b_isinstance (by decide +kernel) (pa_cons ha (pa_cons hb pa_nil))) (dN (pv 0)) (pe_bltn (v := .ty "int") rfl T.b_int (by decide +kernel) rfl) kit_int)) (nomark _)) (pw_or1 (dTc (op_neA hr.units) sr_ne (dl (dIsi (fun _ _ ha hb => pe_callB call_isi rfl T.b_isinstance (by decide +kernel) (pa_cons ha (pa_cons hb pa_nil))) (dN (pv 1)) (pe_bltn (v := .ty "str") rfl T.b_str (by decide +kernel) rfl) kit_str)) (dl (dIsi (fun _ _ ha hb => pe_callB call_isi rfl T.b_isinstance (by decide +kernel) (pa_cons ha (pa_cons hb pa_nil))) (dN (pv 0)) (pe_bltn (v := .ty "str") rfl T.b_str (by decide +kernel) rfl) kit_str)) (nomark _))))) (dsOne (dRet (ps_ret (dB)))) (dsNil))) (dsOne (dRet (ps_ret (dCmp (op_eqA hr.units) sr_eq (dN (pv 0)) (dN (pv 1)) (nomark _))))))))
theorem den_law_try (T : Txt K mg A) (B : Bs base mg A) (F_law_told : ∀ c t, nm A c = some t → FnT P w K mg base 1 A.f_law_told A.d_law_told P_law_told c t) (Fdraw_below : FnOk P w K mg base (L2N.CX P w) 4 A.fdraw_below A.ddraw_below Pdraw_below (toSp K 4 (Sdraw_below A))) (Fchance_below : FnOk P w K mg base (L2N.CX P w) 4 A.fchance_below A.dchance_below Pchance_below (toSp K 4 (Schance_below A)))
    (cdv : Value) (Ar : Around) (outer : List Env) (s : Shared) (H : Hp) (E : XK) (hr : Room 4 (Ar.deeper (envOfC "_law_try" (defScope s_law_try) s.heap.objs.size A.f_law_try cdv))) :
    PSs (cxOf (L2N.CX P w) P w K mg base N_law_try "_law_try" (defScope s_law_try) A.f_law_try cdv Ar outer s H E) (defBody s_law_try) (cS K (fun cls d _ H => E cls d H) (w_law_try A)) := by
  have nd := sc_law_try.nd
  have tk : L2N.Takes (cxOf (L2N.CX P w) P w K mg base N_law_try "_law_try" (defScope s_law_try) A.f_law_try cdv Ar outer s H E) (fun cls d _ H => E cls d H) := L2N.takes_of rfl rfl rfl rfl
  exact dsOne (dTryAs (cv := .ref A.cLotError) (hcat T) (i := 5) rfl rfl nd rfl rfl ⟨rfl, by decide, .inl T.cLotError⟩ tk (fun W2 pn xe tk2 po2 => dsOne (dRet (ps_ret (dIf (dTc (op_eqA hr.units) sr_eq (dN (pv 0)) (dl (dI)) (nomark _)) (dCall Fdraw_below (hr.mono (by decide)) rfl T.fdraw_below T.pdraw_below T.adraw_below tk2 (dmV (dV (pv 1)) (dmV (dV (pv 2)) (dmV (dV (pv 3)) (dmV (dV (pv 4)) (dmNil)))))) (dCall Fchance_below (hr.mono (by decide)) rfl T.fchance_below T.pchance_below T.achance_below tk2 (dmV (dV (pv 1)) (dmV (dV (pv 2)) (dmV (dV (pv 3)) (dmV (dV (pv 4)) (dmNil)))))))))) (fun a oe cls d pn hz hf => suite_by hz fun c t ht hz => dsOne (dRet (ps_ret (dTold (F_law_told c t ht) (markH hr (by decide)) List.mem_cons_self rfl hz hf rfl T.f_law_told T.p_law_told T.a_law_told (pv 5))))))
theorem den_law_are_judged (T : Txt K mg A) (B : Bs base mg A) (F_law_take : FnOk P w K mg base (L2N.CX P w) 1 A.f_law_take A.d_law_take P_law_take (toSp K 2 (S_law_take A))) (F_law_fits : FnOk P w K mg base (L2N.CX P w) 1 A.f_law_fits A.d_law_fits P_law_fits (toSp K 1 (S_law_fits A))) (Fis_manner : FnOk P w K mg base (L2N.CX P w) 2 A.fis_manner A.dis_manner Pis_manner (toSp K 1 (Sis_manner A))) (F_law_same : FnOk P w K mg base (L2N.CX P w) 5 A.f_law_same A.d_law_same P_law_same (toSp K 2 (S_law_same 4 A)))
    (cdv : Value) (Ar : Around) (outer : List Env) (s : Shared) (H : Hp) (E : XK) (hr : Room 5 (Ar.deeper (envOfC "_law_are_judged" (defScope s_law_are_judged) s.heap.objs.size A.f_law_are_judged cdv))) :
    PSs (cxOf (L2N.CX P w) P w K mg base N_law_are_judged "_law_are_judged" (defScope s_law_are_judged) A.f_law_are_judged cdv Ar outer s H E) (defBody s_law_are_judged) (cS K (fun cls d _ H => E cls d H) (w_law_are_judged A)) := by
  have nd := sc_law_are_judged.nd
  have tk : L2N.Takes (cxOf (L2N.CX P w) P w K mg base N_law_are_judged "_law_are_judged" (defScope s_law_are_judged) A.f_law_are_judged cdv Ar outer s H E) (fun cls d _ H => E cls d H) := L2N.takes_of rfl rfl rfl rfl
  have po : PassesOwn (model P w) (Ar.deeper (envOfC "_law_are_judged" (defScope s_law_are_judged) s.heap.objs.size A.f_law_are_judged cdv)) (envOfC "_law_are_judged" (defScope s_law_are_judged) s.heap.objs.size A.f_law_are_judged cdv) (cxOf (L2N.CX P w) P w K mg base N_law_are_judged "_law_are_judged" (defScope s_law_are_judged) A.f_law_are_judged cdv Ar outer s H E).xe := passes_of (X := cxOf (L2N.CX P w) P w K mg base N_law_are_judged "_law_are_judged" (defScope s_law_are_judged) A.f_law_are_judged cdv Ar outer s H E) rfl
  exact dsCons (dUnpT (is := [4, 5, 6]) (ps_asg (dN (pv 1)) (pg_tup rfl (pgs_cons (pg_name (i := 4) nd rfl (by first | exact Or.inl rfl | exact Or.inr rfl)) (pgs_cons (pg_name (i := 5) nd rfl (by first | exact Or.inl rfl | exact Or.inr rfl)) (pgs_cons (pg_name (i := 6) nd rfl (by first | exact Or.inl rfl | exact Or.inr rfl)) (pgs_nil))))))) (dsCons (dSet (ps_set (i := 2) nd rfl (by first | exact Or.inl rfl | exact Or.inr rfl) (dIx ix_seq sr_ix (dl (dFE (dLst (daCons (dI) (daCons (dUn un_neg su_neg (dl (dI))) (daCons (dI) (daCons (dI) (daCons (dI) (daCons (dB) (daCons (dZ) (daCons (dX) (daNil)))))))))))) (dl (dCall F_law_take (hr.mono (by decide)) rfl T.f_law_take T.p_law_take T.a_law_take tk (dmIo (pv 0) (dmV (dI) (dmNil))))) (fun _ _ => rfl)))) (dsCons (dFor (ps_for po rfl (diA (pi_lt (dFE (dLst (daCons (dV (pv 1)) (daCons (dTup (daCons (dV (pv 4)) (daCons (dV (pv 2)) (daCons (dV (pv 6)) (daNil))))) (daCons (dTup (daCons (dV (pv 4)) (daCons (dV (pv 5)) (daCons (dV (pv 2)) (daNil))))) (daCons (dTup (daCons (dIx ix_seq sr_ix (dl (dFE (dLst (daCons (dX) (daCons (dX) (daCons (dZ) (daCons (dX) (daCons (dX) (daCons (dX) (daNil)))))))))) (dl (dCall F_law_take (hr.mono (by decide)) rfl T.f_law_take T.p_law_take T.a_law_take tk (dmIo (pv 0) (dmV (dI) (dmNil))))) (fun _ _ => rfl)) (daCons (dV (pv 5)) (daCons (dV (pv 6)) (daNil))))) (daCons (dFE (dNewL (fun _ ha => pe_callTy call_list_of rfl T.b_list (by decide +kernel) (pa_cons ha pa_nil)) sn_listOf (dN (pv 1)))) (daCons (dOp op_addA sr_add (dN (pv 1)) (dl (dTup (daCons (dI) (daNil))))) (daCons (dSlV (dN (pv 1)) (dpNo) (dpAt (dI))) (daCons (dZ) (daNil))))))))))))) (dgName (pg_name (i := 3) nd rfl (by first | exact Or.inl rfl | exact Or.inr rfl))) (dsOne (dIfS (ps_if (dNot (dTv (dCall F_law_same (hr.mono (by decide)) rfl T.f_law_same T.p_law_same T.a_law_same tk (dmV (dCall Fis_manner (hr.mono (by decide)) rfl T.fis_manner T.pis_manner T.ais_manner tk (dmV (dV (pv 3)) (dmNil))) (dmV (dCall F_law_fits (hr.mono (by decide)) rfl T.f_law_fits T.p_law_fits T.a_law_fits tk (dmV (dV (pv 3)) (dmNil))) (dmNil)))))) (dsOne (dRet (ps_ret (dB)))) (dsNil)))))) (dsOne (dRet (ps_ret (dB))))))
theorem denlaw (T : Txt K mg A) (B : Bs base mg A) (F_law_draws : FnOk P w K mg base (L2N.CX P w) 1 A.f_law_draws A.d_law_draws P_law_draws (toSpF K 1 (S_law_draws A))) (F_law_take : FnOk P w K mg base (L2N.CX P w) 1 A.f_law_take A.d_law_take P_law_take (toSp K 2 (S_law_take A))) (F_law_lowest : FnOk P w K mg base (L2N.CX P w) 1 A.f_law_lowest A.d_law_lowest P_law_lowest (toSp K 2 (S_law_lowest A))) (F_law_rows : FnOk P w K mg base (L2N.CX P w) 1 A.f_law_rows A.d_law_rows P_law_rows (toSp K 2 (S_law_rows A))) (F_law_plus : FnOk P w K mg base (L2N.CX P w) 2 A.f_law_plus A.d_law_plus P_law_plus (toSp K 2 (S_law_plus A))) (F_law_below : FnOk P w K mg base (L2N.CX P w) 2 A.f_law_below A.d_law_below P_law_below (toSp K 5 (S_law_below A))) (F_law_manner : FnOk P w K mg base (L2N.CX P w) 2 A.f_law_manner A.d_law_manner P_law_manner (toSp K 2 (S_law_manner A))) (Fdraw_below : FnOk P w K mg base (L2N.CX P w) 4 A.fdraw_below A.ddraw_below Pdraw_below (toSp K 4 (Sdraw_below A))) (Fchance_below : FnOk P w K mg base (L2N.CX P w) 4 A.fchance_below A.dchance_below Pchance_below (toSp K 4 (Schance_below A))) (F_law_same : FnOk P w K mg base (L2N.CX P w) 5 A.f_law_same A.d_law_same P_law_same (toSp K 2 (S_law_same 4 A))) (F_law_try : FnOk P w K mg base (L2N.CX P w) 5 A.f_law_try A.d_law_try P_law_try (toSp K 5 (S_law_try A))) (F_law_are_judged : FnOk P w K mg base (L2N.CX P w) 6 A.f_law_are_judged A.d_law_are_judged P_law_are_judged (toSp K 2 (S_law_are_judged A)))
    (cdv : Value) (Ar : Around) (outer : List Env) (s : Shared) (H : Hp) (E : XK) (hr : Room 6 (Ar.deeper (envOfC "law" (defScope slaw) s.heap.objs.size A.flaw cdv))) :
    PSs (cxOf (L2N.CX P w) P w K mg base Nlaw "law" (defScope slaw) A.flaw cdv Ar outer s H E) (defBody slaw) (cS K (fun cls d _ H => E cls d H) (wlaw A)) := by
  have nd := sclaw.nd
  have tk : L2N.Takes (cxOf (L2N.CX P w) P w K mg base Nlaw "law" (defScope slaw) A.flaw cdv Ar outer s H E) (fun cls d _ H => E cls d H) := L2N.takes_of rfl rfl rfl rfl
  have po : PassesOwn (model P w) (Ar.deeper (envOfC "law" (defScope slaw) s.heap.objs.size A.flaw cdv)) (envOfC "law" (defScope slaw) s.heap.objs.size A.flaw cdv) (cxOf (L2N.CX P w) P w K mg base Nlaw "law" (defScope slaw) A.flaw cdv Ar outer s H E).xe := passes_of (X := cxOf (L2N.CX P w) P w K mg base Nlaw "law" (defScope slaw) A.flaw cdv Ar outer s H E) rfl
  exact dsCons (dSetO (ps_set (i := 1) nd rfl (by first | exact Or.inl rfl | exact Or.inr rfl) (dCallF F_law_draws (hr.mono (by decide)) rfl T.f_law_draws T.p_law_draws T.a_law_draws tk (dmV (dV (pv 0)) (dmNil))))) (dsCons (dUnpT (is := [14, 15]) (ps_asg (dl (dCall F_law_manner (hr.mono (by decide)) rfl T.f_law_manner T.p_law_manner T.a_law_manner tk (dmIo (pv 1) (dmV (dI) (dmNil))))) (pg_tup rfl (pgs_cons (pg_name (i := 14) nd rfl (by first | exact Or.inl rfl | exact Or.inr rfl)) (pgs_cons (pg_name (i := 15) nd rfl (by first | exact Or.inl rfl | exact Or.inr rfl)) (pgs_nil)))))) (dsCons (dSet (ps_set (i := 2) nd rfl (by first | exact Or.inl rfl | exact Or.inr rfl) (dOp op_addA sr_add (dl (dI)) (dl (dCall F_law_take (hr.mono (by decide)) rfl T.f_law_take T.p_law_take T.a_law_take tk (dmIo (pv 1) (dmV (dIx ix_seq sr_ix (dl (dFE (dLst (daCons (dI) (daCons (dI) (daNil)))))) (dl (dCall F_law_take (hr.mono (by decide)) rfl T.f_law_take T.p_law_take T.a_law_take tk (dmIo (pv 1) (dmV (dI) (dmNil))))) (fun _ _ => rfl)) (dmNil)))))))) (dsCons (dSet (ps_set (i := 3) nd rfl (by first | exact Or.inl rfl | exact Or.inr rfl) (dOp op_mulX sr_mul (dl (dIx ix_seq sr_ix (dN (pv 15)) (dl (dI)) (fun _ _ => rfl))) (dl (dIx ix_seq sr_ix (dN (pv 15)) (dl (dI)) (fun _ _ => rfl)))))) (dsCons (dSet (ps_set (i := 4) nd rfl (by first | exact Or.inl rfl | exact Or.inr rfl) (dCall F_law_rows (hr.mono (by decide)) rfl T.f_law_rows T.p_law_rows T.a_law_rows tk (dmV (dV (pv 14)) (dmV (dV (pv 3)) (dmNil)))))) (dsCons (dIfS (ps_if (dNot (dTv (dCall F_law_are_judged (hr.mono (by decide)) rfl T.f_law_are_judged T.p_law_are_judged T.a_law_are_judged tk (dmIo (pv 1) (dmV (dV (pv 15)) (dmNil)))))) (dsOne (dRet (ps_ret (dB)))) (dsNil))) (dsCons (dSetO (ps_set (i := 5) nd rfl (by first | exact Or.inl rfl | exact Or.inr rfl) (dRepF (dl (dFE (dLst (daCons (dI) (daNil))))) (dN (pv 2))))) (dsCons (dFor (ps_for po rfl (diA (pi_lt (dV (pv 4)))) (dgName (pg_name (i := 6) nd rfl (by first | exact Or.inl rfl | exact Or.inr rfl))) (dsCons (dSet (ps_set (i := 16) nd rfl (by first | exact Or.inl rfl | exact Or.inr rfl) (dCall F_law_below (hr.mono (by decide)) rfl T.f_law_below T.p_law_below T.a_law_below tk (dmV (dV (pv 2)) (dmV (dV (pv 15)) (dmV (dV (pv 14)) (dmV (dV (pv 6)) (dmV (dI) (dmNil))))))))) (dsCons (dPut (ps_asg (dOp op_addA sr_add (dl (dIx ix_seq sr_ix (dN (pv 5)) (dl (dIx ix_seq sr_ix (dN (pv 16)) (dl (dI)) (fun _ _ => rfl))) (fun _ _ => rfl))) (dl (dI))) (pg_sub (pv 5) (dl (dIx ix_seq sr_ix (dN (pv 16)) (dl (dI)) (fun _ _ => rfl))) set_list))) (dsOne (dIfS (ps_if (dNot (dTv (dCall F_law_same (hr.mono (by decide)) rfl T.f_law_same T.p_law_same T.a_law_same tk (dmV (dCall Fdraw_below (hr.mono (by decide)) rfl T.fdraw_below T.pdraw_below T.adraw_below tk (dmV (dV (pv 2)) (dmV (dV (pv 15)) (dmV (dV (pv 14)) (dmV (dV (pv 6)) (dmNil)))))) (dmV (dV (pv 16)) (dmNil)))))) (dsOne (dRet (ps_ret (dB)))) (dsNil)))))))) (dsCons (dSet (ps_set (i := 7) nd rfl (by first | exact Or.inl rfl | exact Or.inr rfl) (dTup (daCons (dI) (daCons (dI) (daNil)))))) (dsCons (dFor (ps_for po rfl (diR1 (pi_range1 rfl T.b_range (daCons (dV (pv 2)) (daNil)))) (dgName (pg_name (i := 8) nd rfl (by first | exact Or.inl rfl | exact Or.inr rfl))) (dsCons (dSet (ps_set (i := 17) nd rfl (by first | exact Or.inl rfl | exact Or.inr rfl) (dCall Fchance_below (hr.mono (by decide)) rfl T.fchance_below T.pchance_below T.achance_below tk (dmV (dV (pv 2)) (dmV (dV (pv 15)) (dmV (dV (pv 14)) (dmV (dV (pv 8)) (dmNil)))))))) (dsCons (dIfS (ps_if (dNot (dTv (dCall F_law_same (hr.mono (by decide)) rfl T.f_law_same T.p_law_same T.a_law_same tk (dmV (dV (pv 17)) (dmV (dCall F_law_lowest (hr.mono (by decide)) rfl T.f_law_lowest T.p_law_lowest T.a_law_lowest tk (dmV (dIx ix_seq sr_ix (dN (pv 5)) (dN (pv 8)) (fun _ _ => rfl)) (dmV (dB1 (fun _ ha => pe_callB call_len rfl T.b_len (by decide +kernel) (pa_cons ha pa_nil)) su_len (dN (pv 4))) (dmNil)))) (dmNil)))))) (dsOne (dRet (ps_ret (dB)))) (dsNil))) (dsOne (dSet (ps_set (i := 7) nd rfl (by first | exact Or.inl rfl | exact Or.inr rfl) (dCall F_law_plus (hr.mono (by decide)) rfl T.f_law_plus T.p_law_plus T.a_law_plus tk (dmV (dV (pv 7)) (dmV (dV (pv 17)) (dmNil))))))))))) (dsCons (dIfS (ps_if (PW.pt (dOr (dTc (op_neA hr.units) sr_ne (dN (pv 7)) (dl (dTup (daCons (dI) (daCons (dI) (daNil))))) (nomark _)) (dOr (dTc (op_neA hr.units) sr_ne (dl (dCall Fchance_below (hr.mono (by decide)) rfl T.fchance_below T.pchance_below T.achance_below tk (dmV (dV (pv 2)) (dmV (dV (pv 15)) (dmV (dV (pv 14)) (dmV (dV (pv 2)) (dmNil))))))) (dl (dTup (daCons (dI) (daCons (dI) (daNil))))) (nomark _)) (pw_or1 (dTc (op_neA hr.units) sr_ne (dl (dCall Fchance_below (hr.mono (by decide)) rfl T.fchance_below T.pchance_below T.achance_below tk (dmV (dV (pv 2)) (dmV (dV (pv 15)) (dmV (dV (pv 14)) (dmV (dUn un_neg su_neg (dl (dI))) (dmNil))))))) (dl (dTup (daCons (dI) (daCons (dI) (daNil))))) (nomark _)))))) (dsOne (dRet (ps_ret (dB)))) (dsNil))) (dsCons (dSet (ps_set (i := 6) nd rfl (by first | exact Or.inl rfl | exact Or.inr rfl) (dIx ix_seq sr_ix (dN (pv 4)) (dl (dCall F_law_take (hr.mono (by decide)) rfl T.f_law_take T.p_law_take T.a_law_take tk (dmIo (pv 1) (dmV (dB1 (fun _ ha => pe_callB call_len rfl T.b_len (by decide +kernel) (pa_cons ha pa_nil)) su_len (dN (pv 4))) (dmNil))))) (fun _ _ => rfl)))) (dsCons (dFor (ps_for po rfl (diA (pi_lt (dFE (dLst (daCons (dSlV (dN (pv 6)) (dpNo) (dpAt (dCall F_law_take (hr.mono (by decide)) rfl T.f_law_take T.p_law_take T.a_law_take tk (dmIo (pv 1) (dmV (dOp op_addA sr_add (dN (pv 3)) (dl (dI))) (dmNil)))))) (daCons (dTup (daNil)) (daCons (dOp op_addA sr_add (dN (pv 6)) (dl (dTup (daCons (dI) (daCons (dI) (daNil)))))) (daNil)))))))) (dgName (pg_name (i := 9) nd rfl (by first | exact Or.inl rfl | exact Or.inr rfl))) (dsCons (dSet (ps_set (i := 16) nd rfl (by first | exact Or.inl rfl | exact Or.inr rfl) (dCall F_law_below (hr.mono (by decide)) rfl T.f_law_below T.p_law_below T.a_law_below tk (dmV (dV (pv 2)) (dmV (dV (pv 15)) (dmV (dV (pv 14)) (dmV (dV (pv 9)) (dmV (dI) (dmNil))))))))) (dsOne (dIfS (ps_if (dNot (dTv (dCall F_law_same (hr.mono (by decide)) rfl T.f_law_same T.p_law_same T.a_law_same tk (dmV (dCall F_law_try (hr.mono (by decide)) rfl T.f_law_try T.p_law_try T.a_law_try tk (dmV (dI) (dmV (dV (pv 2)) (dmV (dV (pv 15)) (dmV (dV (pv 14)) (dmV (dV (pv 9)) (dmNil))))))) (dmV (dIf (dTc op_notN sr_notN (dN (pv 16)) (dl (dZ)) (nomark _)) (dV (pv 16)) (dX)) (dmNil)))))) (dsOne (dRet (ps_ret (dB)))) (dsNil))))))) (dsCons (dFor (ps_for po rfl (diA (pi_lt (dFE (dLst (daCons (dI) (daCons (dUn un_neg su_neg (dl (dI))) (daCons (dOp op_addA sr_add (dl (dOp op_pow sr_pow (dl (dI)) (dl (dI)))) (dl (dI))) (daCons (dUn un_neg su_neg (dN (pv 2))) (daNil))))))))) (dgName (pg_name (i := 10) nd rfl (by first | exact Or.inl rfl | exact Or.inr rfl))) (dsOne (dIfS (ps_if (PW.pt (dOr (dTc (op_neA hr.units) sr_ne (dl (dCall F_law_try (hr.mono (by decide)) rfl T.f_law_try T.p_law_try T.a_law_try tk (dmV (dI) (dmV (dV (pv 10)) (dmV (dV (pv 15)) (dmV (dV (pv 14)) (dmV (dV (pv 6)) (dmNil)))))))) (dl (dX)) (nomark _)) (pw_or1 (dTc (op_neA hr.units) sr_ne (dl (dCall F_law_try (hr.mono (by decide)) rfl T.f_law_try T.p_law_try T.a_law_try tk (dmV (dI) (dmV (dV (pv 10)) (dmV (dV (pv 15)) (dmV (dV (pv 14)) (dmV (dI) (dmNil)))))))) (dl (dX)) (nomark _))))) (dsOne (dRet (ps_ret (dB)))) (dsNil)))))) (dsCons (dSet (ps_set (i := 11) nd rfl (by first | exact Or.inl rfl | exact Or.inr rfl) (dIx ix_seq sr_ix (dl (dFE (dLst (daCons (dOp op_pow sr_pow (dl (dI)) (dl (dI))) (daCons (dOp op_sub sr_sub (dl (dOp op_pow sr_pow (dl (dI)) (dl (dI)))) (dl (dCall F_law_take (hr.mono (by decide)) rfl T.f_law_take T.p_law_take T.a_law_take tk (dmIo (pv 1) (dmV (dI) (dmNil)))))) (daNil)))))) (dl (dCall F_law_take (hr.mono (by decide)) rfl T.f_law_take T.p_law_take T.a_law_take tk (dmIo (pv 1) (dmV (dI) (dmNil))))) (fun _ _ => rfl)))) (dsCons (dSet (ps_set (i := 12) nd rfl (by first | exact Or.inl rfl | exact Or.inr rfl) (dB1 (fun _ ha => pe_callTy call_tuple_of rfl T.b_tuple (by decide +kernel) (pa_cons ha pa_nil)) su_tupOf (dl (dFE (dLcF (pe_lc (own := [("unused", 18)]) rfl nd (diR1 (pi_range1 rfl T.b_range (daCons (dI) (daNil)))) (blkOk_by (N := Nlaw) (sc := defScope slaw) (own := [("unused", 18)]) (by decide +kernel)) (fun _ _ _ _ _ => dgvName (pg_name (i := 18) nd rfl (by first | exact Or.inl rfl | exact Or.inr rfl)) (by decide)) (fun _ _ _ _ _ => dYes) (fun _ _ _ _ _ => dCall0 F_law_take (hr.mono (by decide)) rfl T.f_law_take T.p_law_take T.a_law_take (dmIo (pv 1) (dmV (dI) (dmNil))))))))))) (dsCons (dFor (ps_for po rfl (diA (pi_lt (dFE (dLst (daCons (dX) (daCons (dX) (daCons (dX) (daNil)))))))) (dgName (pg_name (i := 13) nd rfl (by first | exact Or.inl rfl | exact Or.inr rfl))) (dsOne (dIfS (ps_if (dNot (dTv (dCall F_law_same (hr.mono (by decide)) rfl T.f_law_same T.p_law_same T.a_law_same tk (dmV (dCall Fdraw_below (hr.mono (by decide)) rfl T.fdraw_below T.pdraw_below T.adraw_below tk (dmV (dV (pv 11)) (dmV (dTup (daCons (dV (pv 13)) (daCons (dI) (daCons (dI) (daNil))))) (dmV (dI) (dmV (dV (pv 12)) (dmNil)))))) (dmV (dCall F_law_below (hr.mono (by decide)) rfl T.f_law_below T.p_law_below T.a_law_below tk (dmV (dV (pv 11)) (dmV (dTup (daCons (dV (pv 13)) (daCons (dI) (daCons (dI) (daNil))))) (dmV (dI) (dmV (dV (pv 12)) (dmV (dI) (dmNil))))))) (dmNil)))))) (dsOne (dRet (ps_ret (dB)))) (dsNil)))))) (dsOne (dRet (ps_ret (dB))))))))))))))))))))
end
end Lw

namespace Lw
open PySem L2 Den Evl PySem.Spec PyProof.Rows Zn
variable [Tbs]
local macro_rules | `(tactic| walk_at "env") => `(tactic| (simp only [upds, setOwn, wipeE, setAll, List.foldr, back, keepVa, List.set_cons_zero, List.set_cons_succ, List.getElem?_cons_zero, List.getElem?_cons_succ]; try with_unfolding_all exact rfl))
local macro_rules | `(tactic| walk_at "lit") => `(tactic| (simp only [Int.reduceToNat, Int.reducePow]; try with_unfolding_all exact rfl))
local macro_rules | `(tactic| walk_at "w1") => `(tactic| first
  | with_reducible refine s_seq ?_
  | with_reducible refine s_set ?_
  | with_reducible refine s_L ?_
  | with_reducible refine s_C ?_
  | with_reducible refine s_op ?_
  | with_reducible refine s_N _ (by with_unfolding_all exact rfl) ?_
  | with_reducible refine s_Va _ (by with_unfolding_all exact rfl) ?_
  | with_reducible refine s_Vo _ (by with_unfolding_all exact rfl) ?_
  | with_reducible refine s_asg _ (by first | with_unfolding_all exact rfl | with_unfolding_all assumption) (by walk_at "env") ?_
  | with_reducible refine s_fr0 ?_
  | with_reducible refine s_lc ?_
  | with_reducible refine s_lr0 ?_
  | with_reducible refine s_lrs (by with_unfolding_all first | exact ⟨trivial, trivial⟩ | exact ⟨trivial, trivial, trivial⟩ | exact ⟨trivial, trivial, trivial, trivial⟩) ?_
  | with_reducible refine s_frs ?_
  | with_reducible refine s_next ?_
  | with_reducible refine s_setO ?_
  | with_reducible refine s_aug _ (by with_unfolding_all exact rfl) ?_
  | with_reducible refine s_asgn ?_
  | with_reducible refine s_ret ?_
  | with_reducible refine s_retN ?_
  | with_reducible refine s_retF ?_
  | with_reducible refine s_drop ?_
  | with_reducible refine s_ifs ?_
  | with_reducible refine s_break ?_
  | with_reducible refine s_cont ?_
  | with_reducible refine s_raise ?_
  | with_reducible refine s_unp ?_
  | with_reducible refine s_unpT ?_
  | with_reducible refine s_all0 ?_
  | with_reducible refine s_alls ?_
  | with_reducible refine s_gname ?_
  | with_reducible refine s_gtup ?_
  | with_reducible refine s_glst ?_
  | with_reducible refine s_un ?_
  | with_reducible refine s_B1 ?_
  | with_reducible refine s_B2 ?_
  | with_reducible refine s_isi ?_
  | with_reducible refine s_chain ?_
  | with_reducible refine s_Tb ?_
  | with_reducible refine s_And ?_
  | with_reducible refine s_Or ?_
  | with_reducible refine s_Not ?_
  | with_reducible refine s_AndV ?_
  | with_reducible refine s_OrV ?_
  | with_reducible refine s_NotV ?_
  | with_reducible refine s_If ?_
  | with_reducible refine s_aNil ?_
  | with_reducible refine s_aCons ?_
  | with_reducible refine s_Tup ?_
  | with_reducible refine s_FE ?_
  | with_reducible refine s_mNil ?_
  | with_reducible refine s_mV ?_
  | with_reducible refine s_mIo _ (by with_unfolding_all exact rfl) ?_
  | with_reducible refine s_call ?_
  | with_reducible refine s_call0 ?_
  | with_reducible refine s_callF ?_
  | with_reducible refine s_args _ (by with_unfolding_all exact rfl) (by first | exact nd_io | exact nd_io2 | exact nd_io3 | with_unfolding_all exact List.nodup_nil | with_unfolding_all exact List.nodup_singleton _ | decide) ?_
  | with_reducible refine s_iA ?_
  | with_reducible refine s_iL ?_
  | with_reducible refine s_iU ?_
  | with_reducible refine s_rgL ?_
  | with_reducible refine s_revT ?_
  | with_reducible refine s_revL ?_
  | with_reducible refine s_Tl ?_
  | with_reducible refine s_ext ⟨(by with_unfolding_all exact ⟨fun _ _ => True, trivial⟩), ?_⟩
  | with_reducible refine s_T3 ?_
  | with_reducible refine s_pop ?_
  | with_reducible refine s_inS ?_
  | with_reducible refine s_ninS ?_
  | with_reducible refine s_iT ?_
  | with_reducible refine s_iEn ?_
  | with_reducible refine s_iR3 ?_
  | with_reducible refine s_idx ?_
  | with_reducible refine s_dvm ?_ ?_
  | with_reducible refine s_iR1 ?_
  | with_reducible refine s_iR1e ?_ (by first | decide | omega)
  | with_reducible refine s_iR1e ?_ ?_
  | with_reducible refine s_pNo ?_
  | with_reducible refine s_pAt ?_
  | with_reducible refine s_slL ?_
  | with_reducible refine s_Yes ?_
  | with_reducible refine s_for ?_
  | with_reducible refine s_try ?_
  | with_reducible refine s_told (by with_unfolding_all exact rfl) ?_
  | with_reducible refine s_isX (by with_unfolding_all exact rfl) ?_
  | with_reducible refine s_app ⟨(by with_unfolding_all exact ⟨fun _ _ => True, trivial⟩), ?_⟩
  | with_reducible refine s_put ?_
  | with_reducible refine s_owd _ (by with_unfolding_all exact rfl) ?_
  | with_reducible refine s_oio _ (by with_unfolding_all exact rfl) ?_
  | with_reducible refine s_powl _ (by unfold CPow; decide) (by walk_at "lit") ?_
  | with_reducible refine s_i ?_
  | with_reducible refine s_I ?_ (by walk_at "g")
  | with_reducible refine s_I ?_ ?_
  | with_reducible refine s_addi ?_
  | with_reducible refine s_addl ?_ (by walk_at "g")
  | with_reducible refine s_addl ?_ ?_
  | with_reducible refine s_addt ?_ (by walk_at "g")
  | with_reducible refine s_addt ?_ (by rw [sizeLine_eq]; decide)
  | with_reducible refine s_neg ?_
  | with_reducible refine s_eqi ?_
  | with_reducible refine s_nei ?_
  | with_reducible refine s_eqs ?_
  | with_reducible refine s_nes ?_
  | with_reducible refine s_isB ?_
  | with_reducible refine s_notB ?_
  | with_reducible refine s_ixl _ (by with_unfolding_all exact rfl) ?_
  | with_reducible refine s_ixt _ (by with_unfolding_all exact rfl) ?_
  | with_reducible refine s_abs ?_
  | with_reducible refine s_int ?_
  | with_reducible refine s_lenl ?_
  | with_reducible refine s_lent ?_
  | with_reducible refine s_gcd ?_
  | with_reducible refine s_par ?_
  | with_reducible refine s_slV ?_
  | with_reducible refine s_rep ?_ (by simp) (by decide) (by decide) (by decide)
  | with_reducible refine s_repL ?_ (by decide) (by decide) (by first | decide | simp)
  | with_reducible refine s_repF ?_
  | with_reducible refine s_xy ?_
  | with_reducible refine s_gen ?_
  | with_reducible refine s_iZ2 ?_
  | with_reducible refine s_iZ3 ?_
  | with_reducible refine s_z2e _ _ (by with_unfolding_all exact rfl) (by with_unfolding_all exact rfl) ?_
  | with_reducible refine s_z3e _ _ _ (by with_unfolding_all exact rfl) (by with_unfolding_all exact rfl) (by with_unfolding_all exact rfl) ?_
  | with_reducible refine s_fz _ (by with_unfolding_all exact rfl) ?_
  | with_reducible refine s_fzo _ (by with_unfolding_all exact rfl) ?_
  | with_reducible refine s_tupOf _ (by with_unfolding_all exact rfl) ?_
  | with_reducible refine s_isN ?_
  | with_reducible refine s_notN ?_
  | with_reducible refine s_newL ?_
  | with_reducible refine s_listOf _ (by with_unfolding_all exact rfl) ?_
  | with_reducible refine s_ift (by with_unfolding_all exact rfl) ?_
  | with_reducible refine s_iff (by with_unfolding_all exact rfl) ?_
  | refine ⟨_, _, rfl, rfl, ?_⟩
  | refine ⟨_, rfl, ?_⟩
  | (with_reducible show _ ∧ _; first
    | with_reducible refine And.intro (by with_unfolding_all exact ⟨fun _ _ => True, trivial⟩) ?_
    | with_reducible refine And.intro (by rw [sizeLine_eq]; decide) ?_
    | with_reducible refine And.intro (by decide) ?_
    | with_reducible refine And.intro (by with_unfolding_all first | exact ⟨trivial, trivial⟩ | exact ⟨trivial, trivial, trivial⟩ | exact ⟨trivial, trivial, trivial, trivial⟩) ?_))
local macro_rules | `(tactic| walk_at "st") => `(tactic| (unfold bxOf; simp only [List.replicate, List.cons_append, List.nil_append]))
local macro_rules | `(tactic| walk_at "w") => `(tactic| repeat walk_at "w1")
local macro_rules | `(tactic| walk_at "g") => `(tactic| first | assumption | (show _ ≠ (0 : Int); decide) | (show (0 : Int) ≤ _; decide))
theorem abs_nat (i : Int) : (if i < 0 then -i else i) = (i.natAbs : Int) := by split <;> omega
theorem rng_lt {lo : Int} {n i : Nat} {d : D} (h : (rng lo n)[i]? = some d) : i < n := by
  obtain ⟨z, _⟩ := List.getElem?_eq_some_iff.mp h
  unfold rng at z
  rw [List.length_map, List.length_range] at z
  exact z
theorem rng_len (lo : Int) (n : Nat) : (rng lo n).length = n := by unfold rng; rw [List.length_map, List.length_range]
theorem log_of {j : Int} (h0 : 0 < j) (h : j ≤ 10 ^ 100) : j.natAbs.log2 < 9000 := by
  have z : j.natAbs ≠ 0 := by omega
  have e : ((10 ^ 100 : Nat) : Int) = 10 ^ 100 := by decide +kernel
  have a : j.natAbs < 2 ^ 400 := Nat.lt_of_le_of_lt (m := 10 ^ 100) (by omega) (by decide +kernel)
  exact Nat.lt_of_lt_of_le ((Nat.log2_lt z).mpr a) (by decide)
theorem divS {i j : Int} (h : 0 < j) (k : j ≤ 10 ^ 100) : CDivA i j := ⟨by omega, log_of h k⟩
theorem abs_pow {i : Int} {k : Nat} (h0 : 0 ≤ i) (h : i < 2 ^ k) : i.natAbs < 2 ^ k := by
  have e : ((2 ^ k : Nat) : Int) = 2 ^ k := by simp
  omega
theorem mulB {i j : Int} (k : Nat) (h0 : 0 ≤ i) (h : i < 2 ^ k) (hj : j.natAbs < 2 ^ 64) (hk : k ≤ 100000) : CMulX i j := mulx_ok (abs_pow h0 h) hj (by omega)
theorem atI_ints {cs : List Int} {i : Int} (h0 : 0 ≤ i) (h1 : i < (cs.length : Int)) : ∃ c, c ∈ cs ∧ atI (cs.map PyData.int) i = some (.int c) := by
  have hl : i.toNat < cs.length := by omega
  refine ⟨cs[i.toNat], List.getElem_mem hl, ?_⟩
  unfold atI ixN
  rw [List.length_map, if_pos h0, if_pos h1]
  show (cs.map PyData.int)[i.toNat]? = _
  rw [List.getElem?_map, List.getElem?_eq_getElem hl]
  rfl
def Pl (s : Sl) : Prop := s = .no ∨ ∃ d, s = .va d
theorem Pl.nio {s : Sl} (h : Pl s) : nio (some s) = true := by
  rcases h with rfl | ⟨d, rfl⟩ <;> rfl
theorem Pl.own {s : Sl} (h : Pl s) {ρ : En} {i : Nat} (e : ρ[i]? = some s) : nonown ρ i := by
  rcases h with rfl | ⟨d, rfl⟩ <;> (unfold nonown; rw [e]; exact trivial)
theorem Pl.no : Pl .no := .inl rfl
theorem Pl.va {d : D} : Pl (.va d) := .inr ⟨d, rfl⟩
theorem get_map {α β : Type} {f : α → β} {l : List α} {i : Nat} {x : β} (h : (l.map f)[i]? = some x) : ∃ c, l[i]? = some c ∧ f c = x := by
  rw [List.getElem?_map] at h
  exact Option.map_eq_some_iff.mp h
theorem ib_lt {z : Int} {n : Nat} (h : Builtin.Int.intBits z ≤ n) : z.natAbs < 2 ^ n := by
  unfold Builtin.Int.intBits at h
  split at h
  · rename_i e
    have e : z = 0 := by simpa using e
    rw [e]; exact Nat.two_pow_pos n
  · rename_i e
    have e : z ≠ 0 := by simpa using e
    exact (Nat.log2_lt (by omega)).mp (by omega)
theorem ib_up {z : Int} {n : Nat} (h : Builtin.Int.intBits z ≤ n) : Builtin.Int.intBits (1 + (z.natAbs : Int)) ≤ n + 1 := by
  have a := ib_lt h
  refine PyProof.Rows.intBits_le ?_
  rw [Nat.pow_succ]
  omega
theorem ib_mul {i j : Int} (h : Builtin.Int.intBits i ≤ 2000000) (hj : j.natAbs < 2 ^ 64) : CMulX i j := by
  have y := PyProof.Rows.intBits_le hj
  unfold CMulX
  omega
set_option maxHeartbeats 4000000 in
theorem hw_law_draws (A : Ad) : ∀ pr R E, S_law_draws A pr R E → w_law_draws A (bxF 1 R E) (pr ++ List.replicate 6 .no) := by
  rintro pr R E ⟨ns, rfl, hl, hb, h⟩
  unfold w_law_draws bxF
  simp only [List.replicate, List.cons_append, List.nil_append]
  walk_at "w"
  refine s_inv (fun i ρ' => ∃ (ms : List Int) (s2 s4 s5 s6 : Sl), ρ' = [Sl.va (.list (ns.map PyData.int)), Sl.ow (ms.map PyData.int), s2, Sl.no, s4, s5, s6] ∧ Pl s2 ∧ Pl s4 ∧ Pl s5 ∧ Pl s6 ∧ ms.length ≤ 62 * i)
    ⟨[], .no, .no, .no, .no, rfl, .no, .no, .no, .no, Nat.zero_le _⟩ ?_ ?_
  · rintro i d ρ' hd ⟨ms, s2, s4, s5, s6, rfl, p2, p4, p5, p6, hm⟩
    obtain ⟨c, hc, rfl⟩ := get_map hd
    have hi := (List.getElem?_eq_some_iff.mp hc).1
    have n2 := p2.nio
    have n4 := p4.nio
    have n5 := p5.nio
    have n6 := p6.nio
    walk_at "w"
    generalize hx : (if c < 0 then -c else c) = x
    have hx0 : 0 ≤ x := by rw [← hx]; split <;> omega
    have e60 : (2 : Int) ^ 60 = 1152921504606846976 := by decide
    refine s_ifd (fun h1 => ?_) fun h1 => ?_
    · have b1 := Int.fmod_nonneg_of_pos (x * 48271 + 11) (b := 2147483647) (by decide)
      have b2 := Int.fmod_lt_of_pos (x * 48271 + 11) (b := 2147483647) (by decide)
      walk_at "w"
      · refine ⟨by rw [List.length_map, sizeLine_eq]; omega, ?_⟩
        simp only [List.set_cons_zero, List.set_cons_succ]
        walk_at "w"
        · refine ⟨by rw [sizeLine_eq]; simp; omega, ?_⟩
          simp only [List.set_cons_zero, List.set_cons_succ]
          walk_at "w"
          refine s_inv (fun j ρ' => ∃ (ms' : List Int) (y : Int) (s4' : Sl), ρ' = [Sl.va (.list (ns.map PyData.int)), Sl.ow (ms'.map PyData.int), Sl.va (.int c), Sl.no, s4', Sl.va (.int y), Sl.va (.int _)] ∧ Pl s4' ∧ 0 ≤ y ∧ ms'.length ≤ 62 * i + 2 + j) ⟨ms ++ [_] ++ [_], _, s4, by rw [List.map_append, List.map_append]; rfl, p4, Int.le_refl _, by simp; omega⟩ ?_ ?_
          · rintro j d ρ' hj ⟨ms', y, s4', rfl, p4', hy, hm'⟩
            have hj' := rng_lt hj
            have n4' := p4'.nio
            walk_at "w"
            refine s_ifd (fun h2 => ?_) fun h2 => ?_
            · walk_at "w"
              refine ⟨by rw [List.length_map, sizeLine_eq]; omega, ?_⟩
              simp only [List.set_cons_zero, List.set_cons_succ]
              walk_at "w"
              · exact ⟨ms' ++ [y.fmod 997], _, _, by rw [List.map_append]; rfl, .va, Int.fdiv_nonneg hy (by omega), by simp; omega⟩
              · exact divS (by omega) (by omega)
            · walk_at "w"
              exact ⟨ms', y, _, rfl, .va, hy, by omega⟩
          · rintro ρ' ⟨ms', y, s4', rfl, p4', hy, hm'⟩
            rw [rng_len] at hm'
            have e60 : (60 : Int).toNat = 60 := rfl
            exact ⟨ms', _, _, _, _, rfl, .va, p4', .va, .va, by omega⟩
        · exact divS (by omega) (by omega)
      · exact mulB 40 b1 (by omega) (by decide) (by decide)
      · exact mulB 60 hx0 (by omega) (by decide) (by decide)
    · walk_at "w"
      refine s_inv (fun j ρ' => ∃ (ms' : List Int) (y : Int) (s4' : Sl), ρ' = [Sl.va (.list (ns.map PyData.int)), Sl.ow (ms'.map PyData.int), Sl.va (.int c), Sl.no, s4', Sl.va (.int y), s6] ∧ Pl s4' ∧ 0 ≤ y ∧ ms'.length ≤ 62 * i + 2 + j) ⟨ms, _, s4, rfl, p4, hx0, by omega⟩ ?_ ?_
      · rintro j d ρ' hj ⟨ms', y, s4', rfl, p4', hy, hm'⟩
        have hj' := rng_lt hj
        have n4' := p4'.nio
        walk_at "w"
        refine s_ifd (fun h2 => ?_) fun h2 => ?_
        · walk_at "w"
          refine ⟨by rw [List.length_map, sizeLine_eq]; omega, ?_⟩
          simp only [List.set_cons_zero, List.set_cons_succ]
          walk_at "w"
          · exact ⟨ms' ++ [y.fmod 997], _, _, by rw [List.map_append]; rfl, .va, Int.fdiv_nonneg hy (by omega), by simp; omega⟩
          · exact divS (by omega) (by omega)
        · walk_at "w"
          exact ⟨ms', y, _, rfl, .va, hy, by omega⟩
      · rintro ρ' ⟨ms', y, s4', rfl, p4', hy, hm'⟩
        rw [rng_len] at hm'
        have e60 : (60 : Int).toNat = 60 := rfl
        exact ⟨ms', _, _, _, _, rfl, .va, p4', .va, p6, by omega⟩
  · rintro ρ' ⟨ms, s2, s4, s5, s6, rfl, p2, p4, p5, p6, hm⟩
    rw [List.length_map] at hm
    have n4 := p4.nio
    walk_at "w"
    refine s_ifd (fun h1 => ?_) fun h1 => ?_
    · obtain ⟨c, hcm, hca⟩ := atI_ints (cs := ns) (i := 0) (by omega) (by simpa using h1)
      have hbc := ib_up (hb c hcm)
      walk_at "w"
      refine s_ixl _ hca ?_
      walk_at "w"
      rw [abs_nat]
      refine s_inv (fun j ρ' => ∃ (ms' : List Int) (x : Int) (s4' : Sl), ρ' = [Sl.va (.list (ns.map PyData.int)), Sl.ow (ms'.map PyData.int), s2, Sl.va (.int x), s4', s5, s6] ∧ Pl s4' ∧ Builtin.Int.intBits x ≤ 2000000 ∧ ms'.length ≤ 62 * 63 + j) ⟨ms, _, s4, rfl, p4, Nat.le_trans hbc (by omega), by omega⟩ ?_ ?_
      · rintro j d ρ' hj ⟨ms', x, s4', rfl, p4', hx, hm'⟩
        have hj' := rng_lt hj
        have e900 : (900 : Int).toNat = 900 := rfl
        have n4' := p4'.nio
        have b1 := Int.fmod_nonneg_of_pos (x * 48271 + 69621) (b := 2147483647) (by decide)
        have b2 := Int.fmod_lt_of_pos (x * 48271 + 69621) (b := 2147483647) (by decide)
        walk_at "w"
        · refine ⟨by rw [List.length_map, sizeLine_eq]; omega, ?_⟩
          simp only [List.set_cons_zero, List.set_cons_succ]
          exact ⟨ms' ++ [_], _, _, by rw [List.map_append]; rfl, .va, Nat.le_trans (PyProof.Rows.intBits_le (k := 40) (abs_pow b1 (by omega))) (by decide), by simp; omega⟩
        · exact divS (by omega) (by omega)
        · exact ib_mul hx (by decide)
      · rintro ρ' ⟨ms', x, s4', rfl, p4', hx, hm'⟩
        walk_at "w"
        rw [← List.map_reverse]
        exact h _
    · walk_at "w"
      refine s_inv (fun j ρ' => ∃ (ms' : List Int) (x : Int) (s4' : Sl), ρ' = [Sl.va (.list (ns.map PyData.int)), Sl.ow (ms'.map PyData.int), s2, Sl.va (.int x), s4', s5, s6] ∧ Pl s4' ∧ Builtin.Int.intBits x ≤ 2000000 ∧ ms'.length ≤ 62 * 63 + j) ⟨ms, _, s4, rfl, p4, by decide, by omega⟩ ?_ ?_
      · rintro j d ρ' hj ⟨ms', x, s4', rfl, p4', hx, hm'⟩
        have hj' := rng_lt hj
        have e900 : (900 : Int).toNat = 900 := rfl
        have n4' := p4'.nio
        have b1 := Int.fmod_nonneg_of_pos (x * 48271 + 69621) (b := 2147483647) (by decide)
        have b2 := Int.fmod_lt_of_pos (x * 48271 + 69621) (b := 2147483647) (by decide)
        walk_at "w"
        · refine ⟨by rw [List.length_map, sizeLine_eq]; omega, ?_⟩
          simp only [List.set_cons_zero, List.set_cons_succ]
          exact ⟨ms' ++ [_], _, _, by rw [List.map_append]; rfl, .va, Nat.le_trans (PyProof.Rows.intBits_le (k := 40) (abs_pow b1 (by omega))) (by decide), by simp; omega⟩
        · exact divS (by omega) (by omega)
        · exact ib_mul hx (by decide)
      · rintro ρ' ⟨ms', x, s4', rfl, p4', hx, hm'⟩
        walk_at "w"
        rw [← List.map_reverse]
        exact h _
theorem hw_law_take (A : Ad) : ∀ pr R E, S_law_take A pr R E → w_law_take A (bxOf 2 R E) (pr ++ List.replicate 0 .no) := by
  rintro pr R E ⟨ms, b, rfl, hb0, hb1, h⟩
  have hbn : b ≠ 0 := by omega
  unfold w_law_take
  walk_at "st"
  walk_at "w"
  refine s_ifd (fun h1 => ?_) fun h1 => ?_
  · walk_at "w"
    exact h 0 ms (by omega) hb0
  · have hl : 0 < ms.length := by
      rw [List.length_map] at h1
      omega
    have hne : ms ≠ [] := List.length_pos_iff.mp hl
    walk_at "w"
    refine ⟨.int (ms.getLast hne), ?_, ?_⟩
    · rw [List.getElem?_map, List.length_map, List.getElem?_eq_getElem (by omega), List.getLast_eq_getElem hne]
      rfl
    · walk_at "w"
      have e : (ms.map PyData.int).dropLast = ms.dropLast.map PyData.int := by rw [List.dropLast_eq_take, List.dropLast_eq_take, List.map_take, List.length_map]
      rw [e]
      exact h _ _ (Int.fmod_nonneg_of_pos _ hb0) (Int.fmod_lt_of_pos _ hb0)
theorem his_number0 : True := trivial

theorem hwis_number (A : Ad) : ∀ pr R E, Sis_number A pr R E → wis_number A (bxOf 3 R E) (pr ++ List.replicate 0 .no) := by
  rintro pr R E ⟨d, a, b, rfl, h⟩
  unfold wis_number
  walk_at "st"
  walk_at "w"
  cases d with
  | int i =>
    walk_at "w"
    refine s_ifd (fun h1 => ?_) fun h1 => ?_
    · walk_at "w"
      have e : isNum (.int i) a b = decide (i ≤ b) := by show (decide (a ≤ i) && decide (i ≤ b)) = _; rw [decide_eq_true h1, Bool.true_and]
      rw [e] at h
      exact h
    · have e : isNum (.int i) a b = false := by show (decide (a ≤ i) && decide (i ≤ b)) = _; rw [decide_eq_false h1, Bool.false_and]
      rw [e] at h
      exact h
  | bool i => walk_at "w"; exact h
  | none => walk_at "w"; exact h
  | str i => walk_at "w"; exact h
  | list i => walk_at "w"; exact h
  | tuple i => walk_at "w"; exact h
  | dict i => walk_at "w"; exact h
theorem shaped_b (b : Bool) : SeqAt.shaped (.bool b) = true := by cases b <;> decide
theorem s_nebb {b : Bool} {k : D → Prop} (h : k (.bool false)) : fNe (.bool b) (.bool b) k := by
  refine ⟨shaped_b b, shaped_b b, ?_⟩
  rw [SeqAt.eqv_refl _ (Bool.and_eq_true_iff.mp (shaped_b b)).1]
  exact h
theorem s_eqbb {b : Bool} {k : D → Prop} (h : k (.bool true)) : fEq (.bool b) (.bool b) k := by
  refine ⟨shaped_b b, shaped_b b, ?_⟩
  rw [SeqAt.eqv_refl _ (Bool.and_eq_true_iff.mp (shaped_b b)).1]
  exact h
theorem atI_mem {l : List D} {i : Int} (h0 : 0 ≤ i) (h1 : i < (l.length : Int)) : ∃ x, x ∈ l ∧ atI l i = some x := by
  have hl : i.toNat < l.length := by omega
  refine ⟨l[i.toNat], List.getElem_mem hl, ?_⟩
  unfold atI ixN
  rw [if_pos h0, if_pos h1]
  exact List.getElem?_eq_getElem hl
theorem rng_at {n i : Nat} {d : D} (h : (rng 0 n)[i]? = some d) : d = .int (i : Int) ∧ i < n := by
  unfold rng at h
  obtain ⟨k, hk, rfl⟩ := get_map h
  obtain ⟨a, b⟩ := List.getElem?_eq_some_iff.mp hk
  rw [List.getElem_range] at b
  subst b
  rw [List.length_range] at a
  exact ⟨by show PyData.int (0 + (i : Int)) = _; rw [Int.zero_add], a⟩
set_option maxHeartbeats 4000000 in
theorem hw_law_same (d : Nat) (A : Ad) : ∀ pr R E, S_law_same (d + 1) A pr R E → w_law_same d A (bxOf 2 R E) (pr ++ List.replicate 1 .no) := by
  rintro pr R E ⟨x, rfl, hok, h⟩
  unfold w_law_same
  walk_at "st"
  cases x with
  | none => walk_at "w"; exact h
  | bool b =>
    walk_at "w"
    repeat (refine s_nebb ?_; walk_at "w")
    refine s_eqbb ?_
    exact h
  | int i =>
    walk_at "w"
    repeat (refine s_nebb ?_; walk_at "w")
    rw [decide_eq_true rfl]
    exact h
  | str i =>
    walk_at "w"
    repeat (refine s_nebb ?_; walk_at "w")
    rw [decide_eq_true rfl]
    exact h
  | dict i => cases d <;> exact hok.elim
  | list xs =>
    cases d with
    | zero => exact hok.elim
    | succ d =>
      obtain ⟨hl, hy⟩ := hok
      walk_at "w"
      repeat (refine s_nebb ?_; walk_at "w")
      refine s_ifn (fun h1 => absurd rfl h1) fun _ => ?_
      walk_at "w"
      refine ⟨by omega, s_inv (fun i ρ' => ∃ s2, ρ' = [Sl.va (.list xs), Sl.va (.list xs), s2] ∧ Pl s2) ⟨.no, rfl, .no⟩ ?_ ?_⟩
      · rintro i d' ρ' hd ⟨s2, rfl, p2⟩
        obtain ⟨rfl, hi⟩ := rng_at hd
        have n2 := p2.nio
        rw [Int.toNat_natCast] at hi
        obtain ⟨y, hym, hya⟩ := atI_mem (l := xs) (i := (i : Int)) (by omega) (by omega)
        walk_at "w"
        refine s_ixl _ hya ?_
        walk_at "w"
        refine s_ixl _ hya ?_
        walk_at "w"
        refine ⟨hy y hym, ?_⟩
        walk_at "w"
        exact .va
      · rintro ρ' ⟨s2, rfl, p2⟩
        walk_at "w"
        exact h
  | tuple xs =>
    cases d with
    | zero => exact hok.elim
    | succ d =>
      obtain ⟨hl, hy⟩ := hok
      walk_at "w"
      repeat (refine s_nebb ?_; walk_at "w")
      refine s_ifn (fun h1 => absurd rfl h1) fun _ => ?_
      walk_at "w"
      refine ⟨by omega, s_inv (fun i ρ' => ∃ s2, ρ' = [Sl.va (.tuple xs), Sl.va (.tuple xs), s2] ∧ Pl s2) ⟨.no, rfl, .no⟩ ?_ ?_⟩
      · rintro i d' ρ' hd ⟨s2, rfl, p2⟩
        obtain ⟨rfl, hi⟩ := rng_at hd
        have n2 := p2.nio
        rw [Int.toNat_natCast] at hi
        obtain ⟨y, hym, hya⟩ := atI_mem (l := xs) (i := (i : Int)) (by omega) (by omega)
        walk_at "w"
        refine s_ixt _ hya ?_
        walk_at "w"
        refine s_ixt _ hya ?_
        walk_at "w"
        refine ⟨hy y hym, ?_⟩
        walk_at "w"
        exact .va
      · rintro ρ' ⟨s2, rfl, p2⟩
        walk_at "w"
        exact h

theorem fmod_nat (a b : Nat) : (a : Int).fmod (b : Int) = ((a % b : Nat) : Int) := by
  rw [Int.fmod_eq_emod_of_nonneg _ (Int.natCast_nonneg b)]; rfl
theorem fdiv_nat (a b : Nat) : (a : Int).fdiv (b : Int) = ((a / b : Nat) : Int) := by
  rw [Int.fdiv_eq_ediv_of_nonneg _ (Int.natCast_nonneg b)]; rfl
theorem nlog {k : Nat} (h : k < bX) : ((k : Int)).natAbs.log2 < 9000 := by
  rw [Int.natAbs_natCast]
  by_cases z : k = 0
  · rw [z]; decide
  · exact Nat.lt_of_lt_of_le ((Nat.log2_lt z).mpr h) (by decide)
theorem divN {i : Int} {k : Nat} (h0 : 0 < k) (h : k < bX) : CDivA i (k : Int) := ⟨by omega, nlog h⟩
theorem mulN {a b : Nat} (i j : Nat) (ha : a < 2 ^ i) (hb : b < 2 ^ j) (h : i + j ≤ 134217728) : CMulX (a : Int) (b : Int) := mulx_ok (a := i) (b := j) (by rw [Int.natAbs_natCast]; exact ha) (by rw [Int.natAbs_natCast]; exact hb) h
theorem bXle : bX ≤ 2 ^ 4000 := Nat.le_refl _
theorem mulB2 {a b : Nat} (ha : a < bX) (hb : b < bX) : CMulX (a : Int) (b : Int) := mulN 4000 4000 ha hb (by decide)
theorem gcd_pos {p w : Nat} (h : 0 < w) : 0 < Nat.gcd p w := Nat.gcd_pos_of_pos_right _ h
theorem gcd_le {p w : Nat} (h : 0 < w) : Nat.gcd p w ≤ w := Nat.gcd_le_right p h
theorem hwmade (A : Ad) : ∀ pr R E, Smade A pr R E → wmade A (bxOf 2 R E) (pr ++ List.replicate 1 .no) := by
  rintro pr R E ⟨p, w, rfl, h0, hw, h⟩
  have g1 := gcd_pos (p := p) h0
  have g2 := gcd_le (p := p) h0
  unfold wmade
  walk_at "st"
  walk_at "w"
  refine s_ifd (fun h3 => ?_) fun h3 => ?_
  · omega
  · walk_at "w"
    refine s_ifd (fun h2 => ?_) fun h2 => ?_
    · walk_at "w"
      · rw [Int.natAbs_natCast, Int.natAbs_natCast, fdiv_nat, fdiv_nat]
        exact h
      · rw [Int.natAbs_natCast, Int.natAbs_natCast]
        exact divN g1 (by omega)
      · rw [Int.natAbs_natCast, Int.natAbs_natCast]
        exact divN g1 (by omega)
    · omega
/-! Euclid -/
def Eu (i a b : Nat) : Prop := (i = 0 ∧ a * b < 2 ^ 3999) ∨ (0 < i ∧ b ≤ a ∧ a * b * 2 ^ i < 2 ^ 4000)
theorem eu_step {i a b : Nat} (h : Eu i a b) (hb : b ≠ 0) : Eu (i + 1) b (a % b) := by
  have hm : a % b < b := Nat.mod_lt _ (by omega)
  rcases h with ⟨rfl, h1⟩ | ⟨h0, h1, h2⟩
  · refine .inr ⟨by omega, by omega, ?_⟩
    have e : b * (a % b) ≤ b * a := Nat.mul_le_mul_left b (Nat.mod_le a b)
    rw [Nat.mul_comm b a] at e
    have e2 : (2 : Nat) ^ 4000 = 2 ^ 3999 * 2 ^ 1 := (Nat.pow_add 2 3999 1)
    rw [e2]
    exact Nat.mul_lt_mul_of_pos_right (Nat.lt_of_le_of_lt e h1) (by decide)
  · refine .inr ⟨by omega, by omega, ?_⟩
    have e : b * (a % b) * 2 ≤ a * b := by
      have q : a % b + a % b ≤ a := by
        have d := Nat.div_add_mod a b
        have p : 1 ≤ a / b := (Nat.one_le_div_iff (by omega)).mpr h1
        have m : b * 1 ≤ b * (a / b) := Nat.mul_le_mul_left b p
        omega
      calc b * (a % b) * 2 = b * (a % b + a % b) := by rw [Nat.mul_assoc, Nat.mul_two]
        _ ≤ b * a := Nat.mul_le_mul_left b q
        _ = a * b := Nat.mul_comm b a
    refine Nat.lt_of_le_of_lt ?_ h2
    calc b * (a % b) * 2 ^ (i + 1) = b * (a % b) * 2 * 2 ^ i := by rw [Nat.pow_succ, Nat.mul_comm (2 ^ i) 2, Nat.mul_assoc (b * (a % b))]
      _ ≤ a * b * 2 ^ i := Nat.mul_le_mul_right _ e
theorem eu_end {a b : Nat} (h : Eu 4000 a b) : b = 0 := by
  rcases h with ⟨z, _⟩ | ⟨_, h1, h2⟩
  · cases z
  · by_cases hb : b = 0
    · exact hb
    · have : 1 ≤ a * b := Nat.mul_pos (by omega) (by omega)
      have q : 1 * 2 ^ 4000 ≤ a * b * 2 ^ 4000 := Nat.mul_le_mul_right _ this
      rw [Nat.one_mul] at q
      exact absurd h2 (Nat.not_lt.mpr q)
theorem hw_law_lowest (A : Ad) : ∀ pr R E, S_law_lowest A pr R E → w_law_lowest A (bxOf 2 R E) (pr ++ List.replicate 3 .no) := by
  rintro pr R E ⟨p, w, rfl, h0, hw, hpw, h⟩
  have g1 := gcd_pos (p := p) h0
  have g2 := gcd_le (p := p) h0
  unfold w_law_lowest
  walk_at "st"
  walk_at "w"
  refine s_cut (fun ρ' => ∃ sk : Sl, ρ' = [.va (.int p), .va (.int w), .va (.int (Nat.gcd p w : Nat)), .va (.int 0), sk] ∧ Pl sk) ?_ fun hz => ?_
  · rintro ρ' ⟨sk, rfl, n1⟩
    walk_at "w"
    · rw [fdiv_nat, fdiv_nat]
      exact h
    · exact divN g1 (by omega)
    · exact divN g1 (by omega)
  · refine s_inv (fun i ρ' => ∃ (a b : Nat) (sk : Sl), ρ' = [.va (.int p), .va (.int w), .va (.int (a : Int)), .va (.int (b : Int)), sk] ∧ Pl sk ∧ Nat.gcd a b = Nat.gcd p w ∧ Eu i a b) ⟨w, p, _, rfl, .no, Nat.gcd_comm _ _, .inl ⟨rfl, by rw [Nat.mul_comm]; exact hpw⟩⟩ ?_ ?_
    · rintro i d ρ' _ ⟨a, b, sk, rfl, n1, hg, eu⟩
      have n1' := n1.nio
      walk_at "w"
      refine s_ifd (fun h1 => ?_) fun h1 => ?_
      · walk_at "w1"
        have hb : b = 0 := by omega
        subst hb
        rw [Nat.gcd_zero_right] at hg
        subst hg
        exact hz _ ⟨.va d, rfl, .va⟩
      · walk_at "w"
        have hb : b ≠ 0 := by omega
        rw [fmod_nat]
        exact ⟨b, a % b, _, rfl, .va, by rw [← hg, Nat.gcd_comm a b, Nat.gcd_rec b a, Nat.gcd_comm], eu_step eu hb⟩
    · rintro ρ' ⟨a, b, sk, rfl, n1, hg, eu⟩
      have hb := eu_end eu
      subst hb
      rw [Nat.gcd_zero_right] at hg
      subst hg
      exact hz _ ⟨sk, rfl, n1⟩

theorem s_while {t : WT} {wb : WS} {nx rt rf bk ct rs} {ρ : En} (Inv : Nat → En → Prop) (h0 : ∃ m, Inv m ρ) (h : ∀ m ρ', Inv m ρ' → t ρ' (fun c ρ1 => if c = true then wb ⟨fun ρ2 => ∃ m', m' < m ∧ Inv m' ρ2, rt, rf, nx, fun ρ2 => ∃ m', m' < m ∧ Inv m' ρ2, rs⟩ ρ1 else nx ρ1) rs) : wWhile t wb ⟨nx, rt, rf, bk, ct, rs⟩ ρ := ⟨Inv, h0, h⟩
theorem powB {b c : Nat} (h : b < 2 ^ 520) (hc : c ≤ 64) : b ^ c < 2 ^ 40000 := by
  have h1 : b ^ c ≤ (2 ^ 520) ^ c := Nat.pow_le_pow_left (by omega) c
  rw [← Nat.pow_mul] at h1
  exact Nat.lt_of_le_of_lt h1 (Nat.pow_lt_pow_right (by decide) (by omega))
theorem mulE {b : Nat} (x y : Nat) : ((b ^ x : Nat) : Int) * ((b ^ y : Nat) : Int) = ((b ^ (x + y) : Nat) : Int) := by
  rw [Nat.pow_add, Int.natCast_mul]
theorem hwto_power (A : Ad) : ∀ pr R E, Sto_power A pr R E → wto_power A (bxOf 2 R E) (pr ++ List.replicate 2 .no) := by
  rintro pr R E ⟨b, e, rfl, hb, he, h⟩
  unfold wto_power
  walk_at "st"
  walk_at "w"
  refine s_while (fun m ρ' => ∃ x c a : Nat, ρ' = [.va (nI b), .va (nI x), .va (nI (b ^ c)), .va (nI (b ^ a))] ∧ c + a * x = e ∧ m = x) ⟨e, e, 0, 1, by rw [Nat.pow_zero, Nat.pow_one]; rfl, by omega, rfl⟩ ?_
  rintro m ρ' ⟨x, c, a, rfl, hx, hm⟩
  walk_at "w"
  refine s_ifd (fun h1 => ?_) fun h1 => ?_
  · have hx0 : 0 < x := by omega
    have ha : a ≤ a * x := Nat.le_mul_of_pos_right a hx0
    have bc := powB (c := c) hb (by omega)
    have ba := powB (c := a) hb (by omega)
    have hd := Nat.div_add_mod x 2
    have ht : a * x = a * (2 * (x / 2)) + a * (x % 2) := by rw [← Nat.mul_add, hd]
    have ht2 : a * (2 * (x / 2)) = (a + a) * (x / 2) := by rw [← Nat.mul_assoc, Nat.mul_two]
    have f2 : (x : Int).fmod 2 = ((x % 2 : Nat) : Int) := fmod_nat x 2
    have d2 : (x : Int).fdiv 2 = ((x / 2 : Nat) : Int) := fdiv_nat x 2
    walk_at "w"
    rw [f2]
    refine s_ifd (fun h2 => ?_) fun h2 => ?_
    · have h2' : x % 2 = 1 := by omega
      walk_at "w"
      · refine ⟨x / 2, by omega, x / 2, c + a, a + a, ?_, ?_, rfl⟩
        · rw [mulE, mulE, d2]
        · rw [h2', Nat.mul_one] at ht
          omega
      · exact divS (by omega) (by omega)
      · exact mulN 40000 40000 ba ba (by decide)
      · exact mulN 40000 40000 bc ba (by decide)
    · have h2' : x % 2 = 0 := by omega
      walk_at "w"
      · refine ⟨x / 2, by omega, x / 2, c, a + a, ?_, ?_, rfl⟩
        · rw [mulE, d2]
        · rw [h2', Nat.mul_zero] at ht
          omega
      · exact divS (by omega) (by omega)
      · exact mulN 40000 40000 ba ba (by decide)
  · have hx0 : x = 0 := by omega
    subst hx0
    rw [Nat.mul_zero, Nat.add_zero] at hx
    subst hx
    walk_at "w"
    exact h
theorem hw_law_power (A : Ad) : ∀ pr R E, S_law_power A pr R E → w_law_power A (bxOf 2 R E) (pr ++ List.replicate 2 .no) := by
  rintro pr R E ⟨b, e, rfl, hb, he, h⟩
  unfold w_law_power
  walk_at "st"
  walk_at "w"
  refine ⟨by omega, s_inv (fun i ρ' => ∃ sk, ρ' = [.va (nI b), .va (nI e), .va (nI (b ^ i)), sk] ∧ Pl sk) ⟨.no, by rw [Nat.pow_zero]; rfl, .no⟩ ?_ ?_⟩
  · rintro i d ρ' hd ⟨sk, rfl, pk⟩
    have hi := rng_lt hd
    rw [Int.toNat_natCast] at hi
    have nk := pk.nio
    have bc := powB (c := i) hb (by omega)
    walk_at "w"
    · exact .va
    · exact mulN 40000 520 bc hb (by decide)
  · rintro ρ' ⟨sk, rfl, pk⟩
    rw [rng_len, Int.toNat_natCast]
    walk_at "w"
    exact h
theorem cl_eq {n W r : Nat} (h : 0 < n) : -((-(r : Int) * (W : Int)).fdiv (n : Int)) = ((clI n W r : Nat) : Int) := by
  unfold clI
  have hd := Nat.div_add_mod (r * W + (n - 1)) n
  have hm := Nat.mod_lt (r * W + (n - 1)) h
  generalize hq : (r * W + (n - 1)) / n = q at hd ⊢
  generalize hs : (r * W + (n - 1)) % n = s at hd hm
  have e : -(r : Int) * (W : Int) = -((r * W : Nat) : Int) := by rw [Int.neg_mul, Int.natCast_mul]
  rw [e, Int.fdiv_eq_ediv_of_nonneg _ (Int.natCast_nonneg n)]
  generalize r * W = x at hd hm ⊢
  have hd' : (n : Int) * (q : Int) + (s : Int) = (x : Int) + ((n : Int) - 1) := by
    have : ((n * q + s : Nat) : Int) = ((x + (n - 1) : Nat) : Int) := by rw [hd]
    rw [Int.natCast_add, Int.natCast_mul, Int.natCast_add] at this
    omega
  have u := (Int.ediv_emod_unique (a := -(x : Int)) (b := (n : Int)) (q := -(q : Int)) (r := (n : Int) - 1 - (s : Int)) (by omega)).mpr ⟨by rw [Int.mul_neg]; omega, by omega, by omega⟩
  rw [u.1, Int.neg_neg]
theorem n60 {n : Nat} (h : okN n) : n < 2 ^ 60 := Nat.lt_of_le_of_lt h.2 (by decide)
theorem up {a i j : Nat} (h : a < 2 ^ i) (k : i ≤ j) : a < 2 ^ j := Nat.lt_of_lt_of_le h (Nat.pow_le_pow_right (by decide) k)
theorem hw_least_number (A : Ad) : ∀ pr R E, S_least_number A pr R E → w_least_number A (bxOf 3 R E) (pr ++ List.replicate 0 .no) := by
  rintro pr R E ⟨n, W, r, rfl, hn, hW, hr, h⟩
  have hn1 := hn.1
  unfold w_least_number
  walk_at "st"
  walk_at "w"
  · rw [cl_eq (by omega)]
    exact h
  · exact divN (by omega) (up (n60 hn) (by decide))
  · exact mulx_ok (a := 60) (b := 520) (by rw [Int.natAbs_neg, Int.natAbs_natCast]; exact hr) (by rw [Int.natAbs_natCast]; exact hW) (by decide)
theorem hw_law_plus (A : Ad) : ∀ pr R E, S_law_plus A pr R E → w_law_plus A (bxOf 2 R E) (pr ++ List.replicate 0 .no) := by
  rintro pr R E ⟨a, b, c, d, rfl, hb0, hd0, ha, hb, hc, hd, h⟩
  have m2 : ∀ {x y : Nat}, x < 2 ^ 800 → y < 2 ^ 800 → x * y < 2 ^ 1600 := fun {x y} hx hy => by
    have : x * y < 2 ^ 800 * 2 ^ 800 := Nat.mul_lt_mul'' hx hy
    rw [← Nat.pow_add] at this
    exact this
  have q1 := m2 ha hd
  have q2 := m2 hc hb
  have q3 := m2 hb hd
  unfold w_law_plus
  walk_at "st"
  walk_at "w"
  · refine ⟨a * d + c * b, b * d, ?_, Nat.mul_pos hb0 hd0, up q3 (by decide), ?_, ?_⟩
    · simp only [nI, Int.natCast_add, Int.natCast_mul]
    · have q4 : a * d + c * b < 2 ^ 1601 := by
        have : (2 : Nat) ^ 1601 = 2 ^ 1600 + 2 ^ 1600 := by rw [Nat.pow_succ 2 1600, Nat.mul_two]
        omega
      have : (a * d + c * b) * (b * d) < 2 ^ 1601 * 2 ^ 1600 := Nat.mul_lt_mul'' q4 q3
      rw [← Nat.pow_add] at this
      exact up this (by decide)
    · walk_at "w"
      exact h
  · exact mulN 800 800 hb hd (by decide)
  · exact mulN 800 800 hc hb (by decide)
  · exact mulN 800 800 ha hd (by decide)
theorem hwis_bound (A : Ad) : ∀ pr R E, Sis_bound A pr R E → wis_bound A (bxOf 1 R E) (pr ++ List.replicate 0 .no) := by
  rintro pr R E ⟨n, rfl, h⟩
  unfold wis_bound
  walk_at "st"
  walk_at "w"
  refine ⟨_, _, _, rfl, ?_⟩
  have e : isNum (.int n) 1 1000000000000000 = decide (okI n) := (Bool.decide_and _ _).symm
  rw [e]
  walk_at "w"
  exact h
theorem hwcheck_bound (A : Ad) : ∀ pr R E, Scheck_bound A pr R E → wcheck_bound A (bxOf 1 R E) (pr ++ List.replicate 0 .no) := by
  rintro pr R E ⟨n, rfl, h1, h2⟩
  unfold wcheck_bound
  walk_at "st"
  walk_at "w"
  refine s_ifn (fun h => ?_) fun h => ?_
  · walk_at "w"
    exact h1 h
  · walk_at "w"
    exact h2 h

theorem b256 {b m : Nat} (h : b ≤ 256) : b ^ m ≤ 2 ^ (8 * m) := by
  rw [Nat.pow_mul]
  exact Nat.pow_le_pow_left h m
theorem Mn.b5 {kd : Str} {b m t : Nat} (h : Mn kd b m t) : b < 2 ^ 520 := Nat.lt_of_le_of_lt h.b1 (Nat.lt_of_lt_of_le (by decide : 256 < 2 ^ 9) (Nat.pow_le_pow_right (by decide) (by decide)))
theorem Mn.w {kd : Str} {b m t : Nat} (h : Mn kd b m t) : b ^ m < 2 ^ 520 := Nat.lt_of_le_of_lt (b256 h.b1) (Nat.pow_lt_pow_right (by decide) (by have := h.m1; omega))
theorem Mn.wt {kd : Str} {b m t : Nat} (h : Mn kd b m t) : (b ^ m) ^ t < 2 ^ 1540 := by
  rw [← Nat.pow_mul]
  exact Nat.lt_of_le_of_lt (b256 h.b1) (Nat.pow_lt_pow_right (by decide) (by have := h.mt; omega))
theorem Mn.w0 {kd : Str} {b m t : Nat} (h : Mn kd b m t) : 0 < b ^ m := Nat.pow_pos h.b0
theorem rest_lt {n w : Nat} (h : okN n) : w % n < n := Nat.mod_lt _ h.1
theorem hwwhole_below (A : Ad) : ∀ pr R E, Swhole_below A pr R E → wwhole_below A (bxOf 3 R E) (pr ++ List.replicate 4 .no) := by
  rintro pr R E ⟨n, kd, b, m, t, rfl, hn, hm, h⟩
  have q2 := up hm.wt (show 1540 ≤ 40000 by decide)
  unfold wwhole_below
  walk_at "st"
  walk_at "w"
  refine ⟨b, m, rfl, hm.b5, hm.m1, ?_⟩
  walk_at "w"
  refine s_ifd (fun h1 => ?_) fun h1 => ?_
  · unfold wB kAgain at h
    rw [if_pos h1] at h
    walk_at "w"
    refine ⟨b ^ m, t, rfl, hm.w, hm.t1, ?_⟩
    walk_at "w"
    · exact h
    · exact mulN 60 40000 (n60 hn) q2 (by decide)
  · unfold wB kAgain at h
    rw [if_neg h1] at h
    walk_at "w"
    exact h
theorem cl_mono {n W r : Nat} : clI n W r ≤ clI n W (r + 1) := by
  unfold clI
  refine Nat.div_le_div_right ?_
  rw [Nat.succ_mul]
  omega
theorem fav_eq {n b m r : Nat} : (if ((b ^ m % n : Nat) : Int) < ((r + 1 : Nat) : Int) then ((b ^ m % n : Nat) : Int) else ((r + 1 : Nat) : Int)) - (if ((b ^ m % n : Nat) : Int) < (r : Int) then ((b ^ m % n : Nat) : Int) else (r : Int)) = ((fav n b m r : Nat) : Int) := by
  unfold fav
  generalize b ^ m % n = x
  split <;> split <;> split <;> omega
theorem hwweight_between (A : Ad) : ∀ pr R E, Sweight_between A pr R E → wweight_between A (bxOf 5 R E) (pr ++ List.replicate 7 .no) := by
  rintro pr R E ⟨n, kd, b, m, t, r, rfl, hn, hm, hr, h⟩
  have hn6 := n60 hn
  have hrl := rest_lt (w := b ^ m) hn
  have hrw : b ^ m % n ≤ b ^ m := Nat.mod_le _ _
  have qt := up hm.wt (show 1540 ≤ 40000 by decide)
  have e1 : (((r + 1 : Nat) : Int)) - (r : Int) = ((1 : Nat) : Int) := by omega
  have hf : fav n b m r < 2 ^ 60 := by unfold fav; split <;> omega
  unfold wweight_between
  walk_at "st"
  walk_at "w"
  refine ⟨b, m, rfl, hm.b5, hm.m1, ?_⟩
  walk_at "w"
  rotate_left
  · have := hn.1
    omega
  rw [fmod_nat]
  unfold wt kScale kMod at h
  refine s_ifd (fun h1 => ?_) fun h1 => ?_
  · rw [if_pos h1] at h
    walk_at "w"
    refine ⟨n, b ^ m, r + 1, rfl, hn, hm.w, by omega, ?_⟩
    walk_at "w"
    refine ⟨n, b ^ m, r, rfl, hn, hm.w, by omega, ?_⟩
    walk_at "w"
    rw [← Int.ofNat_sub cl_mono]
    exact h
  · rw [if_neg h1] at h
    walk_at "w"
    rw [fav_eq]
    refine s_ifd (fun h2 => ?_) fun h2 => ?_
    · rw [if_pos h2] at h
      walk_at "w"
      · rw [e1, fdiv_nat, ← Int.natCast_mul, Nat.mul_one]
        exact h
      · rw [e1, fdiv_nat]
        exact mulN 520 1 (Nat.lt_of_le_of_lt (Nat.div_le_self _ _) hm.w) (by decide) (by decide)
      · exact divN hn.1 (up hn6 (by decide))
    · rw [if_neg h2] at h
      walk_at "w"
      refine s_ifd (fun h3 => ?_) fun h3 => ?_
      · rw [if_pos (by omega)] at h
        walk_at "w"
        refine ⟨b ^ m, t, rfl, hm.w, hm.t1, ?_⟩
        walk_at "w"
        · rw [e1, ← Int.natCast_mul, Nat.mul_one]
          exact h
        · rw [e1]
          exact mulN 40000 1 qt (by decide) (by decide)
      · rw [if_neg (by omega)] at h
        have ht := hm.t0
        have ql := powB (b := b ^ m % n) (c := t - 1) (Nat.lt_of_le_of_lt hrw hm.w) (by have := hm.t1; omega)
        have qe : (b ^ m % n) ^ (t - 1) * (b ^ m % n) = (b ^ m % n) ^ t := by
          rw [← Nat.pow_succ, show (t - 1).succ = t by omega]
        have qle : (b ^ m % n) ^ t ≤ (b ^ m) ^ t := Nat.pow_le_pow_left hrw t
        walk_at "w"
        refine ⟨b ^ m % n, t - 1, ?_, Nat.lt_of_le_of_lt hrw hm.w, by have := hm.t1; omega, ?_⟩
        · rw [show (t : Int) - 1 = ((t - 1 : Nat) : Int) by omega]
        walk_at "w"
        refine ⟨b ^ m, t, rfl, hm.w, hm.t1, ?_⟩
        walk_at "w"
        · rw [e1, ← Int.natCast_mul, qe, ← Int.ofNat_sub qle, ← Int.natCast_mul, Nat.mul_one]
          exact h
        · have : (b ^ m % n) ^ (t - 1) * n < 2 ^ 40000 * 2 ^ 60 := Nat.mul_lt_mul'' ql hn6
          rw [← Nat.pow_add] at this
          exact mulN 40060 60 this hf (by decide)
        · exact mulN 40000 60 ql hn6 (by decide)
        · rw [e1, ← Int.natCast_mul, qe, ← Int.ofNat_sub qle]
          exact mulN 40000 1 (by omega) (by decide) (by decide)
        · exact mulN 40000 60 ql (Nat.lt_trans hrl hn6) (by decide)
theorem wB_pos {n : Nat} {kd : Str} {b m t : Nat} (hn : okN n) (hm : Mn kd b m t) : 0 < wB n kd b m t := by
  unfold wB
  split
  · exact Nat.mul_pos hn.1 (Nat.pow_pos hm.w0)
  · exact hm.w0
theorem wB_lt {n : Nat} {kd : Str} {b m t : Nat} (hn : okN n) (hm : Mn kd b m t) : wB n kd b m t < bX := by
  unfold wB
  split
  · have : n * (b ^ m) ^ t < 2 ^ 60 * 2 ^ 1540 := Nat.mul_lt_mul'' (n60 hn) hm.wt
    rw [← Nat.pow_add] at this
    exact up this (by decide)
  · exact up hm.w (by decide)
theorem okI_nat {n : Int} (h : okI n) : ∃ k : Nat, n = (k : Int) ∧ okN k := by
  obtain ⟨h1, h2⟩ := h
  exact ⟨n.toNat, by omega, by omega, by omega⟩
theorem hwchance_below (A : Ad) : ∀ pr R E, Schance_below A pr R E → wchance_below A (bxOf 4 R E) (pr ++ List.replicate 0 .no) := by
  rintro pr R E ⟨n, kd, b, m, t, r, rfl, hm, hbad, hok⟩
  unfold wchance_below
  walk_at "st"
  walk_at "w"
  refine ⟨hbad, fun hn => ?_⟩
  obtain ⟨h, h'⟩ := hok hn
  obtain ⟨n, rfl, hN⟩ := okI_nat hn
  rw [Int.toNat_natCast] at h
  walk_at "w"
  refine s_ifd (fun h0 => ?_) fun h0 => ?_
  · walk_at "w"
    refine s_ifn (fun h1 => ?_) fun h1 => ?_
    · walk_at "w"
      exact h' fun z => h1 z.2
    · obtain ⟨r, rfl⟩ : ∃ k : Nat, r = k := ⟨r.toNat, by omega⟩
      have h := h h0 h1
      rw [Int.toNat_natCast] at h
      walk_at "w"
      refine ⟨n, kd, b, m, t, r, ?_, hN, hm, by omega, ?_⟩
      · rfl
      walk_at "w"
      refine ⟨n, kd, b, m, t, rfl, hN, hm, ?_⟩
      walk_at "w"
      refine ⟨_, _, rfl, wB_pos hN hm, wB_lt hN hm, ?_⟩
      walk_at "w"
      exact h
  · walk_at "w"
    exact h' fun z => h0 z.1

theorem num_snoc {b : Nat} {l : List Nat} {d : Nat} : numN b (l ++ [d]) = numN b l * b + d := by
  unfold numN; rw [List.foldl_append]; rfl
theorem num_lt' {b : Nat} : ∀ (l : List Nat) (a k : Nat), a < b ^ k → (∀ x, x ∈ l → x < b) → l.foldl (fun a d => a * b + d) a < b ^ (k + l.length)
  | [], _, _, h, _ => h
  | d :: l, a, k, h, hl => by
    have h2 := hl d (List.mem_cons_self ..)
    have h3 : (a + 1) * b ≤ b ^ (k + 1) := by rw [Nat.pow_succ]; exact Nat.mul_le_mul_right b h
    rw [Nat.succ_mul] at h3
    have := num_lt' l (a * b + d) (k + 1) (by omega) fun x hx => hl x (List.mem_cons_of_mem _ hx)
    rw [List.length_cons, show k + (l.length + 1) = k + 1 + l.length by omega]
    exact this
theorem num_lt {b : Nat} {l : List Nat} (h : ∀ x, x ∈ l → x < b) : numN b l < b ^ l.length := by
  have := num_lt' l 0 0 (by rw [Nat.pow_zero]; exact Nat.one_pos) h
  rw [Nat.zero_add] at this
  exact this
theorem Rw.mem {b : Nat} {r : List Nat} (h : Rw b r) (a m : Nat) : ∀ x, x ∈ (r.drop a).take m → x < b := fun x hx => h.d x (List.mem_of_mem_drop (List.mem_of_mem_take hx))
theorem num_520 {b : Nat} {l : List Nat} (hb0 : 0 < b) (hb : b ≤ 256) (hl : l.length ≤ 64) (h : ∀ x, x ∈ l → x < b) : numN b l < 2 ^ 520 := by
  have h1 := num_lt h
  have h2 := b256 (m := l.length) hb
  exact Nat.lt_of_lt_of_le h1 (Nat.le_trans h2 (Nat.pow_le_pow_right (by decide) (by omega)))
theorem cut_row {r : List Nat} {a m : Nat} (h : a + m ≤ r.length) : cutG (r.map fun d => nI d) (some (a : Int)) (some ((a : Int) + (m : Int))) = ((r.drop a).take m).map fun d => nI d := by
  unfold cutG
  rw [← Int.natCast_add, HT.sIx_nat, HT.sIx_nat, List.length_map, Nat.min_eq_left (by omega), Nat.min_eq_left (by omega), List.map_take, List.map_drop, show a + m - a = m by omega]
theorem take_one {α : Type} {l : List α} {i : Nat} {x : α} (h : l[i]? = some x) : l.take (i + 1) = l.take i ++ [x] := by
  rw [List.take_add_one, h]; rfl
theorem row_at {l : List Nat} {i : Nat} {d : D} (h : (l.map fun d => nI d)[i]? = some d) : ∃ x, l[i]? = some x ∧ x ∈ l ∧ d = nI x ∧ i < l.length := by
  obtain ⟨x, hx, rfl⟩ := get_map h
  exact ⟨x, hx, List.mem_of_getElem? hx, rfl, (List.getElem?_eq_some_iff.mp hx).1⟩
theorem num_step {b i : Nat} {l : List Nat} {x : Nat} (h : l[i]? = some x) : ((numN b (l.take i) : Nat) : Int) * (b : Int) + (x : Int) = ((numN b (l.take (i + 1)) : Nat) : Int) := by
  rw [take_one h, num_snoc, Int.natCast_add, Int.natCast_mul]
theorem hw_number_at (A : Ad) : ∀ pr R E, S_number_at A pr R E → w_number_at A (bxOf 4 R E) (pr ++ List.replicate 2 .no) := by
  rintro pr R E ⟨r, a, m, b, rfl, hb0, hb, hr, hm, hbad, hok⟩
  have hl := hr.l
  unfold w_number_at
  walk_at "st"
  walk_at "w"
  unfold rowD
  walk_at "w"
  rw [List.length_map]
  refine s_ifd (fun h1 => ?_) fun h1 => ?_
  · walk_at "w"
    exact hbad (by omega)
  · have h2 : a + m ≤ r.length := by omega
    have h := hok h2
    have hLm := hr.mem a m
    walk_at "w"
    rw [cut_row h2]
    have hLl : ((r.drop a).take m).length ≤ 64 := Nat.le_trans (List.length_take_le _ _) hm
    generalize (r.drop a).take m = L at *
    dsimp only
    refine s_inv (fun i ρ' => ∃ s5, ρ' = [Sl.va (PyData.tuple (r.map fun d => nI d)), Sl.va (nI a), Sl.va (nI m), Sl.va (nI b), Sl.va (nI (numN b (L.take i))), s5] ∧ Pl s5) ⟨.no, rfl, .no⟩ ?_ ?_
    · rintro i d ρ' hd ⟨s5, rfl, p5⟩
      obtain ⟨x, hx, hxm, rfl, hi⟩ := row_at hd
      have n5 := p5.nio
      have hq := num_520 (l := L.take i) hb0 hb (Nat.le_trans (List.length_take_le' _ _) hLl) fun y hy => hLm y (List.mem_of_mem_take hy)
      walk_at "w"
      · rw [num_step hx]
        exact ⟨_, rfl, .va⟩
      · exact mulN 520 9 hq (by omega) (by decide)
    · rintro ρ' ⟨s5, rfl, p5⟩
      rw [List.length_map, List.take_length]
      walk_at "w"
      exact h

theorem Mk.w {kd : Str} {b m t : Nat} (h : Mk kd b m t) : b ^ m < 2 ^ 520 := h.n.w
theorem agn_s {n b m t : Nat} {l : List Nat} {a : Nat} (hl : m ≤ l.length) (h : t = 0 ∨ numN b (l.take m) < lev n b m) : agn n b m (t + 1) l a = some (numN b (l.take m) % n, a + m) := by
  show (if m ≤ l.length then _ else _) = _
  rw [if_pos hl, if_pos h]
theorem agn_g {n b m t : Nat} {l : List Nat} {a : Nat} (hl : m ≤ l.length) (h : ¬ (t = 0 ∨ numN b (l.take m) < lev n b m)) : agn n b m (t + 1) l a = agn n b m t (l.drop m) (a + m) := by
  show (if m ≤ l.length then _ else _) = _
  rw [if_pos hl, if_neg h]
theorem agn_n {n b m t : Nat} {l : List Nat} {a : Nat} (hl : l.length < m) : agn n b m t l a = none := by
  cases t with
  | zero => rfl
  | succ t =>
    show (if m ≤ l.length then _ else _) = _
    rw [if_neg (by omega)]
theorem rd_1 {n : Nat} {kd : Str} {b m t : Nat} {r : List Nat} (h : n = 1) : rdB n kd b m t r = some (0, 0) := by
  unfold rdB; rw [if_pos h]
theorem rd_sc {n : Nat} {kd : Str} {b m t : Nat} {r : List Nat} (h : n ≠ 1) (hk : kd = kScale) : rdB n kd b m t r = if m ≤ r.length then some (numN b (r.take m) * n / b ^ m, m) else none := by
  unfold rdB; rw [if_neg h, if_pos hk]
theorem rd_ag {n : Nat} {kd : Str} {b m t : Nat} {r : List Nat} (h : n ≠ 1) (hk : kd ≠ kScale) : rdB n kd b m t r = agn n b m t r 0 := by
  unfold rdB; rw [if_neg h, if_neg hk]
theorem rngC_at {lo c : Int} {n i : Nat} {d : D} (h : (rngC lo c n)[i]? = some d) : d = .int (lo + (i : Int) * c) ∧ i < n := by
  unfold rngC at h
  obtain ⟨k, hk, rfl⟩ := get_map h
  obtain ⟨a, b⟩ := List.getElem?_eq_some_iff.mp hk
  rw [List.getElem_range] at b
  subst b
  rw [List.length_range] at a
  exact ⟨rfl, a⟩
theorem rngC_len {lo c : Int} {n : Nat} : (rngC lo c n).length = n := by unfold rngC; rw [List.length_map, List.length_range]
theorem lev_eq {n b m : Nat} : ((b ^ m : Nat) : Int) - ((b ^ m : Nat) : Int).fmod (n : Int) = ((lev n b m : Nat) : Int) := by
  unfold lev
  rw [fmod_nat, Int.ofNat_sub (Nat.mod_le _ _)]
theorem hwread_below (A : Ad) : ∀ pr R E, Sread_below A pr R E → wread_below A (bxOf 5 R E) (pr ++ List.replicate 7 .no) := by
  rintro pr R E ⟨n, kd, b, m, t, r, rfl, hn, hm, hr, hbad, hok⟩
  have hb0 := hm.n.b0
  have hb1 := hm.n.b1
  have hn6 := n60 hn
  have hn0 := hn.1
  have hlen := hr.l
  have hm64 := hm.n.m1
  have hw0 := hm.n.w0
  have hw5 := hm.n.w
  unfold wread_below
  walk_at "st"
  walk_at "w"
  refine s_ifd (fun h1 => ?_) fun h1 => ?_
  · walk_at "w"
    exact hok 0 0 (rd_1 (by omega))
  · have h1 : n ≠ 1 := by omega
    walk_at "w"
    refine ⟨b, m, rfl, hm.n.b5, hm.n.m1, ?_⟩
    walk_at "w"
    refine s_ifd (fun h2 => ?_) fun h2 => ?_
    · have h2 : kd = kScale := h2
      rw [rd_sc h1 h2] at hbad hok
      walk_at "w"
      refine ⟨r, 0, m, b, rfl, hb0, hb1, hr, hm64, fun z => ?_, fun z => ?_⟩
      · exact hbad (if_neg (by omega))
      · have hx := num_520 (l := (r.drop 0).take m) hb0 hb1 (Nat.le_trans (List.length_take_le _ _) hm64) (hr.mem 0 m)
        walk_at "w"
        · rw [← Int.natCast_mul, fdiv_nat]
          rw [List.drop_zero]
          have h := hok _ _ (if_pos (by omega))
          have e : (0 : Int) + (m : Int) = (m : Int) := by omega
          rw [e]
          exact h
        · exact divN hw0 (up hw5 (by decide))
        · exact mulN 520 60 hx hn6 (by decide)
    · have h2 : kd ≠ kScale := h2
      rw [rd_ag h1 h2] at hbad hok
      walk_at "w"
      · rw [lev_eq]
        have ht1 := hm.n.t1
        refine ⟨_, _, _, _, rfl, RgC.neg (by omega) (by omega) (by decide) (by decide), ?_⟩
        have et : ((t : Int) - 0).toNat = t := by omega
        rw [et]
        refine s_inv (fun i ρ' => ∃ s7 s11 : Sl, ρ' = [Sl.va (nI n), Sl.va (mnD kd m t), Sl.va (nI b), Sl.va (rowD r), Sl.va (nI (i * m)), Sl.va (nI (b ^ m)), Sl.va (nI (lev n b m)), s7, Sl.va (.str kd), Sl.va (nI m), Sl.va (nI t), s11] ∧ Pl s7 ∧ Pl s11 ∧ i < t ∧ agn n b m (t - i) (r.drop (i * m)) (i * m) = agn n b m t r 0) ⟨.no, .no, by rw [Nat.zero_mul]; rfl, .no, .no, hm.n.t0, by rw [Nat.zero_mul, List.drop_zero, Nat.sub_zero]⟩ ?_ ?_
        · rintro i d ρ' hd ⟨s7, s11, rfl, p7, p11, hi, hV⟩
          obtain ⟨rfl, _⟩ := rngC_at hd
          have n7 := p7.nio
          have n11 := p11.nio
          obtain ⟨k, hk⟩ : ∃ k, t - i = k + 1 := ⟨t - i - 1, by omega⟩
          rw [hk] at hV
          have hdl : (r.drop (i * m)).length = r.length - i * m := List.length_drop
          have ea : ((i * m : Nat) : Int) + (m : Int) = ((i * m + m : Nat) : Int) := by omega
          walk_at "w"
          refine ⟨r, i * m, m, b, rfl, hb0, hb1, hr, hm64, fun z => ?_, fun z => ?_⟩
          · have hm0 : 0 < m := Nat.pos_of_ne_zero fun e => by rw [e, Nat.mul_zero] at z; omega
            walk_at "w"
            exact hbad (by rw [← hV]; exact agn_n (by omega))
          · have hx := num_520 (l := (r.drop (i * m)).take m) hb0 hb1 (Nat.le_trans (List.length_take_le _ _) hm64) (hr.mem (i * m) m)
            have hml : m ≤ (r.drop (i * m)).length := by omega
            walk_at "w"
            rw [ea]
            refine s_ifd (fun h3 => ?_) fun h3 => ?_
            · have e := agn_s (n := n) (b := b) (a := i * m) (t := k) hml (.inl (by omega))
              rw [hV] at e
              walk_at "w"
              rw [fmod_nat]
              · exact hok _ _ e
              · omega
            · walk_at "w"
              refine s_ifd (fun h4 => ?_) fun h4 => ?_
              · have e := agn_s (n := n) (b := b) (a := i * m) (t := k) hml (.inr (by omega))
                rw [hV] at e
                walk_at "w"
                rw [fmod_nat]
                · exact hok _ _ e
                · omega
              · have e := agn_g (n := n) (b := b) (a := i * m) (t := k) hml (by omega)
                rw [hV, List.drop_drop] at e
                walk_at "w"
                refine ⟨_, _, by rw [Nat.succ_mul], .va, .va, by omega, ?_⟩
                rw [e, Nat.succ_mul, show t - (i + 1) = k by omega]
        · rintro ρ' ⟨s7, s11, rfl, p7, p11, hi, hV⟩
          rw [rngC_len] at hi
          omega
      · omega
theorem hwdraw_below (A : Ad) : ∀ pr R E, Sdraw_below A pr R E → wdraw_below A (bxOf 4 R E) (pr ++ List.replicate 0 .no) := by
  rintro pr R E ⟨n, kd, b, m, t, r, rfl, hm, hr, hbad, hno, hok⟩
  unfold wdraw_below
  walk_at "st"
  walk_at "w"
  refine ⟨hbad, fun hn => ?_⟩
  have h1 := hno hn
  have h2 := hok hn
  obtain ⟨n, rfl, hN⟩ := okI_nat hn
  rw [Int.toNat_natCast] at h1 h2
  walk_at "w"
  refine ⟨n, kd, b, m, t, r, rfl, hN, hm, hr, fun z => ?_, fun x a z => ?_⟩
  · exact h1 z
  · walk_at "w"
    exact h2 x a z

theorem digits {b i : Nat} {L : List Nat} (hb0 : 0 < b) (hb1 : b ≤ 256) (hL : L.length ≤ 64) (h : ∀ x, x ∈ L → x < b) : numN b (L.take i) < 2 ^ 520 :=
  num_520 (l := L.take i) hb0 hb1 (Nat.le_trans (List.length_take_le' _ _) hL) fun y hy => h y (List.mem_of_mem_take hy)
theorem hw_law_below (A : Ad) : ∀ pr R E, S_law_below A pr R E → w_law_below A (bxOf 5 R E) (pr ++ List.replicate 7 .no) := by
  rintro pr R E ⟨n, kd, b, m, t, r, rfl, hn, hm, hr, h⟩
  have hb0 := hm.n.b0
  have hb1 := hm.n.b1
  have hn6 := n60 hn
  have hn0 := hn.1
  have hlen := hr.l
  have hm64 := hm.n.m1
  have hw0 := hm.n.w0
  have hw5 := hm.n.w
  have ht1 := hm.n.t1
  have ht0 := hm.n.t0
  unfold w_law_below
  walk_at "st"
  walk_at "w"
  refine s_ifd (fun h1 => ?_) fun h1 => ?_
  · rw [rd_1 (by omega)] at h
    walk_at "w"
    exact h
  · have h1 : n ≠ 1 := by omega
    walk_at "w"
    refine ⟨b, m, rfl, hm.n.b5, hm.n.m1, ?_⟩
    walk_at "w"
    refine ⟨by omega, s_inv (fun i ρ' => ∃ s6 s10 s11 : Sl, ρ' = [Sl.va (nI n), Sl.va (mnD kd m t), Sl.va (nI b), Sl.va (rowD r), Sl.va (nI (i * m)), Sl.va (nI (b ^ m)), s6, Sl.va (.str kd), Sl.va (nI m), Sl.va (nI t), s10, s11] ∧ Pl s6 ∧ Pl s10 ∧ Pl s11 ∧
      ((i < t ∧ (kd ≠ kAgain → i = 0) ∧ agn n b m (t - i) (r.drop (i * m)) (i * m) = agn n b m t r 0) ∨ (i = t ∧ kd = kAgain ∧ ∃ x : Nat, s10 = .va (nI x) ∧ agn n b m t r 0 = some (x % n, i * m)))) ⟨.no, .no, .no, by rw [Nat.zero_mul]; rfl, .no, .no, .no, .inl ⟨by omega, fun _ => rfl, by rw [Nat.zero_mul, List.drop_zero, Nat.sub_zero]⟩⟩ ?_ ?_⟩
    · rintro i d ρ' hd ⟨s6, s10, s11, rfl, p6, p10, p11, hi⟩
      obtain ⟨rfl, hit⟩ := rng_at hd
      rw [Int.toNat_natCast] at hit
      have hi : i < t ∧ (kd ≠ kAgain → i = 0) ∧ agn n b m (t - i) (r.drop (i * m)) (i * m) = agn n b m t r 0 := hi.resolve_right fun z => by omega
      obtain ⟨_, hi0, hV⟩ := hi
      have n6 := p6.nio
      have n10 := p10.nio
      have n11 := p11.nio
      obtain ⟨k, hk⟩ : ∃ k, t - i = k + 1 := ⟨t - i - 1, by omega⟩
      rw [hk] at hV
      have hdl : (r.drop (i * m)).length = r.length - i * m := List.length_drop
      have ea : ((i * m : Nat) : Int) + (m : Int) = ((i * m + m : Nat) : Int) := by omega
      walk_at "w"
      unfold rowD
      walk_at "w"
      rw [List.length_map]
      refine s_ifd (fun h2 => ?_) fun h2 => ?_
      · have hm0 : 0 < m := Nat.pos_of_ne_zero fun e => by rw [e, Nat.mul_zero] at h2; omega
        have e : rdB n kd b m t r = none := by
          by_cases hs : kd = kScale
          · have z := hi0 (by rw [hs]; decide)
            subst z
            rw [rd_sc h1 hs, if_neg (by omega)]
          · rw [rd_ag h1 hs, ← hV]
            exact agn_n (by omega)
        rw [e] at h
        walk_at "w"
        exact h
      · have hml : m ≤ (r.drop (i * m)).length := by omega
        walk_at "w"
        rw [cut_row (by omega)]
        have hLl : ((r.drop (i * m)).take m).length ≤ 64 := Nat.le_trans (List.length_take_le _ _) hm64
        have hLm := hr.mem (i * m) m
        generalize hL : (r.drop (i * m)).take m = L at *
        dsimp only
        refine s_inv (fun j ρ' => ∃ s11' : Sl, ρ' = [Sl.va (nI n), Sl.va (mnD kd m t), Sl.va (nI b), Sl.va (PyData.tuple (r.map fun d => nI d)), Sl.va (nI (i * m)), Sl.va (nI (b ^ m)), Sl.va (.int i), Sl.va (.str kd), Sl.va (nI m), Sl.va (nI t), Sl.va (nI (numN b (L.take j))), s11'] ∧ Pl s11') ⟨s11, rfl, p11⟩ ?_ ?_
        · rintro j d ρ' hd ⟨s11', rfl, p11'⟩
          obtain ⟨x, hx, hxm, rfl, hj⟩ := row_at hd
          have n11' := p11'.nio
          have hq := digits (i := j) hb0 hb1 hLl hLm
          walk_at "w"
          · rw [num_step hx]
            exact ⟨_, rfl, .va⟩
          · exact mulN 520 9 hq (by omega) (by decide)
        · rintro ρ' ⟨s11', rfl, p11'⟩
          rw [List.length_map, List.take_length]
          have hq := num_520 (l := L) hb0 hb1 hLl hLm
          walk_at "w"
          rw [ea]
          refine s_ifd (fun h3 => ?_) fun h3 => ?_
          · have h3 : kd = kScale := h3
            have z := hi0 (by rw [h3]; decide)
            subst z
            rw [rd_sc h1 h3, if_pos (by omega)] at h
            rw [Nat.zero_mul, List.drop_zero] at hL
            rw [hL] at h
            have e : 0 * m + m = m := by omega
            rw [e]
            walk_at "w"
            · rw [← Int.natCast_mul, fdiv_nat]
              exact h
            · exact divN hw0 (up hw5 (by decide))
            · exact mulN 520 60 hq hn6 (by decide)
          · have h3 : kd ≠ kScale := h3
            rw [rd_ag h1 h3] at h
            walk_at "w"
            refine s_ifd (fun h4 => ?_) fun h4 => ?_
            · have h4 : kd = kMod := h4
              have z := hm.one (by rw [h4]; decide)
              have e := agn_s (n := n) (b := b) (a := i * m) (t := k) hml (.inl (by omega))
              rw [hV, hL] at e
              rw [e] at h
              walk_at "w"
              rw [fmod_nat]
              · exact h
              · omega
            · have h4 : kd ≠ kMod := h4
              have hag : kd = kAgain := by
                rcases hm.n.k with z | z | z
                · exact absurd z h4
                · exact absurd z h3
                · exact z
              walk_at "w"
              · rw [lev_eq]
                refine s_ifd (fun h5 => ?_) fun h5 => ?_
                · have e := agn_s (n := n) (b := b) (a := i * m) (t := k) hml (.inr (by rw [hL]; omega))
                  rw [hV, hL] at e
                  rw [e] at h
                  walk_at "w"
                  rw [fmod_nat]
                  · exact h
                  · omega
                · walk_at "w"
                  refine ⟨_, _, _, by rw [Nat.succ_mul], .va, .va, p11', ?_⟩
                  by_cases hk0 : k = 0
                  · have e := agn_s (n := n) (b := b) (a := i * m) (t := k) hml (.inl hk0)
                    rw [hV, hL] at e
                    exact .inr ⟨by omega, hag, _, rfl, by rw [e, Nat.succ_mul]⟩
                  · have e := agn_g (n := n) (b := b) (a := i * m) (t := k) hml (by rw [hL]; omega)
                    rw [hV, List.drop_drop] at e
                    exact .inl ⟨by omega, fun z => absurd hag z, by rw [e, Nat.succ_mul, show t - (i + 1) = k by omega]⟩
              · omega
    · rintro ρ' ⟨s6, s10, s11, rfl, p6, p10, p11, hi⟩
      rw [rng_len, Int.toNat_natCast] at hi
      obtain ⟨_, hag, x, rfl, e⟩ := hi.resolve_left fun z => by omega
      have h3 : kd ≠ kScale := by rw [hag]; decide
      rw [rd_ag h1 h3, e] at h
      rw [rng_len, Int.toNat_natCast]
      walk_at "w"
      rw [fmod_nat]
      · exact h
      · omega

theorem inK (s : Str) : inD (.str s) [.str "mod", .str "scale", .str "again"] = kOk (.str s) := by
  unfold inD kOk kMod kScale kAgain
  simp only [List.any_cons, List.any_nil, eqF, Bool.or_false]
  congr 1
  · exact decide_eq_decide.mpr eq_comm
  congr 1
  · exact decide_eq_decide.mpr eq_comm
  · exact decide_eq_decide.mpr eq_comm
theorem len3 {ds : List D} (h : ds.length = 3) : ∃ k m t, ds = [k, m, t] := by
  match ds, h with
  | [k, m, t], _ => exact ⟨k, m, t, rfl⟩
theorem manB_ne {ds : List D} (h : ds.length ≠ 3) : manB (.tuple ds) = false := by
  match ds, h with
  | [], _ => rfl
  | [_], _ => rfl
  | [_, _], _ => rfl
  | [_, _, _], h => exact absurd rfl h
  | _ :: _ :: _ :: _ :: _, _ => rfl
theorem isNum1 (t : D) : isNum t 1 1 = (isNum t 1 64 && t1B t) := by
  cases t with
  | int i =>
    show (decide (1 ≤ i) && decide (i ≤ 1)) = ((decide (1 ≤ i) && decide (i ≤ 64)) && decide (i = 1))
    rw [← Bool.decide_and, ← Bool.decide_and, ← Bool.decide_and]
    exact decide_eq_decide.mpr (by omega)
  | _ => rfl
theorem hwis_manner (A : Ad) : ∀ pr R E, Sis_manner A pr R E → wis_manner A (bxOf 1 R E) (pr ++ List.replicate 3 .no) := by
  rintro pr R E ⟨d, rfl, hs, h⟩
  unfold wis_manner
  walk_at "st"
  cases d with
  | none => walk_at "w"; exact h
  | list ds => walk_at "w"; exact h
  | tuple ds =>
    obtain ⟨hl, hs⟩ := hs
    walk_at "w"
    refine s_ifn (fun h1 => ?_) fun h1 => ?_
    · rw [manB_ne (by omega)] at h
      walk_at "w"
      exact h
    · obtain ⟨k, m, t, rfl⟩ := len3 (ds := ds) (by omega)
      obtain ⟨hk, hm, ht⟩ := hs k m t rfl
      have e : manB (.tuple [k, m, t]) = (kOk k && (isNum m 1 64 && (isNum t 1 64 && (kAg k || t1B t)))) := rfl
      rw [e] at h
      walk_at "w"
      rcases hk with rfl | ⟨s, rfl⟩
      · refine ⟨rfl, rfl, _, rfl, ?_⟩
        walk_at "w"
        exact h
      · refine ⟨rfl, rfl, _, rfl, ?_⟩
        rw [inK]
        cases hkk : kOk (.str s) with
        | false =>
          rw [hkk, Bool.false_and] at h
          walk_at "w"
          exact h
        | true =>
          rw [hkk, Bool.true_and] at h
          walk_at "w"
          refine ⟨m, 1, 64, rfl, ?_⟩
          walk_at "w"
          cases hmm : isNum m 1 64 with
          | false =>
            rw [hmm, Bool.false_and] at h
            walk_at "w"
            exact h
          | true =>
            rw [hmm, Bool.true_and] at h
            walk_at "w"
            refine s_ifd (fun h2 => ?_) fun h2 => ?_
            · have h2 : s = kAgain := h2
              have e2 : kAg (.str s) = true := decide_eq_true h2
              rw [e2, Bool.true_or, Bool.and_true] at h
              walk_at "w"
              refine ⟨t, 1, 64, rfl, ?_⟩
              walk_at "w"
              exact h
            · have h2 : ¬ s = kAgain := h2
              have e2 : kAg (.str s) = false := decide_eq_false h2
              rw [e2, Bool.false_or, ← isNum1] at h
              walk_at "w"
              refine ⟨t, 1, 1, rfl, ?_⟩
              walk_at "w"
              exact h
  | int i => exact hs.elim
  | bool i => exact hs.elim
  | str i => exact hs.elim
  | dict i => exact hs.elim

theorem fits_body (A : Ad) {nx : En → Prop} {rt : D → En → Prop} {rf : List D → En → Prop} {bk ct : En → Prop} {rs : Addr → En → Prop} (v d : D) (hd : flatP d) (h1 : isNum d 1 64 = true → nx [.va v, .va d]) (h2 : isNum d 1 64 = false → rt (.bool false) [.va v, .va d]) :
    w_law_fits_t0 A ⟨nx, rt, rf, bk, ct, rs⟩ [.va v, .va d] := by
  unfold w_law_fits_t0
  cases d with
  | int i =>
    walk_at "w"
    refine s_ifd (fun h3 => ?_) fun h3 => ?_
    · walk_at "w"
      refine s_ifn (fun h4 => ?_) fun h4 => ?_
      · walk_at "w"
        exact h2 (by show (decide (1 ≤ i) && decide (i ≤ 64)) = false; rw [decide_eq_false h4, Bool.and_false])
      · walk_at "w"
        exact h1 (by show (decide (1 ≤ i) && decide (i ≤ 64)) = true; rw [decide_eq_true h4, decide_eq_true h3]; rfl)
    · walk_at "w"
      exact h2 (by show (decide (1 ≤ i) && decide (i ≤ 64)) = false; rw [decide_eq_false h3, Bool.false_and])
  | bool b => walk_at "w"; exact h2 rfl
  | none => walk_at "w"; exact h2 rfl
  | str s => walk_at "w"; exact h2 rfl
  | list s => exact hd.elim
  | tuple s => exact hd.elim
  | dict s => exact hd.elim
theorem cut31 {k m t : D} : cutG [k, m, t] (some 1) none = [m, t] := rfl
theorem hw_law_fits (A : Ad) : ∀ pr R E, S_law_fits A pr R E → w_law_fits A (bxOf 1 R E) (pr ++ List.replicate 1 .no) := by
  rintro pr R E ⟨d, rfl, hs, h⟩
  unfold w_law_fits
  walk_at "st"
  cases d with
  | none => walk_at "w"; exact h
  | list ds => walk_at "w"; exact h
  | tuple ds =>
    obtain ⟨hl, hs⟩ := hs
    walk_at "w"
    refine s_ifn (fun h1 => ?_) fun h1 => ?_
    · rw [manB_ne (by omega)] at h
      walk_at "w"
      exact h
    · obtain ⟨k, m, t, rfl⟩ := len3 (ds := ds) (by omega)
      obtain ⟨hk, hm, ht⟩ := hs k m t rfl
      have e : manB (.tuple [k, m, t]) = (kOk k && (isNum m 1 64 && (isNum t 1 64 && (kAg k || t1B t)))) := rfl
      rw [e] at h
      walk_at "w"
      rcases hk with rfl | ⟨s, rfl⟩
      · walk_at "w"
        exact h
      · walk_at "w"
        refine ⟨rfl, rfl, _, rfl, ?_⟩
        rw [inK]
        cases hkk : kOk (.str s) with
        | false =>
          rw [hkk, Bool.false_and] at h
          walk_at "w"
          exact h
        | true =>
          rw [hkk, Bool.true_and] at h
          walk_at "w"
          rw [cut31]
          dsimp only
          refine s_inv (fun i ρ' => ∃ s1, ρ' = [Sl.va (.tuple [.str s, m, t]), s1] ∧ Pl s1 ∧ (0 < i → isNum m 1 64 = true) ∧ (1 < i → isNum t 1 64 = true)) ⟨.no, rfl, .no, fun z => absurd z (by decide), fun z => absurd z (by decide)⟩ ?_ ?_
          · rintro i d ρ' hd ⟨s1, rfl, p1, q1, q2⟩
            have n1 := p1.nio
            walk_at "w1"
            match i, hd with
            | 0, hd =>
              obtain rfl : d = m := (Option.some.inj hd).symm
              walk_at "w1"
              refine fits_body A _ d hm (fun z => ⟨_, rfl, .va, fun _ => z, fun y => absurd y (by decide)⟩) fun z => ?_
              rw [z, Bool.false_and] at h
              exact h
            | 1, hd =>
              obtain rfl : d = t := (Option.some.inj hd).symm
              have q := q1 (by decide)
              walk_at "w1"
              refine fits_body A _ d ht (fun z => ⟨_, rfl, .va, fun _ => q, fun _ => z⟩) fun z => ?_
              rw [z, q, Bool.true_and, Bool.false_and] at h
              exact h
          · rintro ρ' ⟨s1, rfl, p1, q1, q2⟩
            have q1 := q1 (Nat.succ_pos 1)
            have q2 := q2 (Nat.lt_succ_self 1)
            rw [q1, q2, Bool.true_and, Bool.true_and] at h
            walk_at "w"
            refine s_ifd (fun h2 => ?_) fun h2 => ?_
            · have e2 : kAg (.str s) = true := decide_eq_true h2
              rw [e2, Bool.true_or] at h
              exact h
            · have e2 : kAg (.str s) = false := decide_eq_false h2
              rw [e2, Bool.false_or] at h
              cases t with
              | int i => walk_at "w"; exact h
              | _ => cases q2
  | int i => exact hs.elim
  | bool i => exact hs.elim
  | str i => exact hs.elim
  | dict i => exact hs.elim
theorem odd_arg {r : Int} (h3 : 0 ≤ r) (h4 : r < 8) : ∃ o : D, flatP o ∧ atI [PyData.int 0, PyData.int (-1), PyData.int 64, PyData.int 65, PyData.int 2, PyData.bool true, PyData.none, PyData.str "1"] r = some o := by
  obtain rfl | rfl | rfl | rfl | rfl | rfl | rfl | rfl : r = 0 ∨ r = 1 ∨ r = 2 ∨ r = 3 ∨ r = 4 ∨ r = 5 ∨ r = 6 ∨ r = 7 := by omega
  · exact ⟨.int 0, trivial, rfl⟩
  · exact ⟨.int (-1), trivial, rfl⟩
  · exact ⟨.int 64, trivial, rfl⟩
  · exact ⟨.int 65, trivial, rfl⟩
  · exact ⟨.int 2, trivial, rfl⟩
  · exact ⟨.bool true, trivial, rfl⟩
  · exact ⟨.none, trivial, rfl⟩
  · exact ⟨.str "1", trivial, rfl⟩
theorem nam_arg {r : Int} (h3 : 0 ≤ r) (h4 : r < 6) : ∃ o : D, (o = .none ∨ ∃ s, o = .str s) ∧ atI [PyData.str "Mod", PyData.str "", PyData.none, PyData.str "scale", PyData.str "again", PyData.str "mod"] r = some o := by
  obtain rfl | rfl | rfl | rfl | rfl | rfl : r = 0 ∨ r = 1 ∨ r = 2 ∨ r = 3 ∨ r = 4 ∨ r = 5 := by omega
  · exact ⟨_, .inr ⟨_, rfl⟩, rfl⟩
  · exact ⟨_, .inr ⟨_, rfl⟩, rfl⟩
  · exact ⟨_, .inl rfl, rfl⟩
  · exact ⟨_, .inr ⟨_, rfl⟩, rfl⟩
  · exact ⟨_, .inr ⟨_, rfl⟩, rfl⟩
  · exact ⟨_, .inr ⟨_, rfl⟩, rfl⟩
theorem shp3 {k m t : D} (hk : k = .none ∨ ∃ s, k = .str s) (hm : flatP m) (ht : flatP t) : shp (.tuple [k, m, t]) := ⟨by simp, fun k' m' t' e => by
  cases e
  exact ⟨hk, hm, ht⟩⟩
theorem hw_law_are_judged (A : Ad) : ∀ pr R E, S_law_are_judged A pr R E → w_law_are_judged A (bxOf 2 R E) (pr ++ List.replicate 5 .no) := by
  rintro pr R E ⟨ms, kd, m, t, rfl, h⟩
  unfold w_law_are_judged
  walk_at "st"
  walk_at "w"
  refine ⟨ms, 8, rfl, by decide, by decide, fun r1 ms1 a1 b1 => ?_⟩
  obtain ⟨o, ho, hoa⟩ := odd_arg a1 b1
  walk_at "w"
  refine s_ixl _ hoa ?_
  walk_at "w"
  refine ⟨ms1, 6, rfl, by decide, by decide, fun r2 ms2 a2 b2 => ?_⟩
  obtain ⟨k2, hk2, hka⟩ := nam_arg a2 b2
  walk_at "w"
  refine s_ixl _ hka ?_
  walk_at "w"
  refine s_addt ?_ (by rw [sizeLine_eq]; exact (by decide : 4 ≤ 16777216))
  walk_at "w"
  have hall : ∀ d, d ∈ [mnD kd m t, PyData.tuple [PyData.str kd, o, nI t], PyData.tuple [PyData.str kd, nI m, o], PyData.tuple [k2, nI m, nI t], PyData.list [PyData.str kd, nI m, nI t], PyData.tuple ([PyData.str kd, nI m, nI t] ++ [PyData.int 1]), PyData.tuple (cutG [PyData.str kd, nI m, nI t] none (some 2)), PyData.none] → shp d := by
    intro d hd
    rcases List.mem_cons.mp hd with rfl | hd
    · exact shp3 (.inr ⟨_, rfl⟩) trivial trivial
    rcases List.mem_cons.mp hd with rfl | hd
    · exact shp3 (.inr ⟨_, rfl⟩) ho trivial
    rcases List.mem_cons.mp hd with rfl | hd
    · exact shp3 (.inr ⟨_, rfl⟩) trivial ho
    rcases List.mem_cons.mp hd with rfl | hd
    · exact shp3 hk2 trivial trivial
    rcases List.mem_cons.mp hd with rfl | hd
    · exact trivial
    rcases List.mem_cons.mp hd with rfl | hd
    · exact ⟨(by decide : 4 ≤ 1000), fun _ _ _ e => nomatch e⟩
    rcases List.mem_cons.mp hd with rfl | hd
    · exact ⟨(by decide : 2 ≤ 1000), fun _ _ _ e => nomatch e⟩
    rw [List.mem_singleton.mp hd]
    exact trivial
  generalize [mnD kd m t, PyData.tuple [PyData.str kd, o, nI t], PyData.tuple [PyData.str kd, nI m, o], PyData.tuple [k2, nI m, nI t], PyData.list [PyData.str kd, nI m, nI t], PyData.tuple ([PyData.str kd, nI m, nI t] ++ [PyData.int 1]), PyData.tuple (cutG [PyData.str kd, nI m, nI t] none (some 2)), PyData.none] = L at hall ⊢
  dsimp only
  refine s_inv (fun i ρ' => ∃ s3, ρ' = [Sl.io (ms2.map PyData.int), Sl.va (mnD kd m t), Sl.va o, s3, Sl.va (PyData.str kd), Sl.va (nI m), Sl.va (nI t)] ∧ Pl s3) ⟨.no, rfl, .no⟩ ?_ ?_
  · rintro i d ρ' hd ⟨s3, rfl, p3⟩
    have n3 := p3.nio
    have hs := hall d (List.mem_of_getElem? hd)
    walk_at "w"
    refine ⟨hs, ?_⟩
    walk_at "w"
    refine ⟨hs, ?_⟩
    walk_at "w"
    refine ⟨trivial, ?_⟩
    walk_at "w"
    exact .va
  · rintro ρ' ⟨s3, rfl, p3⟩
    walk_at "w"
    exact h ms2

theorem tri_arg2 (kd : Str) (k : Nat) : ∃ t : Nat, 1 ≤ t ∧ t ≤ 1 + k ∧ (kd ≠ kAgain → t = 1) ∧ atI [PyData.int 1, PyData.int (1 + (k : Int))] (if decide (kd = Str.ofString "again") = true then 1 else 0) = some (nI t) := by
  by_cases h : kd = Str.ofString "again"
  · rw [decide_eq_true h]
    exact ⟨1 + k, by omega, by omega, fun z => absurd h z, rfl⟩
  · rw [decide_eq_false h]
    exact ⟨1, by omega, by omega, fun _ => rfl, rfl⟩
theorem kind_arg {r : Int} (h3 : 0 ≤ r) (h4 : r < 3) : ∃ kd : Str, (kd = kMod ∨ kd = kScale ∨ kd = kAgain) ∧ atI [PyData.str "mod", PyData.str "scale", PyData.str "again"] r = some (.str kd) := by
  obtain rfl | rfl | rfl : r = 0 ∨ r = 1 ∨ r = 2 := by omega
  · exact ⟨_, .inl rfl, rfl⟩
  · exact ⟨_, .inr (.inl rfl), rfl⟩
  · exact ⟨_, .inr (.inr rfl), rfl⟩
theorem len_arg {x y r : Int} (hx : 0 < x) (hy : 0 < y) (h3 : 0 ≤ r) (h4 : r < 2) : ∃ c : Int, 0 < c ∧ (c ≤ x ∨ c ≤ y) ∧ atI [PyData.int x, PyData.int y] r = some (.int c) := by
  obtain rfl | rfl : r = 0 ∨ r = 1 := by omega
  · exact ⟨x, hx, .inl (Int.le_refl _), rfl⟩
  · exact ⟨y, hy, .inr (Int.le_refl _), rfl⟩
theorem hw_law_manner (A : Ad) : ∀ pr R E, S_law_manner A pr R E → w_law_manner A (bxOf 2 R E) (pr ++ List.replicate 4 .no) := by
  rintro pr R E ⟨ms, rfl, h⟩
  unfold w_law_manner
  walk_at "st"
  walk_at "w"
  refine s_inv (fun i ρ' => ∃ (ms' : List Int) (s2 s3 s4 s5 : Sl), ρ' = [Sl.io (ms'.map PyData.int), Sl.va (.int 700), s2, s3, s4, s5] ∧ Pl s2 ∧ Pl s3 ∧ Pl s4 ∧ Pl s5) ⟨ms, .no, .no, .no, .no, rfl, .no, .no, .no, .no⟩ ?_ ?_
  · rintro i d ρ' hd ⟨ms', s2, s3, s4, s5, rfl, p2, p3, p4, p5⟩
    have n2 := p2.nio
    have n3 := p3.nio
    have n4 := p4.nio
    have n5 := p5.nio
    walk_at "w"
    refine ⟨ms', 2, rfl, by decide, by decide, fun r1 ms1 a1 b1 => ?_⟩
    obtain ⟨c, hc0, hc9, hca⟩ := len_arg (x := 3) (y := 9) (by decide) (by decide) a1 b1
    walk_at "w"
    refine s_ixl _ hca ?_
    walk_at "w"
    refine ⟨ms1, c, rfl, hc0, by omega, fun r2 ms2 a2 b2 => ?_⟩
    obtain ⟨k2, rfl⟩ : ∃ k : Nat, r2 = k := ⟨r2.toNat, by omega⟩
    walk_at "w"
    refine ⟨ms2, 3, rfl, by decide, by decide, fun r3 ms3 a3 b3 => ?_⟩
    obtain ⟨kd, hk, hka⟩ := kind_arg a3 b3
    walk_at "w"
    refine s_ixl _ hka ?_
    walk_at "w"
    refine ⟨ms3, 4, rfl, by decide, by decide, fun r4 ms4 a4 b4 => ?_⟩
    obtain ⟨k4, rfl⟩ : ∃ k : Nat, r4 = k := ⟨r4.toNat, by omega⟩
    walk_at "w"
    refine ⟨ms4, 4, rfl, by decide, by decide, fun r5 ms5 a5 b5 => ?_⟩
    obtain ⟨k5, rfl⟩ : ∃ k : Nat, r5 = k := ⟨r5.toNat, by omega⟩
    walk_at "w"
    obtain ⟨t, t0, t1, to, ta⟩ := tri_arg2 kd k5
    refine s_ixl _ ta ?_
    walk_at "w"
    have hmt : (1 + k4) * t ≤ 4 * 4 := Nat.mul_le_mul (by omega) (by omega)
    have em : (1 + (k4 : Int)) * (t : Int) = (((1 + k4) * t : Nat) : Int) := by rw [Int.natCast_mul, Int.natCast_add]; rfl
    · rw [em]
      refine ⟨2 + k2, (1 + k4) * t, rfl, Nat.lt_of_le_of_lt (show 2 + k2 ≤ 2 ^ 5 by omega) (Nat.pow_lt_pow_right (by decide) (by decide)), by omega, ?_⟩
      walk_at "w"
      refine s_ifd (fun h1 => ?_) fun h1 => ?_
      · walk_at "w"
        refine h kd (2 + k2) (1 + k4) t ms5 ⟨⟨hk, by omega, by omega, by omega, t0, by omega, by omega⟩, to, by omega⟩ (by omega) (by omega) (by omega) (by omega)
      · walk_at "w"
        exact ⟨_, _, _, _, _, rfl, .va, .va, .va, .va⟩
    · exact mulN 10 10 (a := 1 + k4) (by omega) (by omega) (by decide)
  · rintro ρ' ⟨ms', s2, s3, s4, s5, rfl, p2, p3, p4, p5⟩
    walk_at "w"
    exact h kAgain 2 2 2 ms' ⟨⟨.inr (.inr rfl), by decide, by decide, by decide, by decide, by decide, by decide⟩, fun z => absurd rfl z, by decide⟩ (by decide) (by decide) (by decide) (by decide)

def extR (b : Nat) (l : List (List Nat)) : List (List Nat) := l.flatMap fun r => (List.range b).map fun d => r ++ [d]
theorem ext_len {b : Nat} : ∀ l : List (List Nat), (extR b l).length = l.length * b
  | [] => by simp [extR]
  | r :: l => by
    have ih := ext_len (b := b) l
    unfold extR at ih ⊢
    rw [List.flatMap_cons, List.length_append, ih, List.length_map, List.length_range, List.length_cons, Nat.succ_mul, Nat.add_comm]
theorem rows_len {b : Nat} : ∀ c, (rows b c).length = b ^ c
  | 0 => rfl
  | c + 1 => by
    show (extR b (rows b c)).length = _
    rw [ext_len, rows_len c, Nat.pow_succ]
theorem rows_mem {b : Nat} : ∀ {c : Nat} {r : List Nat}, r ∈ rows b c → r.length = c ∧ ∀ x, x ∈ r → x < b
  | 0, r, h => by
    rw [List.mem_singleton.mp h]
    exact ⟨rfl, fun x hx => absurd hx (List.not_mem_nil)⟩
  | c + 1, r, h => by
    obtain ⟨q, hq, h⟩ := List.mem_flatMap.mp h
    obtain ⟨d, hd, rfl⟩ := List.mem_map.mp h
    obtain ⟨h1, h2⟩ := rows_mem hq
    refine ⟨by rw [List.length_append, h1]; rfl, fun x hx => ?_⟩
    rcases List.mem_append.mp hx with z | z
    · exact h2 x z
    · rw [List.mem_singleton.mp z]; exact List.mem_range.mp hd
theorem ext_snoc {b : Nat} {l : List (List Nat)} {r : List Nat} : extR b (l ++ [r]) = extR b l ++ (List.range b).map fun d => r ++ [d] := by
  unfold extR
  rw [List.flatMap_append]
  simp
theorem hw_law_rows (A : Ad) : ∀ pr R E, S_law_rows A pr R E → w_law_rows A (bxOf 2 R E) (pr ++ List.replicate 5 .no) := by
  rintro pr R E ⟨b, c, rfl, hb2, hb10, hc, hbc, h⟩
  have hb0 : 0 < b := by omega
  unfold w_law_rows
  walk_at "st"
  walk_at "w"
  refine ⟨by omega, s_inv (fun i ρ' => ∃ s3 s4 s5 s6 : Sl, ρ' = [Sl.va (nI b), Sl.va (nI c), Sl.va (.list ((rows b i).map rowD)), s3, s4, s5, s6] ∧ Pl s3 ∧ Pl s4 ∧ Pl s5 ∧ Pl s6) ⟨.no, .no, .no, .no, rfl, .no, .no, .no, .no⟩ ?_ ?_⟩
  · rintro i d ρ' hd ⟨s3, s4, s5, s6, rfl, p3, p4, p5, p6⟩
    obtain ⟨rfl, hi⟩ := rng_at hd
    rw [Int.toNat_natCast] at hi
    have hic : b ^ (i + 1) ≤ 700 := Nat.le_trans (Nat.pow_le_pow_right hb0 hi) hbc
    rw [Nat.pow_succ] at hic
    have hrl := rows_len (b := b) i
    have n3 := p3.nio
    have n4 := p4.nio
    walk_at "w"
    refine s_inv (fun j ρ' => ∃ s5 s6 : Sl, ρ' = [Sl.va (nI b), Sl.va (nI c), Sl.va (.list ((rows b i).map rowD)), Sl.va (.int i), Sl.ow ((extR b ((rows b i).take j)).map rowD), s5, s6] ∧ Pl s5 ∧ Pl s6) ⟨s5, s6, rfl, p5, p6⟩ ?_ ?_
    · rintro j d ρ' hd ⟨s5, s6, rfl, p5, p6⟩
      obtain ⟨x, hx, rfl⟩ := get_map hd
      have hj := (List.getElem?_eq_some_iff.mp hx).1
      have hxm := rows_mem (List.mem_of_getElem? hx)
      have n5 := p5.nio
      have hjl : ((rows b i).take j).length = j := by rw [List.length_take]; omega
      have hje := ext_len (b := b) ((rows b i).take j)
      rw [hjl] at hje
      have hjb : (j + 1) * b ≤ 700 := Nat.le_trans (Nat.mul_le_mul_right b (show j + 1 ≤ b ^ i by omega)) hic
      rw [Nat.succ_mul] at hjb
      walk_at "w"
      refine ⟨by omega, s_inv (fun e ρ' => ∃ s6 : Sl, ρ' = [Sl.va (nI b), Sl.va (nI c), Sl.va (.list ((rows b i).map rowD)), Sl.va (.int i), Sl.ow ((extR b ((rows b i).take j) ++ (List.range e).map fun d => x ++ [d]).map rowD), Sl.va (rowD x), s6] ∧ Pl s6) ⟨s6, by simp, p6⟩ ?_ ?_⟩
      · rintro e d ρ' hd ⟨s6, rfl, p6⟩
        obtain ⟨rfl, he⟩ := rng_at hd
        rw [Int.toNat_natCast] at he
        have n6 := p6.nio
        have ed : rowD (x ++ [e]) = .tuple (x.map (fun d => nI d) ++ [nI e]) := by unfold rowD; rw [List.map_append]; rfl
        have e2 : (extR b ((rows b i).take j) ++ (List.range (e + 1)).map fun d => x ++ [d]).map rowD = (extR b ((rows b i).take j) ++ (List.range e).map fun d => x ++ [d]).map rowD ++ [.tuple (x.map (fun d => nI d) ++ [nI e])] := by
          simp only [List.range_succ, List.map_append, List.append_assoc, List.map_cons, List.map_nil, ed]
        walk_at "w"
        refine s_addt (a := x.map fun d => nI d) ?_ (by rw [List.length_map, hxm.1, sizeLine_eq]; exact Nat.le_trans (show i + 1 ≤ 17 by omega) (by decide))
        walk_at "w"
        refine ⟨by simp only [List.length_map, List.length_append, List.length_range]; rw [sizeLine_eq]; omega, .va (.int e), ?_, .va⟩
        rw [e2]
        rfl
      · rintro ρ' ⟨s6, rfl, p6⟩
        rw [rng_len, Int.toNat_natCast, ← ext_snoc, ← take_one hx]
        exact ⟨_, _, rfl, .va, p6⟩
    · rintro ρ' ⟨s5, s6, rfl, p5, p6⟩
      rw [List.length_map, List.take_length]
      walk_at "w"
      exact ⟨_, _, _, _, rfl, .va, .va, p5, p6⟩
  · rintro ρ' ⟨s3, s4, s5, s6, rfl, p3, p4, p5, p6⟩
    rw [rng_len, Int.toNat_natCast]
    walk_at "w"
    exact h
theorem ne_RO {K : PySem.W.Frag} {mg : Str → Option Value} {A : Ad} (T : Txt K mg A) : A.cRefused ≠ A.cOutOfRange := fun e => by
  have a := T.iRefused_OutOfRange
  rw [← e, T.iRefused_Refused] at a
  cases a
theorem nmE (A : Ad) : nm A A.cOutOfRange = some (Str.ofString "OutOfRange") := by unfold nm; rw [if_pos rfl]
theorem ctE (A : Ad) : catOf (nm A) A.cOutOfRange = some true := by unfold catOf; rw [nmE]; rfl
theorem nmR {A : Ad} (h : A.cRefused ≠ A.cOutOfRange) : nm A A.cRefused = some (Str.ofString "Refused") := by unfold nm; rw [if_neg h, if_pos rfl]
theorem ctR {A : Ad} (h : A.cRefused ≠ A.cOutOfRange) : catOf (nm A) A.cRefused = some true := by unfold catOf; rw [nmR h]; rfl
theorem hw_law_try (A : Ad) (hne : A.cRefused ≠ A.cOutOfRange) : ∀ pr R E, S_law_try A pr R E → w_law_try A (bxOf 5 R E) (pr ++ List.replicate 1 .no) := by
  rintro pr R E ⟨w, n, kd, b, m, t, d, rfl, hm, h⟩
  unfold w_law_try
  walk_at "st"
  walk_at "w"
  rcases h with ⟨rfl, r, rfl, hr, h⟩ | ⟨rfl, r, rfl, hn, h⟩
  · refine s_ifd (fun _ => ?_) fun h1 => ?_
    · unfold tryD at h
      walk_at "w"
      refine ⟨n, kd, b, m, t, r, rfl, hm, hr, fun hn => ?_, fun hn z => ?_, fun hn x a z => ?_⟩
      · rw [if_neg hn] at h
        refine catK_t (ctE A) fun a => ?_
        walk_at "w"
        refine s_suite (nmE A) ?_
        walk_at "w"
        exact h
      · rw [if_pos hn, z] at h
        refine catK_t (ctR hne) fun a => ?_
        walk_at "w"
        refine s_suite (nmR hne) ?_
        walk_at "w"
        exact h
      · rw [if_pos hn, z] at h
        walk_at "w"
        exact h
    · exact absurd rfl h1
  · refine s_ifd (fun h1 => ?_) fun h1 => ?_
    · exact absurd h1 (by decide)
    · walk_at "w"
      refine ⟨n, kd, b, m, t, r, rfl, hm.n, fun _ => ?_, fun z => absurd z hn⟩
      refine catK_t (ctE A) fun a => ?_
      walk_at "w"
      refine s_suite (nmE A) ?_
      walk_at "w"
      exact h

/-! sums over numbers below a bound -/
def sm2 (f : Nat → Nat) : Nat → Nat
  | 0 => 0
  | i + 1 => sm2 f i + f i
theorem sm_range (G : Nat → Nat) : ∀ N, ((List.range N).map G).sum = sm2 G N
  | 0 => rfl
  | N + 1 => by
    rw [List.range_succ, List.map_append, List.sum_append, sm_range G N]
    simp [sm2]
theorem sm_congr {f g : Nat → Nat} : ∀ {N : Nat}, (∀ i, i < N → f i = g i) → sm2 f N = sm2 g N
  | 0, _ => rfl
  | N + 1, h => by
    show sm2 f N + f N = sm2 g N + g N
    rw [sm_congr fun i hi => h i (by omega), h N (by omega)]
theorem sm_split (f : Nat → Nat) (a : Nat) : ∀ c, sm2 f (a + c) = sm2 f a + sm2 (fun x => f (a + x)) c
  | 0 => rfl
  | c + 1 => by
    show sm2 f (a + c) + f (a + c) = sm2 f a + (sm2 (fun x => f (a + x)) c + f (a + c))
    rw [sm_split f a c, Nat.add_assoc]
theorem sm_const (c : Nat) : ∀ N, sm2 (fun _ => c) N = N * c
  | 0 => by simp [sm2]
  | N + 1 => by
    show sm2 (fun _ => c) N + c = _
    rw [sm_const c N, Nat.succ_mul]
theorem sm_add (f g : Nat → Nat) : ∀ N, sm2 (fun i => f i + g i) N = sm2 f N + sm2 g N
  | 0 => rfl
  | N + 1 => by
    show sm2 (fun i => f i + g i) N + (f N + g N) = (sm2 f N + f N) + (sm2 g N + g N)
    rw [sm_add f g N]
    omega
theorem sm_one {v : Nat} : ∀ {N : Nat}, sm2 (fun k => if v = k then 1 else 0) N = if v < N then 1 else 0
  | 0 => by rw [if_neg (by omega)]; rfl
  | N + 1 => by
    show sm2 (fun k => if v = k then 1 else 0) N + (if v = N then 1 else 0) = _
    rw [sm_one (N := N)]
    split <;> split <;> split <;> omega
theorem sm_mod {n k V : Nat} (hk : k < n) : ∀ i, sm2 (fun x => if x % n = k then V else 0) i = (i / n + (if k < i % n then 1 else 0)) * V
  | 0 => by simp [sm2]
  | i + 1 => by
    show sm2 (fun x => if x % n = k then V else 0) i + (if i % n = k then V else 0) = _
    rw [sm_mod hk i]
    have hd := Nat.div_add_mod i n
    have hm := Nat.mod_lt i (show 0 < n by omega)
    generalize i / n = q at *
    generalize i % n = s at *
    by_cases hs : s + 1 < n
    · have e : i + 1 = s + 1 + n * q := by omega
      rw [e, Nat.add_mul_div_left _ _ (by omega), Nat.add_mul_mod_self_left, Nat.div_eq_of_lt hs, Nat.mod_eq_of_lt hs, Nat.zero_add, Nat.add_mul, Nat.add_mul, Nat.add_assoc]
      congr 1
      by_cases h1 : s = k
      · rw [if_neg (by omega), if_pos h1, if_pos (by omega), Nat.zero_mul, Nat.one_mul, Nat.zero_add]
      · rw [if_neg h1, Nat.add_zero]
        congr 1
        by_cases h2 : k < s
        · rw [if_pos h2, if_pos (by omega)]
        · rw [if_neg h2, if_neg (by omega)]
    · have e : i + 1 = 0 + n * (q + 1) := by rw [Nat.mul_add, Nat.mul_one]; omega
      rw [e, Nat.add_mul_div_left _ _ (by omega), Nat.add_mul_mod_self_left, Nat.zero_div, Nat.zero_mod, if_neg (Nat.not_lt_zero k), Nat.zero_add, Nat.add_zero, Nat.add_mul, Nat.add_mul, Nat.add_assoc, Nat.one_mul]
      congr 1
      by_cases h1 : s = k
      · rw [if_neg (by omega), if_pos h1, Nat.zero_mul, Nat.zero_add]
      · rw [if_pos (by omega), if_neg h1, Nat.one_mul, Nat.add_zero]
theorem cl_le {n W r x : Nat} (hn : 0 < n) : clI n W r ≤ x ↔ r * W ≤ x * n := by
  unfold clI
  rw [← Nat.lt_succ_iff, Nat.div_lt_iff_lt_mul hn, Nat.succ_mul]
  omega
theorem div_at {n W k x : Nat} (hn : 0 < n) (hW : 0 < W) : x * n / W = k ↔ clI n W k ≤ x ∧ ¬ clI n W (k + 1) ≤ x := by
  rw [cl_le hn, cl_le hn, Nat.not_le, ← Nat.div_lt_iff_lt_mul hW, ← Nat.le_div_iff_mul_le hW]
  omega
theorem sm_div {n W k : Nat} (hn : 0 < n) (hW : 0 < W) : ∀ i, sm2 (fun x => if x * n / W = k then 1 else 0) i = min i (clI n W (k + 1)) - min i (clI n W k)
  | 0 => by simp [sm2]
  | i + 1 => by
    show sm2 (fun x => if x * n / W = k then 1 else 0) i + (if i * n / W = k then 1 else 0) = _
    rw [sm_div hn hW i]
    have h := div_at (n := n) (W := W) (k := k) (x := i) hn hW
    have hmo := cl_mono (n := n) (W := W) (r := k)
    generalize clI n W (k + 1) = u at *
    generalize clI n W k = v at *
    by_cases z : i * n / W = k
    · rw [if_pos z]
      have := h.mp z
      omega
    · rw [if_neg z]
      have : ¬ (v ≤ i ∧ ¬ u ≤ i) := fun y => z (h.mpr y)
      omega
/-! all rows, as numbers -/
theorem range_mul (b : Nat) : ∀ N, (List.range N).flatMap (fun x => (List.range b).map fun d => x * b + d) = List.range (N * b)
  | 0 => by simp
  | N + 1 => by
    rw [List.range_succ, List.flatMap_append, range_mul b N, Nat.succ_mul, List.range_add]
    simp
theorem rows_num {b : Nat} : ∀ c, (rows b c).map (numN b) = List.range (b ^ c)
  | 0 => rfl
  | c + 1 => by
    show ((rows b c).flatMap fun r => (List.range b).map fun d => r ++ [d]).map (numN b) = _
    rw [List.map_flatMap, Nat.pow_succ, ← range_mul, ← rows_num c, List.flatMap_map]
    congr 1
    funext r
    rw [List.map_map]
    congr 1
    funext d
    exact num_snoc
theorem ext_map {b : Nat} {r : List Nat} : ∀ l : List (List Nat), extR b (l.map (r ++ ·)) = (extR b l).map (r ++ ·)
  | [] => rfl
  | x :: l => by
    have ih := ext_map (b := b) (r := r) l
    unfold extR at ih ⊢
    rw [List.map_cons, List.flatMap_cons, ih, List.flatMap_cons, List.map_append, List.map_map]
    congr 1
    congr 1
    funext d
    exact List.append_assoc ..
theorem rows_add {b c : Nat} : ∀ c2, rows b (c + c2) = (rows b c).flatMap fun r => (rows b c2).map (r ++ ·)
  | 0 => by
    show rows b c = (rows b c).flatMap fun r => [r ++ []]
    simp
  | c2 + 1 => by
    show extR b (rows b (c + c2)) = (rows b c).flatMap fun r => (extR b (rows b c2)).map (r ++ ·)
    rw [rows_add c2]
    unfold extR
    rw [List.flatMap_assoc]
    congr 1
    funext r
    exact ext_map _
/-- how many of the rows give k -/
def cnt (n : Nat) (kd : Str) (b m t k : Nat) (l : List (List Nat)) : Nat := l.countP fun r => decide ((rdB n kd b m t r).map (·.1) = some k)
def cA (n b m t a k : Nat) : Nat := (rows b (m * t)).countP fun r => decide ((agn n b m t r a).map (·.1) = some k)
theorem sum_rows {b m : Nat} (F : List Nat → Nat) (G : Nat → Nat) (h : ∀ r, r ∈ rows b m → F r = G (numN b r)) : ((rows b m).map F).sum = sm2 G (b ^ m) := by
  rw [← sm_range, ← rows_num, List.map_map]
  congr 1
  exact List.map_congr_left h
theorem count_if {α : Type} {p : Bool} (l : List α) : l.countP (fun _ => p) = if p = true then l.length else 0 := by
  cases p <;> simp
theorem cA_step {n b m t a k : Nat} : cA n b m (t + 1) a k = sm2 (fun x => if t = 0 ∨ x < lev n b m then (if x % n = k then b ^ (m * t) else 0) else cA n b m t (a + m) k) (b ^ m) := by
  unfold cA
  rw [show m * (t + 1) = m + m * t by rw [Nat.mul_succ, Nat.add_comm], rows_add, List.countP_flatMap]
  refine sum_rows _ _ fun r hr => ?_
  have hl := (rows_mem hr).1
  show ((rows b (m * t)).map (r ++ ·)).countP _ = _
  rw [List.countP_map]
  have e : ∀ r2, agn n b m (t + 1) (r ++ r2) a = if t = 0 ∨ numN b r < lev n b m then some (numN b r % n, a + m) else agn n b m t r2 (a + m) := fun r2 => by
    show (if m ≤ (r ++ r2).length then _ else _) = _
    rw [if_pos (by rw [List.length_append]; omega), List.take_left' hl, List.drop_left' hl]
  by_cases h : t = 0 ∨ numN b r < lev n b m
  · rw [if_pos h, ← rows_len (b := b) (m * t)]
    have e2 : ((fun r => decide ((agn n b m (t + 1) r a).map (·.1) = some k)) ∘ fun x => r ++ x) = fun _ => decide (numN b r % n = k) := by
      funext r2
      show decide ((agn n b m (t + 1) (r ++ r2) a).map (·.1) = some k) = _
      rw [e r2, if_pos h]
      exact decide_eq_decide.mpr ⟨fun z => Option.some.inj z, fun z => by rw [← z]; rfl⟩
    rw [e2, count_if]
    by_cases z : numN b r % n = k
    · rw [if_pos z, if_pos (decide_eq_true z)]
    · rw [if_neg z, if_neg (fun y => z (of_decide_eq_true y))]
  · rw [if_neg h]
    congr 1
    funext r2
    show decide ((agn n b m (t + 1) (r ++ r2) a).map (·.1) = some k) = _
    rw [e r2, if_neg h]

theorem lev_div {n b m : Nat} (hn : 0 < n) : lev n b m / n = b ^ m / n ∧ lev n b m % n = 0 := by
  have hd := Nat.div_add_mod (b ^ m) n
  have e : lev n b m = n * (b ^ m / n) := by unfold lev; omega
  rw [e]
  exact ⟨Nat.mul_div_cancel_left _ hn, Nat.mul_mod_right _ _⟩
theorem cA_one {n b m a k : Nat} (hk : k < n) : cA n b m 1 a k = b ^ m / n + fav n b m k := by
  rw [cA_step, sm_congr (g := fun x => if x % n = k then 1 else 0) fun x _ => by rw [if_pos (.inl rfl), Nat.mul_zero, Nat.pow_zero], sm_mod hk, Nat.mul_one]
  rfl
theorem cA_succ {n b m t a k : Nat} (hk : k < n) (ht : 0 < t) : cA n b m (t + 1) a k = b ^ m / n * b ^ (m * t) + b ^ m % n * cA n b m t (a + m) k := by
  have hn : 0 < n := by omega
  have hl := lev_div (b := b) (m := m) hn
  have e : b ^ m = lev n b m + b ^ m % n := by
    have := Nat.mod_le (b ^ m) n
    unfold lev; omega
  rw [cA_step, e, sm_split, ← e]
  congr 1
  · rw [sm_congr (g := fun x => if x % n = k then b ^ (m * t) else 0) fun x hx => by rw [if_pos (.inr hx)], sm_mod hk, hl.1, hl.2, if_neg (Nat.not_lt_zero k), Nat.add_zero]
  · rw [sm_congr (g := fun _ => cA n b m t (a + m) k) fun x hx => by rw [if_neg (by omega)], sm_const]
theorem cA_eq {n b m k : Nat} (hk : k < n) : ∀ (t a : Nat), n * cA n b m (t + 1) a k = ((b ^ m) ^ (t + 1) - (b ^ m % n) ^ (t + 1)) + (b ^ m % n) ^ t * n * fav n b m k
  | 0, a => by
    have hd := Nat.div_add_mod (b ^ m) n
    rw [cA_one hk, Nat.pow_one, Nat.pow_one, Nat.pow_zero, Nat.one_mul, Nat.mul_add]
    omega
  | t + 1, a => by
    have ih := cA_eq (b := b) (m := m) hk t (a + m)
    have hd := Nat.div_add_mod (b ^ m) n
    rw [cA_succ hk (by omega), Nat.mul_add, Nat.mul_left_comm n (b ^ m % n), ih, Nat.pow_mul]
    have hle : (b ^ m % n) ^ (t + 1) ≤ (b ^ m) ^ (t + 1) := Nat.pow_le_pow_left (Nat.mod_le _ _) _
    rw [Nat.pow_succ (b ^ m % n) (t + 1), Nat.pow_succ (b ^ m) (t + 1), Nat.pow_succ (b ^ m % n) t]
    have e3 : (b ^ m % n) ^ (t + 1) = (b ^ m % n) ^ t * (b ^ m % n) := Nat.pow_succ ..
    rw [e3] at hle
    generalize (b ^ m) ^ (t + 1) = V at *
    generalize (b ^ m % n) ^ t = p at *
    generalize fav n b m k = f at *
    generalize b ^ m % n = c at *
    generalize b ^ m / n = q at *
    obtain ⟨u, rfl⟩ : ∃ u, V = p * c + u := ⟨V - p * c, by omega⟩
    rw [← hd, Nat.add_sub_cancel_left]
    have e1 : (p * c + u) * (n * q + c) = p * c * c + (n * q * (p * c + u) + c * u) := by
      rw [Nat.mul_add, Nat.add_mul (p * c) u c, Nat.mul_comm (p * c + u) (n * q), Nat.mul_comm u c]
      omega
    rw [e1, Nat.add_sub_cancel_left, Nat.mul_add c, ← Nat.mul_assoc n q, Nat.add_assoc]
    congr 2
    simp only [Nat.mul_assoc, Nat.mul_comm, Nat.mul_left_comm]
theorem countP_sum {α : Type} {p : α → Bool} : ∀ l : List α, l.countP p = (l.map fun a => if p a = true then 1 else 0).sum
  | [] => rfl
  | a :: l => by
    rw [List.countP_cons, countP_sum l, List.map_cons, List.sum_cons, Nat.add_comm]
theorem cnt_ag {n : Nat} {kd : Str} {b m t k : Nat} (h1 : n ≠ 1) (hs : kd ≠ kScale) : cnt n kd b m t k (rows b (m * t)) = cA n b m t 0 k := by
  unfold cnt cA
  congr 1
  funext r
  rw [rd_ag h1 hs]
theorem cnt_sc {n : Nat} {b m k : Nat} (hn : 0 < n) (h1 : n ≠ 1) (hk : k < n) (hW : 0 < b ^ m) : cnt n kScale b m 1 k (rows b (m * 1)) = clI n (b ^ m) (k + 1) - clI n (b ^ m) k := by
  have h : cnt n kScale b m 1 k (rows b (m * 1)) = sm2 (fun x => if x * n / b ^ m = k then 1 else 0) (b ^ m) := by
    unfold cnt
    rw [Nat.mul_one, countP_sum]
    refine sum_rows _ _ fun r hr => ?_
    have hl := (rows_mem hr).1
    have e : rdB n kScale b m 1 r = some (numN b r * n / b ^ m, m) := by rw [rd_sc h1 rfl, if_pos (show m ≤ r.length by omega), List.take_of_length_le (show r.length ≤ m by omega)]
    rw [e]
    show (if decide (some (numN b r * n / b ^ m) = some k) = true then 1 else 0) = (if numN b r * n / b ^ m = k then 1 else 0)
    by_cases z : numN b r * n / b ^ m = k
    · rw [if_pos z, if_pos (decide_eq_true (by rw [← z]))]
    · rw [if_neg z, if_neg fun y => z (Option.some.inj (of_decide_eq_true y))]
  rw [h, sm_div hn hW]
  have c1 : clI n (b ^ m) (k + 1) ≤ b ^ m := (cl_le hn).mpr (by rw [Nat.mul_comm (b ^ m)]; exact Nat.mul_le_mul_right _ hk)
  have := cl_mono (n := n) (W := b ^ m) (r := k)
  omega
theorem cnt_eq {n : Nat} {kd : Str} {b m t k : Nat} (hn : okN n) (hm : Mk kd b m t) (hk : k < n) : cnt n kd b m t k (rows b (m * t)) * wB n kd b m t = wt n kd b m t k * b ^ (m * t) := by
  have hn0 : 0 < n := hn.1
  have hW := hm.n.w0
  by_cases h1 : n = 1
  · subst h1
    obtain rfl : k = 0 := by omega
    have e : cnt 1 kd b m t 0 (rows b (m * t)) = b ^ (m * t) := by
      unfold cnt
      rw [← rows_len (m * t)]
      refine List.countP_eq_length.mpr fun r _ => ?_
      rw [rd_1 rfl]
      rfl
    rw [e, Nat.mul_comm]
    congr 1
    unfold wB wt
    by_cases hs : kd = kScale
    · rw [if_pos hs, if_neg (by rw [hs]; decide)]
      unfold clI
      simp
    · rw [if_neg hs]
      by_cases h2 : kd = kMod
      · rw [if_pos h2, if_neg (by rw [h2]; decide)]
        unfold fav
        rw [if_neg (by omega), Nat.div_one, Nat.add_zero]
      · rw [if_neg h2, if_pos (Nat.mod_one _), if_pos ((hm.n.k.resolve_left h2).resolve_left hs), Nat.one_mul]
  · by_cases hs : kd = kScale
    · have ht := hm.one (by rw [hs]; decide)
      subst hs ht
      rw [cnt_sc hn0 h1 hk hW]
      unfold wt wB
      rw [if_pos rfl, if_neg (by decide), Nat.mul_one]
    · rw [cnt_ag h1 hs]
      by_cases h2 : kd = kMod
      · have ht := hm.one (by rw [h2]; decide)
        subst ht
        rw [cA_one hk]
        unfold wt wB
        rw [if_neg hs, if_pos h2, if_neg (by rw [h2]; decide), Nat.mul_one]
      · have h3 := (hm.n.k.resolve_left h2).resolve_left hs
        obtain ⟨t', rfl⟩ : ∃ t', t = t' + 1 := ⟨t - 1, by have := hm.n.t0; omega⟩
        have e := cA_eq (b := b) (m := m) hk t' 0
        have ew : wt n kd b m (t' + 1) k = ((b ^ m) ^ (t' + 1) - (b ^ m % n) ^ (t' + 1)) + (b ^ m % n) ^ t' * n * fav n b m k := by
          unfold wt
          rw [if_neg hs, if_neg h2]
          by_cases z : b ^ m % n = 0
          · have zf : fav n b m k = 0 := by unfold fav; rw [z]; rfl
            rw [if_pos z, z, zf, Nat.mul_zero, Nat.zero_pow (by omega), Nat.sub_zero]
            exact (Nat.add_zero _).symm
          · rw [if_neg z]
            rfl
        rw [ew, ← e]
        unfold wB
        rw [if_pos h3, Nat.pow_mul, Nat.mul_left_comm, Nat.mul_assoc]
theorem agn_lt {n b m : Nat} (hn : 0 < n) : ∀ {t : Nat} {r : List Nat} {a : Nat}, 0 < t → m * t ≤ r.length → ∃ x p, agn n b m t r a = some (x, p) ∧ x < n ∧ p ≤ a + m * t
  | 0, _, _, h, _ => absurd h (by decide)
  | t + 1, r, a, _, hl => by
    rw [Nat.mul_succ] at hl ⊢
    by_cases h : t = 0 ∨ numN b (r.take m) < lev n b m
    · exact ⟨_, _, agn_s (by omega) h, Nat.mod_lt _ hn, by omega⟩
    · obtain ⟨x, p, e, h1, h2⟩ := agn_lt (n := n) (b := b) (m := m) hn (t := t) (r := r.drop m) (a := a + m) (by omega) (by rw [List.length_drop]; omega)
      exact ⟨x, p, by rw [agn_g (by omega) h]; exact e, h1, by omega⟩
theorem rd_lt {n : Nat} {kd : Str} {b m t : Nat} {r : List Nat} (hn : okN n) (hm : Mk kd b m t) (hr : ∀ x, x ∈ r → x < b) (hl : m * t ≤ r.length) : ∃ x p, rdB n kd b m t r = some (x, p) ∧ x < n := by
  have hn0 : 0 < n := hn.1
  by_cases h1 : n = 1
  · exact ⟨0, 0, rd_1 h1, hn0⟩
  · by_cases hs : kd = kScale
    · have ht := hm.one (by rw [hs]; decide)
      subst ht
      rw [Nat.mul_one] at hl
      refine ⟨_, _, by rw [rd_sc h1 hs, if_pos hl], ?_⟩
      have z := num_lt (b := b) (l := r.take m) fun x hx => hr x (List.mem_of_mem_take hx)
      rw [List.length_take, Nat.min_eq_left hl] at z
      exact Nat.div_lt_of_lt_mul (Nat.mul_lt_mul_of_pos_right z hn0)
    · obtain ⟨x, p, e, h2, _⟩ := agn_lt (n := n) (b := b) hn0 (t := t) (r := r) (a := 0) hm.n.t0 hl
      exact ⟨x, p, by rw [rd_ag h1 hs]; exact e, h2⟩
theorem cnt_sum {n : Nat} {kd : Str} {b m t : Nat} : ∀ {l : List (List Nat)}, (∀ r, r ∈ l → ∃ x p, rdB n kd b m t r = some (x, p) ∧ x < n) → sm2 (fun k => cnt n kd b m t k l) n = l.length
  | [], _ => by
    have e : sm2 (fun k => cnt n kd b m t k []) n = sm2 (fun _ => 0) n := sm_congr fun k _ => rfl
    rw [e, sm_const]
    rfl
  | r :: l, h => by
    obtain ⟨x, p, e, hx⟩ := h r (List.mem_cons_self ..)
    have ih := cnt_sum (l := l) fun r hr => h r (List.mem_cons_of_mem _ hr)
    rw [sm_congr (g := fun k => cnt n kd b m t k l + if x = k then 1 else 0) fun k _ => ?_, sm_add, ih, sm_one, if_pos hx]
    · rfl
    · unfold cnt
      rw [List.countP_cons, e]
      congr 1
      show (if decide (some x = some k) = true then 1 else 0) = (if x = k then 1 else 0)
      by_cases z : x = k
      · rw [if_pos z, if_pos (decide_eq_true (by rw [← z]))]
      · rw [if_neg z, if_neg fun y => z (Option.some.inj (of_decide_eq_true y))]

theorem lo_lt {x k g : Nat} (h : x < 2 ^ k) : x / g < 2 ^ k := Nat.lt_of_le_of_lt (Nat.div_le_self _ _) h
theorem low_pos {p w : Nat} (h : 0 < w) : 0 < w / Nat.gcd p w := Nat.div_pos (gcd_le h) (gcd_pos h)
theorem cop {p w : Nat} (h : 0 < Nat.gcd p w) : Nat.gcd (p / Nat.gcd p w) (w / Nat.gcd p w) = 1 := by
  have z : Nat.gcd (Nat.gcd p w * (p / Nat.gcd p w)) (Nat.gcd p w * (w / Nat.gcd p w)) = Nat.gcd p w * Nat.gcd (p / Nat.gcd p w) (w / Nat.gcd p w) := Nat.gcd_mul_left ..
  rw [Nat.mul_div_cancel' (Nat.gcd_dvd_left p w), Nat.mul_div_cancel' (Nat.gcd_dvd_right p w)] at z
  exact Nat.eq_of_mul_eq_mul_left h (by rw [Nat.mul_one]; exact z.symm)
theorem lo_eq {p w p' w' : Nat} (hw : 0 < w) (hw' : 0 < w') (h : p * w' = p' * w) : loD p w = loD p' w' := by
  have g0 := gcd_pos (p := p) hw
  have g0' := gcd_pos (p := p') hw'
  have c := cop g0
  have c' := cop g0'
  have e1 := Nat.mul_div_cancel' (Nat.gcd_dvd_left p w)
  have e2 := Nat.mul_div_cancel' (Nat.gcd_dvd_right p w)
  have e1' := Nat.mul_div_cancel' (Nat.gcd_dvd_left p' w')
  have e2' := Nat.mul_div_cancel' (Nat.gcd_dvd_right p' w')
  unfold loD
  generalize p / Nat.gcd p w = x at *
  generalize w / Nat.gcd p w = y at *
  generalize p' / Nat.gcd p' w' = x' at *
  generalize w' / Nat.gcd p' w' = y' at *
  generalize Nat.gcd p w = g at *
  generalize Nat.gcd p' w' = g' at *
  have q : x * y' = x' * y := by
    refine Nat.eq_of_mul_eq_mul_left (Nat.mul_pos g0 g0') ?_
    calc g * g' * (x * y') = (g * x) * (g' * y') := Nat.mul_mul_mul_comm ..
      _ = (g' * x') * (g * y) := by rw [e1, e2', e1', e2]; exact h
      _ = g * g' * (x' * y) := by rw [Nat.mul_mul_mul_comm, Nat.mul_comm g' g]
  have a1 : x = x' := Nat.dvd_antisymm
    (Nat.Coprime.dvd_of_dvd_mul_right (show Nat.Coprime x y from c) ⟨y', q.symm⟩)
    (Nat.Coprime.dvd_of_dvd_mul_right (show Nat.Coprime x' y' from c') ⟨y, q⟩)
  have a2 : y = y' := by
    have c1 : Nat.Coprime y x := (Nat.coprime_comm).mp c
    have c2 : Nat.Coprime y' x' := (Nat.coprime_comm).mp c'
    exact Nat.dvd_antisymm
      (Nat.Coprime.dvd_of_dvd_mul_left c1 ⟨x', by rw [q, Nat.mul_comm]⟩)
      (Nat.Coprime.dvd_of_dvd_mul_left c2 ⟨x, by rw [← q, Nat.mul_comm]⟩)
  rw [a1, a2]
structure To (M S a b : Nat) : Prop where
  b0 : 0 < b
  c : Nat.gcd a b = 1
  e : a * M = S * b
theorem To.b_le {M S a b : Nat} (h : To M S a b) (hM : 0 < M) : b ≤ M := by
  have c1 : Nat.Coprime b a := (Nat.coprime_comm).mp h.c
  exact Nat.le_of_dvd hM (Nat.Coprime.dvd_of_dvd_mul_left c1 ⟨S, by rw [h.e, Nat.mul_comm]⟩)
theorem To.a_le {M S a b : Nat} (h : To M S a b) (hM : 0 < M) : a ≤ S := by
  have := h.b_le hM
  have e := h.e
  have : a * M ≤ S * M := by rw [e]; exact Nat.mul_le_mul_left S this
  exact Nat.le_of_mul_le_mul_right this hM
theorem okS_lo (p w : Nat) : okS 3 (loD p w) := ⟨by simp, fun y hy => by
  rcases List.mem_cons.mp hy with rfl | hy
  · exact trivial
  · rw [List.mem_singleton.mp hy]; exact trivial⟩
theorem hw_law_told_OutOfRange (a : Addr) : w_law_told a true false false false false true { nx := fun _ => False, rt := fun d _ => d = .str "OutOfRange" } (.ex a :: ["kinds", "kind"].map fun _ => .no) := by
  unfold w_law_told
  simp only [List.map]
  walk_at "w"
  refine s_lr ?_
  walk_at "w"
  refine ⟨⟨_, rfl⟩, ?_⟩
  refine s_C ?_
  refine ⟨_, 0, _, rfl, rfl, rfl, rfl, rfl, fun m z' h _ => absurd h (Nat.not_lt_zero m), ?_⟩
  walk_at "w"
  rfl
theorem hw_law_told_Refused (a : Addr) : w_law_told a false false false true false true { nx := fun _ => False, rt := fun d _ => d = .str "Refused" } (.ex a :: ["kinds", "kind"].map fun _ => .no) := by
  unfold w_law_told
  simp only [List.map]
  walk_at "w"
  refine s_lr ?_
  walk_at "w"
  refine ⟨⟨_, rfl⟩, ?_⟩
  refine s_C ?_
  refine ⟨_, 3, _, rfl, rfl, rfl, rfl, rfl, fun m z' h hz => ?_, ?_⟩
  · match m, h, hz with
    | 0, _, hz => cases hz; rfl
    | 1, _, hz => cases hz; rfl
    | 2, _, hz => cases hz; rfl
  · walk_at "w"
    rfl
theorem To.add {M S a b p : Nat} (h : To M S a b) (hM : 0 < M) :
    To M (S + p) ((a * (M / Nat.gcd p M) + p / Nat.gcd p M * b) / Nat.gcd (a * (M / Nat.gcd p M) + p / Nat.gcd p M * b) (b * (M / Nat.gcd p M))) ((b * (M / Nat.gcd p M)) / Nat.gcd (a * (M / Nat.gcd p M) + p / Nat.gcd p M * b) (b * (M / Nat.gcd p M))) := by
  have k0 := low_pos (p := p) hM
  have e1 := Nat.mul_div_cancel' (Nat.gcd_dvd_left p M)
  have e2 := Nat.mul_div_cancel' (Nat.gcd_dvd_right p M)
  have b0 := h.b0
  have he := h.e
  generalize p / Nat.gcd p M = x at *
  generalize M / Nat.gcd p M = y at *
  generalize Nat.gcd p M = g at *
  have w0 : 0 < b * y := Nat.mul_pos b0 k0
  have G0 := gcd_pos (p := a * y + x * b) w0
  refine ⟨low_pos w0, cop G0, ?_⟩
  have E1 := Nat.mul_div_cancel' (Nat.gcd_dvd_left (a * y + x * b) (b * y))
  have E2 := Nat.mul_div_cancel' (Nat.gcd_dvd_right (a * y + x * b) (b * y))
  generalize (a * y + x * b) / Nat.gcd (a * y + x * b) (b * y) = a' at *
  generalize b * y / Nat.gcd (a * y + x * b) (b * y) = b' at *
  generalize Nat.gcd (a * y + x * b) (b * y) = G at *
  refine Nat.eq_of_mul_eq_mul_left G0 ?_
  calc G * (a' * M) = (a * y + x * b) * M := by rw [← Nat.mul_assoc, E1]
    _ = a * M * y + x * b * M := by rw [Nat.add_mul, Nat.mul_right_comm a]
    _ = S * b * y + x * b * (g * y) := by rw [he, e2]
    _ = S * (b * y) + g * x * (b * y) := by
      rw [Nat.mul_assoc S]
      congr 1
      simp only [Nat.mul_assoc, Nat.mul_comm, Nat.mul_left_comm]
    _ = (S + p) * (b * y) := by rw [e1, Nat.add_mul]
    _ = G * ((S + p) * b') := by rw [← E2, Nat.mul_left_comm]
theorem great_arg {k : Nat} {r : Int} (hk : k < 999) (h3 : 0 ≤ r) (h4 : r < 2) : ∃ g : Nat, okN g ∧ atI [PyData.int 1000000000000000, PyData.int (1000000000000000 - (k : Int))] r = some (nI g) := by
  obtain rfl | rfl : r = 0 ∨ r = 1 := by omega
  · exact ⟨1000000000000000, by unfold okN; omega, rfl⟩
  · refine ⟨1000000000000000 - k, by unfold okN; omega, ?_⟩
    rw [show (1000000000000000 - (k : Int)) = ((1000000000000000 - k : Nat) : Int) by omega]
    rfl
theorem prD_okS (o : Option (Nat × Nat)) : okS 3 (prD o) := by
  match o with
  | none => exact trivial
  | some (x, a) => exact ⟨(by decide : 2 ≤ 100000), fun y hy => by
    rcases List.mem_cons.mp hy with rfl | hy
    · exact trivial
    · rw [List.mem_singleton.mp hy]; exact trivial⟩

theorem get3 {a b c d : D} {i : Nat} (h : [a, b, c][i]? = some d) : d = a ∨ d = b ∨ d = c := by
  match i, h with
  | 0, h => exact .inl (Option.some.inj h).symm
  | 1, h => exact .inr (.inl (Option.some.inj h).symm)
  | 2, h => exact .inr (.inr (Option.some.inj h).symm)
theorem okI_n {n : Nat} (h : okN n) : okI (n : Int) := ⟨by have := h.1; omega, by have := h.2; omega⟩
theorem law_great (A : Ad) {nx : En → Prop} {rt : D → En → Prop} {rf : List D → En → Prop} {bk ct : En → Prop} {rs : Addr → En → Prop} (sc : D) (ms : List Int)
    {s2 s3 s4 s5 s6 s7 s8 s9 s10 s14 s15 s16 s17 : Sl} (h : ∀ s, rt (.bool true) (Sl.va sc :: s)) :
    wlaw_t8 A ⟨nx, rt, rf, bk, ct, rs⟩ [Sl.va sc, Sl.ow (ms.map PyData.int), s2, s3, s4, s5, s6, s7, s8, s9, s10, Sl.no, Sl.no, Sl.no, s14, s15, s16, s17, Sl.no] := by
  unfold wlaw_t8
  walk_at "w"
  refine ⟨ms, 999, rfl, by decide, by decide, fun r1 ms1 a1 b1 => ?_⟩
  obtain ⟨k1, rfl⟩ : ∃ k : Nat, r1 = k := ⟨r1.toNat, by omega⟩
  walk_at "w"
  refine ⟨ms1, 2, rfl, by decide, by decide, fun r2 ms2 a2 b2 => ?_⟩
  obtain ⟨g, hg, hga⟩ := great_arg (k := k1) (by omega) a2 b2
  walk_at "w"
  refine s_ixl _ hga ?_
  walk_at "w"
  refine ⟨fun i acc ρ' => ∃ (ms' : List Int) (l : List Nat), ρ' = [Sl.va sc, Sl.ow (ms'.map PyData.int), s2, s3, s4, s5, s6, s7, s8, s9, s10, Sl.va (nI g), Sl.no, Sl.no, s14, s15, s16, s17, Sl.no] ∧ acc = l.map (fun d => nI d) ∧ l.length = i ∧ ∀ x, x ∈ l → x < 256, ⟨ms2, [], rfl, rfl, rfl, fun x hx => absurd hx List.not_mem_nil⟩, ?_, ?_⟩
  · rintro i d acc ρ' hd ⟨ms', l, rfl, rfl, hl, hx⟩
    have hi := rng_lt hd
    have hi : i < 14 := hi
    refine ⟨⟨trivial, trivial⟩, ?_⟩
    walk_at "w"
    refine ⟨ms', 256, rfl, by decide, by decide, fun r3 ms3 a3 b3 => ?_⟩
    obtain ⟨k3, rfl⟩ : ∃ k : Nat, r3 = k := ⟨r3.toNat, by omega⟩
    refine ⟨by rw [List.length_map, sizeLine_eq]; omega, ⟨trivial, trivial⟩, ms3, l ++ [k3], rfl, by rw [List.map_append]; rfl, by rw [List.length_append, hl]; rfl, fun x hx' => ?_⟩
    rcases List.mem_append.mp hx' with z | z
    · exact hx x z
    · rw [List.mem_singleton.mp z]; omega
  · rintro acc ρ' ⟨ms', l, rfl, rfl, hl, hx⟩
    rw [rng_len] at hl
    have hl : l.length = 14 := hl
    walk_at "w"
    dsimp only
    have hRw : Rw 256 l := ⟨hx, by omega⟩
    refine s_inv (fun i ρ' => ∃ s13, ρ' = [Sl.va sc, Sl.ow (ms'.map PyData.int), s2, s3, s4, s5, s6, s7, s8, s9, s10, Sl.va (nI g), Sl.va (PyData.tuple (l.map fun d => nI d)), s13, s14, s15, s16, s17, Sl.no] ∧ Pl s13) ⟨.no, rfl, .no⟩ ?_ ?_
    · rintro i d ρ' hd ⟨s13, rfl, p13⟩
      have n13 := p13.nio
      obtain ⟨kd, hk, rfl⟩ : ∃ kd : Str, (kd = kMod ∨ kd = kScale ∨ kd = kAgain) ∧ d = .str kd := by
        rcases get3 hd with rfl | rfl | rfl
        · exact ⟨_, .inl rfl, rfl⟩
        · exact ⟨_, .inr (.inl rfl), rfl⟩
        · exact ⟨_, .inr (.inr rfl), rfl⟩
      have hMk : Mk kd 256 7 1 := ⟨⟨hk, by decide, by decide, by decide, by decide, by decide, by decide⟩, fun _ => rfl, by decide⟩
      obtain ⟨x, p, e, _⟩ := rd_lt (r := l) hg hMk hx (by omega)
      walk_at "w"
      refine ⟨(g : Int), kd, 256, 7, 1, l, rfl, hMk, hRw, fun z => absurd (okI_n hg) z, fun _ z => ?_, fun _ x' a' z => ?_⟩
      · rw [Int.toNat_natCast, e] at z
        cases z
      · rw [Int.toNat_natCast, e] at z
        cases z
        walk_at "w"
        refine ⟨g, kd, 256, 7, 1, l, rfl, hg, hMk, hRw, ?_⟩
        rw [e]
        walk_at "w"
        refine ⟨prD_okS (some (x, p)), ?_⟩
        walk_at "w"
        exact .va
    · rintro ρ' ⟨s13, rfl, p13⟩
      walk_at "w"
      exact h _

theorem get4 {a b c d e : D} {i : Nat} (h : [a, b, c, d][i]? = some e) : e = a ∨ e = b ∨ e = c ∨ e = d := by
  match i, h with
  | 0, h => exact .inl (Option.some.inj h).symm
  | 1, h => exact .inr (.inl (Option.some.inj h).symm)
  | 2, h => exact .inr (.inr (.inl (Option.some.inj h).symm))
  | 3, h => exact .inr (.inr (.inr (Option.some.inj h).symm))
theorem try_bad {n : Int} {kd : Str} {b m t : Nat} {r : List Nat} (h : ¬ okI n) : tryD n kd b m t r = .str "OutOfRange" := if_neg h
theorem try_ok {n : Nat} {kd : Str} {b m t : Nat} {r : List Nat} (h : okN n) : tryD (n : Int) kd b m t r = match rdB n kd b m t r with
  | none => .str "Refused"
  | some (x, a) => .tuple [nI x, nI a] := if_pos (okI_n h)
theorem law_others (A : Ad) {nx : En → Prop} {rt : D → En → Prop} {rf : List D → En → Prop} {bk ct : En → Prop} {rs : Addr → En → Prop} (sc : D) (ms : List Int) (n : Nat) (kd : Str) (b m t : Nat) (row : List Nat) (hn : okN n) (hm : Mk kd b m t) (hr : Rw b row)
    {s3 s4 s5 s7 s8 s9 s16 s17 : Sl} (h : ∀ s, rt (.bool true) (Sl.va sc :: s)) :
    wlaw_t9 A ⟨nx, rt, rf, bk, ct, rs⟩ [Sl.va sc, Sl.ow (ms.map PyData.int), Sl.va (nI n), s3, s4, s5, Sl.va (rowD row), s7, s8, s9, Sl.no, Sl.no, Sl.no, Sl.no, Sl.va (nI b), Sl.va (mnD kd m t), s16, s17, Sl.no] := by
  unfold wlaw_t9
  generalize hw : wlaw_t8 A = w8
  walk_at "w"
  dsimp only
  refine s_inv (fun i ρ' => ∃ s10, ρ' = [Sl.va sc, Sl.ow (ms.map PyData.int), Sl.va (nI n), s3, s4, s5, Sl.va (rowD row), s7, s8, s9, s10, Sl.no, Sl.no, Sl.no, Sl.va (nI b), Sl.va (mnD kd m t), s16, s17, Sl.no] ∧ Pl s10) ⟨.no, rfl, .no⟩ ?_ ?_
  · rintro i d ρ' hd ⟨s10, rfl, p10⟩
    have n10 := p10.nio
    obtain ⟨o, rfl, ho⟩ : ∃ o : Int, d = .int o ∧ ¬ okI o := by
      have h1 := hn.1
      rcases get4 hd with rfl | rfl | rfl | rfl
      · exact ⟨_, rfl, fun z => absurd z.1 (by decide)⟩
      · exact ⟨_, rfl, fun z => absurd z.1 (by decide)⟩
      · exact ⟨_, rfl, fun z => absurd z.2 (by decide)⟩
      · exact ⟨_, rfl, fun z => by have := z.1; omega⟩
    walk_at "w"
    refine ⟨0, o, kd, b, m, t, rowD row, rfl, hm, .inl ⟨rfl, row, rfl, hr, ?_⟩⟩
    rw [try_bad ho]
    walk_at "w"
    refine ⟨1, o, kd, b, m, t, .int 0, rfl, hm, .inr ⟨rfl, 0, rfl, ho, ?_⟩⟩
    walk_at "w"
    exact .va
  · rintro ρ' ⟨s10, rfl, p10⟩
    subst hw
    exact law_great A sc ms h
theorem cut_take {l : List Nat} {k : Nat} (h : k ≤ l.length) : cutG (l.map fun d => nI d) none (some (k : Int)) = (l.take k).map fun d => nI d := by
  unfold cutG
  rw [HT.sIx_nat, HT.sIx_none, List.length_map, Nat.min_eq_left h, List.drop_zero, List.map_take, Nat.sub_zero]
theorem law_shorts (A : Ad) {nx : En → Prop} {rt : D → En → Prop} {rf : List D → En → Prop} {bk ct : En → Prop} {rs : Addr → En → Prop} (sc : D) (ms : List Int) (n : Nat) (kd : Str) (b m t : Nat) (row : List Nat) (hn : okN n) (hm : Mk kd b m t) (hr : ∀ x, x ∈ row → x < b) (hl : row.length = m * t) (hmt : m * t ≤ 16)
    {s4 s5 s7 s8 s16 s17 : Sl} (p16 : Pl s16) (h : ∀ s, rt (.bool true) (Sl.va sc :: s)) :
    wlaw_t10 A ⟨nx, rt, rf, bk, ct, rs⟩ [Sl.va sc, Sl.ow (ms.map PyData.int), Sl.va (nI n), Sl.va (nI (m * t)), s4, s5, Sl.va (rowD row), s7, s8, Sl.no, Sl.no, Sl.no, Sl.no, Sl.no, Sl.va (nI b), Sl.va (mnD kd m t), s16, s17, Sl.no] := by
  unfold wlaw_t10
  generalize hw : wlaw_t9 A = w9
  walk_at "w"
  refine ⟨ms, ((m * t : Nat) : Int) + 1, rfl, by omega, by omega, fun r1 ms1 a1 b1 => ?_⟩
  obtain ⟨k, rfl⟩ : ∃ k : Nat, r1 = k := ⟨r1.toNat, by omega⟩
  walk_at "w"
  refine s_addt (a := row.map fun d => nI d) ?_ (by rw [List.length_map, hl, sizeLine_eq]; exact Nat.le_trans (show m * t + 2 ≤ 18 by omega) (by decide))
  walk_at "w"
  rw [cut_take (by omega)]
  have hb2 := hm.two
  have hall : ∀ d, d ∈ [PyData.tuple ((row.take k).map fun d => nI d), PyData.tuple [], PyData.tuple (row.map (fun d => nI d) ++ [PyData.int 0, PyData.int 1])] → ∃ q, d = rowD q ∧ Rw b q := by
    intro d hd
    rcases List.mem_cons.mp hd with rfl | hd
    · exact ⟨row.take k, rfl, fun x hx => hr x (List.mem_of_mem_take hx), by rw [List.length_take]; omega⟩
    rcases List.mem_cons.mp hd with rfl | hd
    · exact ⟨[], rfl, fun x hx => absurd hx List.not_mem_nil, by decide⟩
    rw [List.mem_singleton.mp hd]
    refine ⟨row ++ [0, 1], by unfold rowD; rw [List.map_append]; rfl, fun x hx => ?_, by rw [List.length_append, hl]; exact Nat.le_trans (show m * t + 2 ≤ 18 by omega) (by decide)⟩
    rcases List.mem_append.mp hx with z | z
    · exact hr x z
    · rcases List.mem_cons.mp z with rfl | z
      · omega
      · rw [List.mem_singleton.mp z]; omega
  generalize [PyData.tuple ((row.take k).map fun d => nI d), PyData.tuple [], PyData.tuple (row.map (fun d => nI d) ++ [PyData.int 0, PyData.int 1])] = L at hall ⊢
  dsimp only
  refine s_inv (fun i ρ' => ∃ s9 s16, ρ' = [Sl.va sc, Sl.ow (ms1.map PyData.int), Sl.va (nI n), Sl.va (nI (m * t)), s4, s5, Sl.va (rowD row), s7, s8, s9, Sl.no, Sl.no, Sl.no, Sl.no, Sl.va (nI b), Sl.va (mnD kd m t), s16, s17, Sl.no] ∧ Pl s9 ∧ Pl s16) ⟨.no, s16, rfl, .no, p16⟩ ?_ ?_
  · rintro i d ρ' hd ⟨s9, s16, rfl, p9, p16⟩
    have n9 := p9.nio
    have n16 := p16.nio
    obtain ⟨q, rfl, hq⟩ := hall d (List.mem_of_getElem? hd)
    walk_at "w"
    refine ⟨n, kd, b, m, t, q, rfl, hn, hm, hq, ?_⟩
    have e := try_ok (kd := kd) (b := b) (m := m) (t := t) (r := q) hn
    generalize hv : rdB n kd b m t q = v at e
    walk_at "w"
    refine ⟨0, (n : Int), kd, b, m, t, rowD q, rfl, hm, .inl ⟨rfl, q, rfl, hq, ?_⟩⟩
    rw [e]
    match v with
    | none =>
      unfold prD
      walk_at "w"
      refine ⟨trivial, ?_⟩
      walk_at "w"
      exact ⟨_, _, rfl, .va, .va⟩
    | some (x, p) =>
      unfold prD
      walk_at "w"
      refine ⟨prD_okS (some (x, p)), ?_⟩
      walk_at "w"
      exact ⟨_, _, rfl, .va, .va⟩
  · rintro ρ' ⟨s9, s16, rfl, p9, p16⟩
    subst hw
    exact law_others A sc ms1 n kd b m t row hn hm ⟨hr, by omega⟩ h

theorem ne_same {a b : Int} {k : D → Prop} (h : k (.bool false)) : fNe (.tuple [.int a, .int b]) (.tuple [.int a, .int b]) k := by
  refine ⟨rfl, rfl, ?_⟩
  rw [SeqAt.eqv_refl _ rfl]
  exact h
theorem law_ends (A : Ad) {nx : En → Prop} {rt : D → En → Prop} {rf : List D → En → Prop} {bk ct : En → Prop} {rs : Addr → En → Prop} (sc : D) (ms : List Int) (n : Nat) (kd : Str) (b m t : Nat) (hn : okN n) (hm : Mk kd b m t) (hN : b ^ (m * t) ≤ 700) (hmt : m * t ≤ 16)
    {s5 s6 s8 s16 s17 : Sl} (p6 : Pl s6) (p16 : Pl s16) (h : ∀ s, rt (.bool true) (Sl.va sc :: s)) :
    wlaw_t11 A ⟨nx, rt, rf, bk, ct, rs⟩ [Sl.va sc, Sl.ow (ms.map PyData.int), Sl.va (nI n), Sl.va (nI (m * t)), Sl.va (.list ((rows b (m * t)).map rowD)), s5, s6, Sl.va (frN 1 1), s8, Sl.no, Sl.no, Sl.no, Sl.no, Sl.no, Sl.va (nI b), Sl.va (mnD kd m t), s16, s17, Sl.no] := by
  unfold wlaw_t11
  generalize hw : wlaw_t10 A = w10
  have n6 := p6.nio
  have hN0 : 0 < b ^ (m * t) := Nat.pow_pos hm.n.b0
  walk_at "w"
  refine ne_same (a := 1) (b := 1) ?_
  walk_at "w"
  refine ⟨(n : Int), kd, b, m, t, (n : Int), rfl, hm.n, fun z => absurd (okI_n hn) z, fun _ => ⟨fun _ z => absurd z (Int.lt_irrefl _), fun _ => ?_⟩⟩
  walk_at "w"
  refine ne_same (a := 0) (b := 1) ?_
  walk_at "w"
  refine ⟨(n : Int), kd, b, m, t, -1, rfl, hm.n, fun z => absurd (okI_n hn) z, fun _ => ⟨fun z _ => absurd z (by decide), fun _ => ?_⟩⟩
  walk_at "w"
  refine ne_same (a := 0) (b := 1) ?_
  walk_at "w"
  have hl : (((rows b (m * t)).map rowD).length : Int) = ((b ^ (m * t) : Nat) : Int) := by rw [List.length_map, rows_len]
  rw [hl]
  refine ⟨ms, _, rfl, by omega, by omega, fun r1 ms1 a1 b1 => ?_⟩
  obtain ⟨k, rfl⟩ : ∃ k : Nat, r1 = k := ⟨r1.toNat, by omega⟩
  obtain ⟨d, hd, hda⟩ := atI_mem (l := (rows b (m * t)).map rowD) (i := (k : Int)) (by omega) (by omega)
  obtain ⟨row, hrow, rfl⟩ := List.mem_map.mp hd
  have hr := rows_mem hrow
  walk_at "w"
  refine s_ixl _ hda ?_
  walk_at "w"
  subst hw
  exact law_shorts A sc ms1 n kd b m t row hn hm hr.2 hr.1 hmt p16 h
theorem atI_range {f : Nat → D} {n k : Nat} (h : k < n) : atI ((List.range n).map f) (k : Int) = some (f k) := by
  unfold atI ixN
  rw [if_pos (by omega), List.length_map, List.length_range, if_pos (by omega)]
  show ((List.range n).map f)[(k : Int).toNat]? = _
  rw [Int.toNat_natCast, List.getElem?_map, List.getElem?_range h]
  rfl
theorem to_end {N a b : Nat} (h : To N N a b) (hN : 0 < N) : a = 1 ∧ b = 1 := by
  have e : a = b := Nat.eq_of_mul_eq_mul_left hN (by rw [Nat.mul_comm]; exact h.e)
  subst e
  have := h.c
  rw [Nat.gcd_self] at this
  exact ⟨this, this⟩
theorem law_chances (A : Ad) {nx : En → Prop} {rt : D → En → Prop} {rf : List D → En → Prop} {bk ct : En → Prop} {rs : Addr → En → Prop} (sc : D) (ms : List Int) (n : Nat) (kd : Str) (b m t : Nat) (hn : okN n) (hm : Mk kd b m t) (hN : b ^ (m * t) ≤ 700) (hmt : m * t ≤ 16)
    {s6 s16 : Sl} (p6 : Pl s6) (p16 : Pl s16) (h : ∀ s, rt (.bool true) (Sl.va sc :: s)) :
    wlaw_t12 A ⟨nx, rt, rf, bk, ct, rs⟩ [Sl.va sc, Sl.ow (ms.map PyData.int), Sl.va (nI n), Sl.va (nI (m * t)), Sl.va (.list ((rows b (m * t)).map rowD)), Sl.ow ((List.range n).map fun k => nI (cnt n kd b m t k (rows b (m * t)))), s6, Sl.va (frN 0 1), Sl.no, Sl.no, Sl.no, Sl.no, Sl.no, Sl.no, Sl.va (nI b), Sl.va (mnD kd m t), s16, Sl.no, Sl.no] := by
  unfold wlaw_t12
  generalize hw : wlaw_t11 A = w11
  have hn0 : 0 < n := hn.1
  have hN0 : 0 < b ^ (m * t) := Nat.pow_pos hm.n.b0
  have hrl := rows_len (b := b) (m * t)
  have hsum : sm2 (fun k => cnt n kd b m t k (rows b (m * t))) n = b ^ (m * t) := by
    rw [cnt_sum fun r hr => rd_lt hn hm (rows_mem hr).2 (Nat.le_of_eq (rows_mem hr).1.symm), hrl]
  have hpart : ∀ i, i ≤ n → sm2 (fun k => cnt n kd b m t k (rows b (m * t))) i ≤ b ^ (m * t) := fun i hi => by
    obtain ⟨c, rfl⟩ : ∃ c, n = i + c := ⟨n - i, by omega⟩
    rw [← hsum, sm_split]
    exact Nat.le_add_right _ _
  have hcn : ∀ k, cnt n kd b m t k (rows b (m * t)) ≤ b ^ (m * t) := fun k => by
    rw [← hrl]; exact List.countP_le_length
  walk_at "w"
  refine ⟨by have := hn.2; omega, s_inv (fun i ρ' => ∃ (x y : Nat) (s8 s17 : Sl), ρ' = [Sl.va sc, Sl.ow (ms.map PyData.int), Sl.va (nI n), Sl.va (nI (m * t)), Sl.va (.list ((rows b (m * t)).map rowD)), Sl.ow ((List.range n).map fun k => nI (cnt n kd b m t k (rows b (m * t)))), s6, Sl.va (frN x y), s8, Sl.no, Sl.no, Sl.no, Sl.no, Sl.no, Sl.va (nI b), Sl.va (mnD kd m t), s16, s17, Sl.no] ∧ Pl s8 ∧ Pl s17 ∧ To (b ^ (m * t)) (sm2 (fun k => cnt n kd b m t k (rows b (m * t))) i) x y) ⟨0, 1, .no, .no, rfl, .no, .no, by decide, by decide, by simp [sm2]⟩ ?_ ?_⟩
  · rintro i d ρ' hd ⟨x, y, s8, s17, rfl, p8, p17, to⟩
    obtain ⟨rfl, hi⟩ := rng_at hd
    rw [Int.toNat_natCast] at hi
    have n8 := p8.nio
    have n17 := p17.nio
    have hc := cnt_eq hn hm hi
    have e := lo_eq (wB_pos hn hm.n) hN0 hc.symm
    have yl := to.b_le hN0
    have xl := to.a_le hN0
    have sl := hpart i (by omega)
    have y0 := to.b0
    have to' := to.add (p := cnt n kd b m t i (rows b (m * t))) hN0
    have c1 := hcn i
    have h800 : ∀ {z : Nat}, z ≤ 700 → z < 2 ^ 800 := fun {z} hz => up (i := 10) (Nat.lt_of_le_of_lt hz (by decide)) (by decide)
    walk_at "w"
    refine ⟨(n : Int), kd, b, m, t, (i : Int), rfl, hm.n, fun z => absurd (okI_n hn) z, fun _ => ⟨fun _ _ => ?_, fun z => absurd ⟨by omega, by omega⟩ z⟩⟩
    rw [Int.toNat_natCast, Int.toNat_natCast, e]
    walk_at "w"
    refine s_ixl _ (atI_range hi) ?_
    walk_at "w"
    have hl : (((rows b (m * t)).map rowD).length : Int) = ((b ^ (m * t) : Nat) : Int) := by rw [List.length_map, hrl]
    rw [hl]
    refine ⟨cnt n kd b m t i (rows b (m * t)), b ^ (m * t), rfl, hN0, up (h800 hN) (by decide), ?_, ?_⟩
    · have : cnt n kd b m t i (rows b (m * t)) * b ^ (m * t) ≤ 700 * 700 := Nat.mul_le_mul (Nat.le_trans c1 hN) hN
      exact up (i := 20) (Nat.lt_of_le_of_lt this (by decide)) (by decide)
    · walk_at "w"
      refine ⟨okS_lo _ _, ?_⟩
      walk_at "w"
      refine ⟨x, y, _, _, rfl, y0, low_pos hN0, h800 (by omega), h800 (by omega), lo_lt (h800 (by omega)), lo_lt (h800 (by omega)), ?_⟩
      walk_at "w"
      exact ⟨_, _, _, _, rfl, .va, .va, to'⟩
  · rintro ρ' ⟨x, y, s8, s17, rfl, p8, p17, to⟩
    rw [rng_len, Int.toNat_natCast, hsum] at to
    obtain ⟨rfl, rfl⟩ := to_end to hN0
    subst hw
    exact law_ends A sc ms n kd b m t hn hm hN hmt p6 p16 h

theorem set_range {f : Nat → D} {n x : Nat} {v : D} : ((List.range n).map f).set x v = (List.range n).map fun k => if x = k then v else f k := by
  refine List.ext_getElem (by simp) fun i h1 h2 => ?_
  rw [List.getElem_set]
  simp
theorem cnt_snoc {n : Nat} {kd : Str} {b m t k x p : Nat} {l : List (List Nat)} {r : List Nat} (e : rdB n kd b m t r = some (x, p)) : cnt n kd b m t k (l ++ [r]) = if x = k then cnt n kd b m t k l + 1 else cnt n kd b m t k l := by
  unfold cnt
  rw [List.countP_append, List.countP_cons, e]
  show _ + (0 + if decide (some x = some k) = true then 1 else 0) = _
  by_cases z : x = k
  · rw [if_pos z, if_pos (decide_eq_true (by rw [← z]))]
  · rw [if_neg z, if_neg fun y => z (Option.some.inj (of_decide_eq_true y))]
    rfl
theorem law_counted (A : Ad) {nx : En → Prop} {rt : D → En → Prop} {rf : List D → En → Prop} {bk ct : En → Prop} {rs : Addr → En → Prop} (sc : D) (ms : List Int) (n : Nat) (kd : Str) (b m t : Nat) (hn : okN n) (hm : Mk kd b m t) (hN : b ^ (m * t) ≤ 700) (hmt : m * t ≤ 16)
    (h : ∀ s, rt (.bool true) (Sl.va sc :: s)) :
    wlaw_t13 A ⟨nx, rt, rf, bk, ct, rs⟩ [Sl.va sc, Sl.ow (ms.map PyData.int), Sl.va (nI n), Sl.va (nI (m * t)), Sl.va (.list ((rows b (m * t)).map rowD)), Sl.ow ((List.range n).map fun k => nI (cnt n kd b m t k [])), Sl.no, Sl.no, Sl.no, Sl.no, Sl.no, Sl.no, Sl.no, Sl.no, Sl.va (nI b), Sl.va (mnD kd m t), Sl.no, Sl.no, Sl.no] := by
  unfold wlaw_t13
  generalize hw : wlaw_t12 A = w12
  walk_at "w"
  dsimp only
  refine s_inv (fun i ρ' => ∃ s6 s16, ρ' = [Sl.va sc, Sl.ow (ms.map PyData.int), Sl.va (nI n), Sl.va (nI (m * t)), Sl.va (.list ((rows b (m * t)).map rowD)), Sl.ow ((List.range n).map fun k => nI (cnt n kd b m t k ((rows b (m * t)).take i))), s6, Sl.no, Sl.no, Sl.no, Sl.no, Sl.no, Sl.no, Sl.no, Sl.va (nI b), Sl.va (mnD kd m t), s16, Sl.no, Sl.no] ∧ Pl s6 ∧ Pl s16) ⟨.no, .no, rfl, .no, .no⟩ ?_ ?_
  · rintro i d ρ' hd ⟨s6, s16, rfl, p6, p16⟩
    obtain ⟨r, hr, rfl⟩ := get_map hd
    have hrm := rows_mem (List.mem_of_getElem? hr)
    obtain ⟨x, p, e, hx⟩ := rd_lt (r := r) hn hm hrm.2 (Nat.le_of_eq hrm.1.symm)
    have hRw : Rw b r := ⟨hrm.2, by rw [hrm.1]; omega⟩
    have n6 := p6.nio
    have n16 := p16.nio
    have hs : ((List.range n).map fun k => nI (cnt n kd b m t k ((rows b (m * t)).take i))).set x (.int (((cnt n kd b m t x ((rows b (m * t)).take i) : Nat) : Int) + 1)) = (List.range n).map fun k => nI (cnt n kd b m t k ((rows b (m * t)).take (i + 1))) := by
      rw [set_range, take_one hr]
      congr 1
      funext k
      rw [cnt_snoc e]
      by_cases z : x = k
      · rw [if_pos z, if_pos z, z]
        rfl
      · rw [if_neg z, if_neg z]
    walk_at "w"
    refine ⟨n, kd, b, m, t, r, rfl, hn, hm, hRw, ?_⟩
    rw [e]
    unfold prD
    walk_at "w"
    refine s_ixl _ (atI_range hx) ?_
    walk_at "w"
    refine ⟨x, ?_, ?_⟩
    · unfold ixN
      rw [List.length_map, List.length_range, if_pos (by omega), if_pos (by omega), Int.toNat_natCast]
    rw [hs]
    walk_at "w"
    refine ⟨(n : Int), kd, b, m, t, r, rfl, hm, hRw, fun z => absurd (okI_n hn) z, fun _ z => ?_, fun _ x' a' z => ?_⟩
    · rw [Int.toNat_natCast, e] at z
      cases z
    · rw [Int.toNat_natCast, e] at z
      cases z
      walk_at "w"
      refine ⟨prD_okS (some (x, p)), ?_⟩
      walk_at "w"
      exact ⟨_, _, rfl, .va, .va⟩
  · rintro ρ' ⟨s6, s16, rfl, p6, p16⟩
    rw [List.length_map, List.take_length]
    walk_at "w"
    subst hw
    exact law_chances A sc ms n kd b m t hn hm hN hmt p6 p16 h
theorem flat_rep {a : D} : ∀ n, (List.replicate n [a]).flatten = List.replicate n a
  | 0 => rfl
  | n + 1 => by rw [List.replicate_succ, List.flatten_cons, flat_rep n, List.replicate_succ]; rfl
theorem rep_range {a : D} (n : Nat) : List.replicate n a = (List.range n).map fun _ => a := by
  refine List.ext_getElem (by simp) fun i h1 h2 => ?_
  simp
theorem hwlaw (A : Ad) : ∀ pr R E, Slaw A pr R E → wlaw A (bxOf 1 R E) (pr ++ List.replicate 18 .no) := by
  rintro pr R E ⟨ns, hl, hb, rfl, h⟩
  unfold wlaw
  walk_at "st"
  walk_at "w"
  refine ⟨hl, hb, fun ms => ?_⟩
  walk_at "w"
  refine fun kd b m t ms1 hm m4 t4 b10 hN => ?_
  have hmt : m * t ≤ 16 := Nat.mul_le_mul m4 t4
  walk_at "w"
  refine ⟨ms1, 2, rfl, by decide, by decide, fun r1 ms2 a1 b1 => ?_⟩
  obtain ⟨c, hc0, hc9, hca⟩ := len_arg (x := 5) (y := 40) (by decide) (by decide) a1 b1
  walk_at "w"
  refine s_ixl _ hca ?_
  walk_at "w"
  refine ⟨ms2, c, rfl, hc0, by omega, fun r2 ms3 a2 b2 => ?_⟩
  obtain ⟨k2, rfl⟩ : ∃ k : Nat, r2 = k := ⟨r2.toNat, by omega⟩
  have hn : okN (1 + k2) := by unfold okN; omega
  walk_at "w"
  · rw [show (m : Int) * (t : Int) = ((m * t : Nat) : Int) from (Int.natCast_mul m t).symm, show (1 : Int) + (k2 : Int) = ((1 + k2 : Nat) : Int) by omega]
    refine ⟨b, m * t, rfl, hm.two, b10, hmt, hN, ?_⟩
    unfold wlaw_t14
    generalize hw : wlaw_t13 A = w13
    walk_at "w"
    refine ⟨ms3, kd, m, t, rfl, fun ms4 => ?_⟩
    walk_at "w"
    refine ⟨by omega, by omega, by decide, ?_⟩
    rw [Int.toNat_natCast, flat_rep, rep_range]
    walk_at "w"
    subst hw
    refine law_counted A _ ms4 (1 + k2) kd b m t hn hm hN hmt ?_
    intro s
    exact h
  · exact mulN 10 10 (by omega) (by omega) (by decide)

end Lw
namespace Lw
open PySem L2 Den Evl PySem.Spec PyProof.Rows Zn
variable [Tbs]
section
variable {P : Program} {w : World} {K : PySem.W.Frag} {mg : Str → Option Value} {base : Heap} {A : Ad}
theorem okis_number (T : Txt K mg A) (B : Bs base mg A) : FnOk P w K mg base (L2N.CX P w) 1 A.fis_number A.dis_number Pis_number (toSp K 3 (Sis_number A)) := fnS T.Fis_number scis_number (fun cdv Ar outer s H E hr => denis_number T B  cdv Ar outer s H E hr) (hwis_number A)
theorem okmade (T : Txt K mg A) (B : Bs base mg A) : FnOk P w K mg base (L2N.CX P w) 1 A.fmade A.dmade Pmade (toSp K 2 (Smade A)) := fnS T.Fmade scmade (fun cdv Ar outer s H E hr => denmade T B  cdv Ar outer s H E hr) (hwmade A)
theorem okto_power (T : Txt K mg A) (B : Bs base mg A) : FnOk P w K mg base (L2N.CX P w) 1 A.fto_power A.dto_power Pto_power (toSp K 2 (Sto_power A)) := fnS T.Fto_power scto_power (fun cdv Ar outer s H E hr => dento_power T B  cdv Ar outer s H E hr) (hwto_power A)
theorem ok_number_at (T : Txt K mg A) (B : Bs base mg A) : FnOk P w K mg base (L2N.CX P w) 1 A.f_number_at A.d_number_at P_number_at (toSp K 4 (S_number_at A)) := fnS T.F_number_at sc_number_at (fun cdv Ar outer s H E hr => den_number_at T B  cdv Ar outer s H E hr) (hw_number_at A)
theorem ok_least_number (T : Txt K mg A) (B : Bs base mg A) : FnOk P w K mg base (L2N.CX P w) 1 A.f_least_number A.d_least_number P_least_number (toSp K 3 (S_least_number A)) := fnS T.F_least_number sc_least_number (fun cdv Ar outer s H E hr => den_least_number T B  cdv Ar outer s H E hr) (hw_least_number A)
theorem ok_law_draws (T : Txt K mg A) (B : Bs base mg A) : FnOk P w K mg base (L2N.CX P w) 1 A.f_law_draws A.d_law_draws P_law_draws (toSpF K 1 (S_law_draws A)) := fnF T.F_law_draws sc_law_draws (fun cdv Ar outer s H E hr => den_law_draws T B  cdv Ar outer s H E hr) (hw_law_draws A)
theorem ok_law_take (T : Txt K mg A) (B : Bs base mg A) : FnOk P w K mg base (L2N.CX P w) 1 A.f_law_take A.d_law_take P_law_take (toSp K 2 (S_law_take A)) := fnS T.F_law_take sc_law_take (fun cdv Ar outer s H E hr => den_law_take T B  cdv Ar outer s H E hr) (hw_law_take A)
theorem ok_law_power (T : Txt K mg A) (B : Bs base mg A) : FnOk P w K mg base (L2N.CX P w) 1 A.f_law_power A.d_law_power P_law_power (toSp K 2 (S_law_power A)) := fnS T.F_law_power sc_law_power (fun cdv Ar outer s H E hr => den_law_power T B  cdv Ar outer s H E hr) (hw_law_power A)
theorem ok_law_told_OutOfRange (T : Txt K mg A) : FnT P w K mg base 1 A.f_law_told A.d_law_told P_law_told A.cOutOfRange "OutOfRange" := fnT T.F_law_told sc_law_told (fun cdv Ar outer s H p ho hr hz => den_law_told T T.XOutOfRange T.iOutOfRange_OutOfRange T.iOutOfRange_Malformed T.iOutOfRange_NotThere T.iOutOfRange_Refused T.iOutOfRange_TooMuch T.iOutOfRange_ValueError cdv Ar outer s H p ho hr hz) (fun a => hw_law_told_OutOfRange a)
theorem ok_law_told_Refused (T : Txt K mg A) : FnT P w K mg base 1 A.f_law_told A.d_law_told P_law_told A.cRefused "Refused" := fnT T.F_law_told sc_law_told (fun cdv Ar outer s H p ho hr hz => den_law_told T T.XRefused T.iRefused_OutOfRange T.iRefused_Malformed T.iRefused_NotThere T.iRefused_Refused T.iRefused_TooMuch T.iRefused_ValueError cdv Ar outer s H p ho hr hz) (fun a => hw_law_told_Refused a)
theorem ok_law_told (T : Txt K mg A) : ∀ c t, nm A c = some t → FnT P w K mg base 1 A.f_law_told A.d_law_told P_law_told c t := fun c t h => by
  unfold nm at h
  by_cases eOutOfRange : c = A.cOutOfRange
  · rw [if_pos eOutOfRange] at h; cases h; rw [eOutOfRange]; exact ok_law_told_OutOfRange T
  rw [if_neg eOutOfRange] at h
  by_cases eRefused : c = A.cRefused
  · rw [if_pos eRefused] at h; cases h; rw [eRefused]; exact ok_law_told_Refused T
  rw [if_neg eRefused] at h
  cases h
theorem ok_law_lowest (T : Txt K mg A) (B : Bs base mg A) : FnOk P w K mg base (L2N.CX P w) 1 A.f_law_lowest A.d_law_lowest P_law_lowest (toSp K 2 (S_law_lowest A)) := fnS T.F_law_lowest sc_law_lowest (fun cdv Ar outer s H E hr => den_law_lowest T B  cdv Ar outer s H E hr) (hw_law_lowest A)
theorem ok_law_rows (T : Txt K mg A) (B : Bs base mg A) : FnOk P w K mg base (L2N.CX P w) 1 A.f_law_rows A.d_law_rows P_law_rows (toSp K 2 (S_law_rows A)) := fnS T.F_law_rows sc_law_rows (fun cdv Ar outer s H E hr => den_law_rows T B  cdv Ar outer s H E hr) (hw_law_rows A)
theorem ok_law_fits (T : Txt K mg A) (B : Bs base mg A) : FnOk P w K mg base (L2N.CX P w) 1 A.f_law_fits A.d_law_fits P_law_fits (toSp K 1 (S_law_fits A)) := fnS T.F_law_fits sc_law_fits (fun cdv Ar outer s H E hr => den_law_fits T B  cdv Ar outer s H E hr) (hw_law_fits A)
theorem okis_manner (T : Txt K mg A) (B : Bs base mg A) : FnOk P w K mg base (L2N.CX P w) 2 A.fis_manner A.dis_manner Pis_manner (toSp K 1 (Sis_manner A)) := fnS T.Fis_manner scis_manner (fun cdv Ar outer s H E hr => denis_manner T B (okis_number T B) cdv Ar outer s H E hr) (hwis_manner A)
theorem okis_bound (T : Txt K mg A) (B : Bs base mg A) : FnOk P w K mg base (L2N.CX P w) 2 A.fis_bound A.dis_bound Pis_bound (toSp K 1 (Sis_bound A)) := fnS T.Fis_bound scis_bound (fun cdv Ar outer s H E hr => denis_bound T B (okis_number T B) cdv Ar outer s H E hr) (hwis_bound A)
theorem okread_below (T : Txt K mg A) (B : Bs base mg A) : FnOk P w K mg base (L2N.CX P w) 2 A.fread_below A.dread_below Pread_below (toSp K 5 (Sread_below A)) := fnS T.Fread_below scread_below (fun cdv Ar outer s H E hr => denread_below T B (okto_power T B) (ok_number_at T B) cdv Ar outer s H E hr) (hwread_below A)
theorem okwhole_below (T : Txt K mg A) (B : Bs base mg A) : FnOk P w K mg base (L2N.CX P w) 2 A.fwhole_below A.dwhole_below Pwhole_below (toSp K 3 (Swhole_below A)) := fnS T.Fwhole_below scwhole_below (fun cdv Ar outer s H E hr => denwhole_below T B (okto_power T B) cdv Ar outer s H E hr) (hwwhole_below A)
theorem okweight_between (T : Txt K mg A) (B : Bs base mg A) : FnOk P w K mg base (L2N.CX P w) 2 A.fweight_between A.dweight_between Pweight_between (toSp K 5 (Sweight_between A)) := fnS T.Fweight_between scweight_between (fun cdv Ar outer s H E hr => denweight_between T B (okto_power T B) (ok_least_number T B) cdv Ar outer s H E hr) (hwweight_between A)
theorem ok_law_plus (T : Txt K mg A) (B : Bs base mg A) : FnOk P w K mg base (L2N.CX P w) 2 A.f_law_plus A.d_law_plus P_law_plus (toSp K 2 (S_law_plus A)) := fnS T.F_law_plus sc_law_plus (fun cdv Ar outer s H E hr => den_law_plus T B (ok_law_lowest T B) cdv Ar outer s H E hr) (hw_law_plus A)
theorem ok_law_below (T : Txt K mg A) (B : Bs base mg A) : FnOk P w K mg base (L2N.CX P w) 2 A.f_law_below A.d_law_below P_law_below (toSp K 5 (S_law_below A)) := fnS T.F_law_below sc_law_below (fun cdv Ar outer s H E hr => den_law_below T B (ok_law_power T B) cdv Ar outer s H E hr) (hw_law_below A)
theorem ok_law_manner (T : Txt K mg A) (B : Bs base mg A) : FnOk P w K mg base (L2N.CX P w) 2 A.f_law_manner A.d_law_manner P_law_manner (toSp K 2 (S_law_manner A)) := fnS T.F_law_manner sc_law_manner (fun cdv Ar outer s H E hr => den_law_manner T B (ok_law_take T B) (ok_law_power T B) cdv Ar outer s H E hr) (hw_law_manner A)
theorem okcheck_bound (T : Txt K mg A) (B : Bs base mg A) : FnOk P w K mg base (L2N.CX P w) 3 A.fcheck_bound A.dcheck_bound Pcheck_bound (toSp K 1 (Scheck_bound A)) := fnS T.Fcheck_bound sccheck_bound (fun cdv Ar outer s H E hr => dencheck_bound T B (okis_bound T B) cdv Ar outer s H E hr) (hwcheck_bound A)
theorem okdraw_below (T : Txt K mg A) (B : Bs base mg A) : FnOk P w K mg base (L2N.CX P w) 4 A.fdraw_below A.ddraw_below Pdraw_below (toSp K 4 (Sdraw_below A)) := fnS T.Fdraw_below scdraw_below (fun cdv Ar outer s H E hr => dendraw_below T B (okread_below T B) (okcheck_bound T B) cdv Ar outer s H E hr) (hwdraw_below A)
theorem okchance_below (T : Txt K mg A) (B : Bs base mg A) : FnOk P w K mg base (L2N.CX P w) 4 A.fchance_below A.dchance_below Pchance_below (toSp K 4 (Schance_below A)) := fnS T.Fchance_below scchance_below (fun cdv Ar outer s H E hr => denchance_below T B (okmade T B) (okwhole_below T B) (okweight_between T B) (okcheck_bound T B) cdv Ar outer s H E hr) (hwchance_below A)
theorem ok_law_same (T : Txt K mg A) (B : Bs base mg A) : ∀ d, FnOk P w K mg base (L2N.CX P w) (1 + d) A.f_law_same A.d_law_same P_law_same (toSp K 2 (S_law_same d A))
  | 0 => fn_none fun _ _ _ h => h
  | d + 1 => fnS T.F_law_same sc_law_same (fun cdv Ar outer s H E hr => den_law_same T B d (ok_law_same T B d) cdv Ar outer s H E hr) (hw_law_same d A)
theorem ok_law_try (T : Txt K mg A) (B : Bs base mg A) : FnOk P w K mg base (L2N.CX P w) 5 A.f_law_try A.d_law_try P_law_try (toSp K 5 (S_law_try A)) := fnS T.F_law_try sc_law_try (fun cdv Ar outer s H E hr => den_law_try T B (ok_law_told T) (okdraw_below T B) (okchance_below T B) cdv Ar outer s H E hr) (hw_law_try A (ne_RO T))
theorem ok_law_are_judged (T : Txt K mg A) (B : Bs base mg A) : FnOk P w K mg base (L2N.CX P w) 6 A.f_law_are_judged A.d_law_are_judged P_law_are_judged (toSp K 2 (S_law_are_judged A)) := fnS T.F_law_are_judged sc_law_are_judged (fun cdv Ar outer s H E hr => den_law_are_judged T B (ok_law_take T B) (ok_law_fits T B) (okis_manner T B) (ok_law_same T B 4) cdv Ar outer s H E hr) (hw_law_are_judged A)
theorem oklaw (T : Txt K mg A) (B : Bs base mg A) : FnOk P w K mg base (L2N.CX P w) 7 A.flaw A.dlaw Plaw (toSp K 1 (Slaw A)) := fnS T.Flaw sclaw (fun cdv Ar outer s H E hr => denlaw T B (ok_law_draws T B) (ok_law_take T B) (ok_law_lowest T B) (ok_law_rows T B) (ok_law_plus T B) (ok_law_below T B) (ok_law_manner T B) (okdraw_below T B) (okchance_below T B) (ok_law_same T B 4) (ok_law_try T B) (ok_law_are_judged T B) cdv Ar outer s H E hr) (hwlaw A)
omit [Tbs] in
theorem all_mk {l : PySem.W.OpenLaw} {w : World} {K : PySem.W.Frag} {h : Heap} {mg : Str → Option Value} {q : Program} {fa f0 f1 f2 f3 f4 f5 f6 f7 f8 f9 f10 f11 f12 f13 f14 f15 f16 f17 f18 f19 f20 f21 f22 f23 f24 f25 f26 cLotError cOutOfRange cMalformed cNotThere cRefused cTooMuch : Addr} (X : K.In h) (G : h.Ns mainGlobals mg) (hfa : mg "law" = some (.ref fa)) (T0 : ∃ loose mean mb, Top q loose mean mg mb h)
    {od0 an0 : Option Addr} {sl0 : Array (Option Value)} {oc0 kV0 dc0 pm0 cd0 ct0 : Value} {od1 an1 : Option Addr} {sl1 : Array (Option Value)} {oc1 kV1 dc1 pm1 cd1 ct1 : Value} {od2 an2 : Option Addr} {sl2 : Array (Option Value)} {oc2 kV2 dc2 pm2 cd2 ct2 : Value} {od3 an3 : Option Addr} {sl3 : Array (Option Value)} {oc3 kV3 dc3 pm3 cd3 ct3 : Value} {od4 an4 : Option Addr} {sl4 : Array (Option Value)} {oc4 kV4 dc4 pm4 cd4 ct4 : Value} {od5 an5 : Option Addr} {sl5 : Array (Option Value)} {oc5 kV5 dc5 pm5 cd5 ct5 : Value} {od6 an6 : Option Addr} {sl6 : Array (Option Value)} {oc6 kV6 dc6 pm6 cd6 ct6 : Value} {od7 an7 : Option Addr} {sl7 : Array (Option Value)} {oc7 kV7 dc7 pm7 cd7 ct7 : Value} {od8 an8 : Option Addr} {sl8 : Array (Option Value)} {oc8 kV8 dc8 pm8 cd8 ct8 : Value} {od9 an9 : Option Addr} {sl9 : Array (Option Value)} {oc9 kV9 dc9 pm9 cd9 ct9 : Value} {od10 an10 : Option Addr} {sl10 : Array (Option Value)} {oc10 kV10 dc10 pm10 cd10 ct10 : Value} {od11 an11 : Option Addr} {sl11 : Array (Option Value)} {oc11 kV11 dc11 pm11 cd11 ct11 : Value} {od12 an12 : Option Addr} {sl12 : Array (Option Value)} {oc12 kV12 dc12 pm12 cd12 ct12 : Value} {od13 an13 : Option Addr} {sl13 : Array (Option Value)} {oc13 kV13 dc13 pm13 cd13 ct13 : Value} {od14 an14 : Option Addr} {sl14 : Array (Option Value)} {oc14 kV14 dc14 pm14 cd14 ct14 : Value} {od15 an15 : Option Addr} {sl15 : Array (Option Value)} {oc15 kV15 dc15 pm15 cd15 ct15 : Value} {od16 an16 : Option Addr} {sl16 : Array (Option Value)} {oc16 kV16 dc16 pm16 cd16 ct16 : Value} {od17 an17 : Option Addr} {sl17 : Array (Option Value)} {oc17 kV17 dc17 pm17 cd17 ct17 : Value} {od18 an18 : Option Addr} {sl18 : Array (Option Value)} {oc18 kV18 dc18 pm18 cd18 ct18 : Value} {od19 an19 : Option Addr} {sl19 : Array (Option Value)} {oc19 kV19 dc19 pm19 cd19 ct19 : Value} {od20 an20 : Option Addr} {sl20 : Array (Option Value)} {oc20 kV20 dc20 pm20 cd20 ct20 : Value} {od21 an21 : Option Addr} {sl21 : Array (Option Value)} {oc21 kV21 dc21 pm21 cd21 ct21 : Value} {od22 an22 : Option Addr} {sl22 : Array (Option Value)} {oc22 kV22 dc22 pm22 cd22 ct22 : Value} {od23 an23 : Option Addr} {sl23 : Array (Option Value)} {oc23 kV23 dc23 pm23 cd23 ct23 : Value} {od24 an24 : Option Addr} {sl24 : Array (Option Value)} {oc24 kV24 dc24 pm24 cd24 ct24 : Value} {od25 an25 : Option Addr} {sl25 : Array (Option Value)} {oc25 kV25 dc25 pm25 cd25 ct25 : Value} {od26 an26 : Option Addr} {sl26 : Array (Option Value)} {oc26 kV26 dc26 pm26 cd26 ct26 : Value} {t_MOST_BOUND : Tok} {t_MOST_DIGITS : Tok} {t_MOST_TRIES : Tok}
    (a0 : PySem.W.nsIn K mainGlobals "is_number" = some (some (.ref f0)))
    (l0 : K.lookup f0 = some ⟨oc0, od0, .func (PySem.W.fnOf "is_number" "is_number" (defArgs sis_number) (defBody sis_number) (defScope sis_number) .none kV0 dc0 pm0 an0 cd0 ct0), sl0⟩)
    (e0 : PySem.W.codeIn K cd0 "is_number" = true)
    (k0 : PySem.W.keepIn K (.ref f0) = true)
    (a1 : PySem.W.nsIn K mainGlobals "made" = some (some (.ref f1)))
    (l1 : K.lookup f1 = some ⟨oc1, od1, .func (PySem.W.fnOf "made" "made" (defArgs smade) (defBody smade) (defScope smade) .none kV1 dc1 pm1 an1 cd1 ct1), sl1⟩)
    (e1 : PySem.W.codeIn K cd1 "made" = true)
    (k1 : PySem.W.keepIn K (.ref f1) = true)
    (a2 : PySem.W.nsIn K mainGlobals "to_power" = some (some (.ref f2)))
    (l2 : K.lookup f2 = some ⟨oc2, od2, .func (PySem.W.fnOf "to_power" "to_power" (defArgs sto_power) (defBody sto_power) (defScope sto_power) .none kV2 dc2 pm2 an2 cd2 ct2), sl2⟩)
    (e2 : PySem.W.codeIn K cd2 "to_power" = true)
    (k2 : PySem.W.keepIn K (.ref f2) = true)
    (a3 : PySem.W.nsIn K mainGlobals "_number_at" = some (some (.ref f3)))
    (l3 : K.lookup f3 = some ⟨oc3, od3, .func (PySem.W.fnOf "_number_at" "_number_at" (defArgs s_number_at) (defBody s_number_at) (defScope s_number_at) .none kV3 dc3 pm3 an3 cd3 ct3), sl3⟩)
    (e3 : PySem.W.codeIn K cd3 "_number_at" = true)
    (k3 : PySem.W.keepIn K (.ref f3) = true)
    (a4 : PySem.W.nsIn K mainGlobals "_least_number" = some (some (.ref f4)))
    (l4 : K.lookup f4 = some ⟨oc4, od4, .func (PySem.W.fnOf "_least_number" "_least_number" (defArgs s_least_number) (defBody s_least_number) (defScope s_least_number) .none kV4 dc4 pm4 an4 cd4 ct4), sl4⟩)
    (e4 : PySem.W.codeIn K cd4 "_least_number" = true)
    (k4 : PySem.W.keepIn K (.ref f4) = true)
    (a5 : PySem.W.nsIn K mainGlobals "_law_draws" = some (some (.ref f5)))
    (l5 : K.lookup f5 = some ⟨oc5, od5, .func (PySem.W.fnOf "_law_draws" "_law_draws" (defArgs s_law_draws) (defBody s_law_draws) (defScope s_law_draws) .none kV5 dc5 pm5 an5 cd5 ct5), sl5⟩)
    (e5 : PySem.W.codeIn K cd5 "_law_draws" = true)
    (k5 : PySem.W.keepIn K (.ref f5) = true)
    (a6 : PySem.W.nsIn K mainGlobals "_law_take" = some (some (.ref f6)))
    (l6 : K.lookup f6 = some ⟨oc6, od6, .func (PySem.W.fnOf "_law_take" "_law_take" (defArgs s_law_take) (defBody s_law_take) (defScope s_law_take) .none kV6 dc6 pm6 an6 cd6 ct6), sl6⟩)
    (e6 : PySem.W.codeIn K cd6 "_law_take" = true)
    (k6 : PySem.W.keepIn K (.ref f6) = true)
    (a7 : PySem.W.nsIn K mainGlobals "_law_power" = some (some (.ref f7)))
    (l7 : K.lookup f7 = some ⟨oc7, od7, .func (PySem.W.fnOf "_law_power" "_law_power" (defArgs s_law_power) (defBody s_law_power) (defScope s_law_power) .none kV7 dc7 pm7 an7 cd7 ct7), sl7⟩)
    (e7 : PySem.W.codeIn K cd7 "_law_power" = true)
    (k7 : PySem.W.keepIn K (.ref f7) = true)
    (a8 : PySem.W.nsIn K mainGlobals "_law_told" = some (some (.ref f8)))
    (l8 : K.lookup f8 = some ⟨oc8, od8, .func (PySem.W.fnOf "_law_told" "_law_told" (defArgs s_law_told) (defBody s_law_told) (defScope s_law_told) .none kV8 dc8 pm8 an8 cd8 ct8), sl8⟩)
    (e8 : PySem.W.codeIn K cd8 "_law_told" = true)
    (k8 : PySem.W.keepIn K (.ref f8) = true)
    (a9 : PySem.W.nsIn K mainGlobals "_law_lowest" = some (some (.ref f9)))
    (l9 : K.lookup f9 = some ⟨oc9, od9, .func (PySem.W.fnOf "_law_lowest" "_law_lowest" (defArgs s_law_lowest) (defBody s_law_lowest) (defScope s_law_lowest) .none kV9 dc9 pm9 an9 cd9 ct9), sl9⟩)
    (e9 : PySem.W.codeIn K cd9 "_law_lowest" = true)
    (k9 : PySem.W.keepIn K (.ref f9) = true)
    (a10 : PySem.W.nsIn K mainGlobals "_law_rows" = some (some (.ref f10)))
    (l10 : K.lookup f10 = some ⟨oc10, od10, .func (PySem.W.fnOf "_law_rows" "_law_rows" (defArgs s_law_rows) (defBody s_law_rows) (defScope s_law_rows) .none kV10 dc10 pm10 an10 cd10 ct10), sl10⟩)
    (e10 : PySem.W.codeIn K cd10 "_law_rows" = true)
    (k10 : PySem.W.keepIn K (.ref f10) = true)
    (a11 : PySem.W.nsIn K mainGlobals "_law_fits" = some (some (.ref f11)))
    (l11 : K.lookup f11 = some ⟨oc11, od11, .func (PySem.W.fnOf "_law_fits" "_law_fits" (defArgs s_law_fits) (defBody s_law_fits) (defScope s_law_fits) .none kV11 dc11 pm11 an11 cd11 ct11), sl11⟩)
    (e11 : PySem.W.codeIn K cd11 "_law_fits" = true)
    (k11 : PySem.W.keepIn K (.ref f11) = true)
    (a12 : PySem.W.nsIn K mainGlobals "is_manner" = some (some (.ref f12)))
    (l12 : K.lookup f12 = some ⟨oc12, od12, .func (PySem.W.fnOf "is_manner" "is_manner" (defArgs sis_manner) (defBody sis_manner) (defScope sis_manner) .none kV12 dc12 pm12 an12 cd12 ct12), sl12⟩)
    (e12 : PySem.W.codeIn K cd12 "is_manner" = true)
    (k12 : PySem.W.keepIn K (.ref f12) = true)
    (a13 : PySem.W.nsIn K mainGlobals "is_bound" = some (some (.ref f13)))
    (l13 : K.lookup f13 = some ⟨oc13, od13, .func (PySem.W.fnOf "is_bound" "is_bound" (defArgs sis_bound) (defBody sis_bound) (defScope sis_bound) .none kV13 dc13 pm13 an13 cd13 ct13), sl13⟩)
    (e13 : PySem.W.codeIn K cd13 "is_bound" = true)
    (k13 : PySem.W.keepIn K (.ref f13) = true)
    (a14 : PySem.W.nsIn K mainGlobals "read_below" = some (some (.ref f14)))
    (l14 : K.lookup f14 = some ⟨oc14, od14, .func (PySem.W.fnOf "read_below" "read_below" (defArgs sread_below) (defBody sread_below) (defScope sread_below) .none kV14 dc14 pm14 an14 cd14 ct14), sl14⟩)
    (e14 : PySem.W.codeIn K cd14 "read_below" = true)
    (k14 : PySem.W.keepIn K (.ref f14) = true)
    (a15 : PySem.W.nsIn K mainGlobals "whole_below" = some (some (.ref f15)))
    (l15 : K.lookup f15 = some ⟨oc15, od15, .func (PySem.W.fnOf "whole_below" "whole_below" (defArgs swhole_below) (defBody swhole_below) (defScope swhole_below) .none kV15 dc15 pm15 an15 cd15 ct15), sl15⟩)
    (e15 : PySem.W.codeIn K cd15 "whole_below" = true)
    (k15 : PySem.W.keepIn K (.ref f15) = true)
    (a16 : PySem.W.nsIn K mainGlobals "weight_between" = some (some (.ref f16)))
    (l16 : K.lookup f16 = some ⟨oc16, od16, .func (PySem.W.fnOf "weight_between" "weight_between" (defArgs sweight_between) (defBody sweight_between) (defScope sweight_between) .none kV16 dc16 pm16 an16 cd16 ct16), sl16⟩)
    (e16 : PySem.W.codeIn K cd16 "weight_between" = true)
    (k16 : PySem.W.keepIn K (.ref f16) = true)
    (a17 : PySem.W.nsIn K mainGlobals "_law_plus" = some (some (.ref f17)))
    (l17 : K.lookup f17 = some ⟨oc17, od17, .func (PySem.W.fnOf "_law_plus" "_law_plus" (defArgs s_law_plus) (defBody s_law_plus) (defScope s_law_plus) .none kV17 dc17 pm17 an17 cd17 ct17), sl17⟩)
    (e17 : PySem.W.codeIn K cd17 "_law_plus" = true)
    (k17 : PySem.W.keepIn K (.ref f17) = true)
    (a18 : PySem.W.nsIn K mainGlobals "_law_below" = some (some (.ref f18)))
    (l18 : K.lookup f18 = some ⟨oc18, od18, .func (PySem.W.fnOf "_law_below" "_law_below" (defArgs s_law_below) (defBody s_law_below) (defScope s_law_below) .none kV18 dc18 pm18 an18 cd18 ct18), sl18⟩)
    (e18 : PySem.W.codeIn K cd18 "_law_below" = true)
    (k18 : PySem.W.keepIn K (.ref f18) = true)
    (a19 : PySem.W.nsIn K mainGlobals "_law_manner" = some (some (.ref f19)))
    (l19 : K.lookup f19 = some ⟨oc19, od19, .func (PySem.W.fnOf "_law_manner" "_law_manner" (defArgs s_law_manner) (defBody s_law_manner) (defScope s_law_manner) .none kV19 dc19 pm19 an19 cd19 ct19), sl19⟩)
    (e19 : PySem.W.codeIn K cd19 "_law_manner" = true)
    (k19 : PySem.W.keepIn K (.ref f19) = true)
    (a20 : PySem.W.nsIn K mainGlobals "check_bound" = some (some (.ref f20)))
    (l20 : K.lookup f20 = some ⟨oc20, od20, .func (PySem.W.fnOf "check_bound" "check_bound" (defArgs scheck_bound) (defBody scheck_bound) (defScope scheck_bound) .none kV20 dc20 pm20 an20 cd20 ct20), sl20⟩)
    (e20 : PySem.W.codeIn K cd20 "check_bound" = true)
    (k20 : PySem.W.keepIn K (.ref f20) = true)
    (a21 : PySem.W.nsIn K mainGlobals "draw_below" = some (some (.ref f21)))
    (l21 : K.lookup f21 = some ⟨oc21, od21, .func (PySem.W.fnOf "draw_below" "draw_below" (defArgs sdraw_below) (defBody sdraw_below) (defScope sdraw_below) .none kV21 dc21 pm21 an21 cd21 ct21), sl21⟩)
    (e21 : PySem.W.codeIn K cd21 "draw_below" = true)
    (k21 : PySem.W.keepIn K (.ref f21) = true)
    (a22 : PySem.W.nsIn K mainGlobals "chance_below" = some (some (.ref f22)))
    (l22 : K.lookup f22 = some ⟨oc22, od22, .func (PySem.W.fnOf "chance_below" "chance_below" (defArgs schance_below) (defBody schance_below) (defScope schance_below) .none kV22 dc22 pm22 an22 cd22 ct22), sl22⟩)
    (e22 : PySem.W.codeIn K cd22 "chance_below" = true)
    (k22 : PySem.W.keepIn K (.ref f22) = true)
    (a23 : PySem.W.nsIn K mainGlobals "_law_same" = some (some (.ref f23)))
    (l23 : K.lookup f23 = some ⟨oc23, od23, .func (PySem.W.fnOf "_law_same" "_law_same" (defArgs s_law_same) (defBody s_law_same) (defScope s_law_same) .none kV23 dc23 pm23 an23 cd23 ct23), sl23⟩)
    (e23 : PySem.W.codeIn K cd23 "_law_same" = true)
    (k23 : PySem.W.keepIn K (.ref f23) = true)
    (a24 : PySem.W.nsIn K mainGlobals "_law_try" = some (some (.ref f24)))
    (l24 : K.lookup f24 = some ⟨oc24, od24, .func (PySem.W.fnOf "_law_try" "_law_try" (defArgs s_law_try) (defBody s_law_try) (defScope s_law_try) .none kV24 dc24 pm24 an24 cd24 ct24), sl24⟩)
    (e24 : PySem.W.codeIn K cd24 "_law_try" = true)
    (k24 : PySem.W.keepIn K (.ref f24) = true)
    (a25 : PySem.W.nsIn K mainGlobals "_law_are_judged" = some (some (.ref f25)))
    (l25 : K.lookup f25 = some ⟨oc25, od25, .func (PySem.W.fnOf "_law_are_judged" "_law_are_judged" (defArgs s_law_are_judged) (defBody s_law_are_judged) (defScope s_law_are_judged) .none kV25 dc25 pm25 an25 cd25 ct25), sl25⟩)
    (e25 : PySem.W.codeIn K cd25 "_law_are_judged" = true)
    (k25 : PySem.W.keepIn K (.ref f25) = true)
    (a26 : PySem.W.nsIn K mainGlobals "law" = some (some (.ref f26)))
    (l26 : K.lookup f26 = some ⟨oc26, od26, .func (PySem.W.fnOf "law" "law" (defArgs slaw) (defBody slaw) (defScope slaw) .none kV26 dc26 pm26 an26 cd26 ct26), sl26⟩)
    (e26 : PySem.W.codeIn K cd26 "law" = true)
    (k26 : PySem.W.keepIn K (.ref f26) = true)
    (acLotError : PySem.W.nsIn K mainGlobals "LotError" = some (some (.ref cLotError)))
    (acOutOfRange : PySem.W.nsIn K mainGlobals "OutOfRange" = some (some (.ref cOutOfRange)))
    (acMalformed : PySem.W.nsIn K mainGlobals "Malformed" = some (some (.ref cMalformed)))
    (acNotThere : PySem.W.nsIn K mainGlobals "NotThere" = some (some (.ref cNotThere)))
    (acRefused : PySem.W.nsIn K mainGlobals "Refused" = some (some (.ref cRefused)))
    (acTooMuch : PySem.W.nsIn K mainGlobals "TooMuch" = some (some (.ref cTooMuch)))
    (z_ValueError : PySem.W.nsIn K mainGlobals "ValueError" = some none)
    (z_abs : PySem.W.nsIn K mainGlobals "abs" = some none)
    (z_bool : PySem.W.nsIn K mainGlobals "bool" = some none)
    (z_int : PySem.W.nsIn K mainGlobals "int" = some none)
    (z_isinstance : PySem.W.nsIn K mainGlobals "isinstance" = some none)
    (z_len : PySem.W.nsIn K mainGlobals "len" = some none)
    (z_list : PySem.W.nsIn K mainGlobals "list" = some none)
    (z_min : PySem.W.nsIn K mainGlobals "min" = some none)
    (z_range : PySem.W.nsIn K mainGlobals "range" = some none)
    (z_reversed : PySem.W.nsIn K mainGlobals "reversed" = some none)
    (z_str : PySem.W.nsIn K mainGlobals "str" = some none)
    (z_tuple : PySem.W.nsIn K mainGlobals "tuple" = some none)
    (kk_MOST_BOUND : PySem.W.nsIn K mainGlobals "_MOST_BOUND" = some (some (.int 1000000000000000 t_MOST_BOUND)))
    (kk_MOST_DIGITS : PySem.W.nsIn K mainGlobals "_MOST_DIGITS" = some (some (.int 64 t_MOST_DIGITS)))
    (kk_MOST_TRIES : PySem.W.nsIn K mainGlobals "_MOST_TRIES" = some (some (.int 64 t_MOST_TRIES)))
    (gg : PySem.W.nsIn K mainGlobals "gcd" = some (some (.builtin "math.gcd")))
    (xOutOfRange : PySem.W.excIn K cOutOfRange [.type "ValueError", .type "Exception", .type "BaseException", .type "object"] "ValueError.__new__" = true)
    (qOutOfRange : PySem.W.keepIn K (.ref cOutOfRange) = true)
    (uOutOfRange : PySem.W.subIn K (.ref cOutOfRange) (.type "BaseException") = some true)
    (tOutOfRange : PySem.W.typeIn K (.ref cOutOfRange) = some (.type "type"))
    (sOutOfRange : PySem.W.subIn K (.ref cOutOfRange) (.ref cLotError) = some true)
    (XaOutOfRange : PySem.W.findIn K (.ref cOutOfRange) "__getattribute__" = some (some (.builtin "BaseException.__getattribute__")))
    (XbOutOfRange : PySem.W.findIn K (.ref cOutOfRange) "__getattr__" = some none)
    (XdOutOfRange : PySem.W.hasDictIn K cOutOfRange = true)
    (XeOutOfRange : PySem.W.findIn K (.ref cOutOfRange) "__class__" = some (some (.builtin "object.__class__")))
    (XhOutOfRange : PySem.W.mroIn K cOutOfRange (.type "object") = some true)
    (iOutOfRange_OutOfRange : PySem.W.kitOne K (.ref cOutOfRange) (.ref cOutOfRange) = some true)
    (iOutOfRange_Malformed : PySem.W.kitOne K (.ref cOutOfRange) (.ref cMalformed) = some false)
    (iOutOfRange_NotThere : PySem.W.kitOne K (.ref cOutOfRange) (.ref cNotThere) = some false)
    (iOutOfRange_Refused : PySem.W.kitOne K (.ref cOutOfRange) (.ref cRefused) = some false)
    (iOutOfRange_TooMuch : PySem.W.kitOne K (.ref cOutOfRange) (.ref cTooMuch) = some false)
    (iOutOfRange_ValueError : PySem.W.kitOne K (.ref cOutOfRange) (.type "ValueError") = some true)
    (xRefused : PySem.W.excIn K cRefused [.type "ValueError", .type "Exception", .type "BaseException", .type "object"] "ValueError.__new__" = true)
    (qRefused : PySem.W.keepIn K (.ref cRefused) = true)
    (uRefused : PySem.W.subIn K (.ref cRefused) (.type "BaseException") = some true)
    (tRefused : PySem.W.typeIn K (.ref cRefused) = some (.type "type"))
    (sRefused : PySem.W.subIn K (.ref cRefused) (.ref cLotError) = some true)
    (XaRefused : PySem.W.findIn K (.ref cRefused) "__getattribute__" = some (some (.builtin "BaseException.__getattribute__")))
    (XbRefused : PySem.W.findIn K (.ref cRefused) "__getattr__" = some none)
    (XdRefused : PySem.W.hasDictIn K cRefused = true)
    (XeRefused : PySem.W.findIn K (.ref cRefused) "__class__" = some (some (.builtin "object.__class__")))
    (XhRefused : PySem.W.mroIn K cRefused (.type "object") = some true)
    (iRefused_OutOfRange : PySem.W.kitOne K (.ref cRefused) (.ref cOutOfRange) = some false)
    (iRefused_Malformed : PySem.W.kitOne K (.ref cRefused) (.ref cMalformed) = some false)
    (iRefused_NotThere : PySem.W.kitOne K (.ref cRefused) (.ref cNotThere) = some false)
    (iRefused_Refused : PySem.W.kitOne K (.ref cRefused) (.ref cRefused) = some true)
    (iRefused_TooMuch : PySem.W.kitOne K (.ref cRefused) (.ref cTooMuch) = some false)
    (iRefused_ValueError : PySem.W.kitOne K (.ref cRefused) (.type "ValueError") = some true)
    (Lu : PySem.W.subIn K (.ref cLotError) (.type "BaseException") = some true)
    (Ld : PySem.W.hasDictIn K cLotError = true)
    (Lt : PySem.W.typeIn K (.ref cLotError) = some (.type "type"))
    (On : PySem.W.specialIn K (.builtin "object.__class__") "__get__" = some (some (.builtin "getset_descriptor.__get__")))
    (Ot : PySem.W.takesIn K (.builtin "object.__class__") = some true)
    : LamX.LawAtS l w K (L2N.CX l.prog w) 7 63 "script" mg fa h := by
  obtain ⟨_, _, _, T0⟩ := T0
  have e := hfa.symm.trans (PySem.W.mg_of X G a26)
  cases e
  have F0 := fun_mk (st := sis_number) l0 e0 k0
  have B0 := F0.binds (ps := Pis_number) fun _ _ _ _ _ _ us hl => match us, hl with | [_, _, _], _ => rfl
  have F1 := fun_mk (st := smade) l1 e1 k1
  have B1 := F1.binds (ps := Pmade) fun _ _ _ _ _ _ us hl => match us, hl with | [_, _], _ => rfl
  have F2 := fun_mk (st := sto_power) l2 e2 k2
  have B2 := F2.binds (ps := Pto_power) fun _ _ _ _ _ _ us hl => match us, hl with | [_, _], _ => rfl
  have F3 := fun_mk (st := s_number_at) l3 e3 k3
  have B3 := F3.binds (ps := P_number_at) fun _ _ _ _ _ _ us hl => match us, hl with | [_, _, _, _], _ => rfl
  have F4 := fun_mk (st := s_least_number) l4 e4 k4
  have B4 := F4.binds (ps := P_least_number) fun _ _ _ _ _ _ us hl => match us, hl with | [_, _, _], _ => rfl
  have F5 := fun_mk (st := s_law_draws) l5 e5 k5
  have B5 := F5.binds (ps := P_law_draws) fun _ _ _ _ _ _ us hl => match us, hl with | [_], _ => rfl
  have F6 := fun_mk (st := s_law_take) l6 e6 k6
  have B6 := F6.binds (ps := P_law_take) fun _ _ _ _ _ _ us hl => match us, hl with | [_, _], _ => rfl
  have F7 := fun_mk (st := s_law_power) l7 e7 k7
  have B7 := F7.binds (ps := P_law_power) fun _ _ _ _ _ _ us hl => match us, hl with | [_, _], _ => rfl
  have F8 := fun_mk (st := s_law_told) l8 e8 k8
  have B8 := F8.binds (ps := P_law_told) fun _ _ _ _ _ _ us hl => match us, hl with | [_], _ => rfl
  have F9 := fun_mk (st := s_law_lowest) l9 e9 k9
  have B9 := F9.binds (ps := P_law_lowest) fun _ _ _ _ _ _ us hl => match us, hl with | [_, _], _ => rfl
  have F10 := fun_mk (st := s_law_rows) l10 e10 k10
  have B10 := F10.binds (ps := P_law_rows) fun _ _ _ _ _ _ us hl => match us, hl with | [_, _], _ => rfl
  have F11 := fun_mk (st := s_law_fits) l11 e11 k11
  have B11 := F11.binds (ps := P_law_fits) fun _ _ _ _ _ _ us hl => match us, hl with | [_], _ => rfl
  have F12 := fun_mk (st := sis_manner) l12 e12 k12
  have B12 := F12.binds (ps := Pis_manner) fun _ _ _ _ _ _ us hl => match us, hl with | [_], _ => rfl
  have F13 := fun_mk (st := sis_bound) l13 e13 k13
  have B13 := F13.binds (ps := Pis_bound) fun _ _ _ _ _ _ us hl => match us, hl with | [_], _ => rfl
  have F14 := fun_mk (st := sread_below) l14 e14 k14
  have B14 := F14.binds (ps := Pread_below) fun _ _ _ _ _ _ us hl => match us, hl with | [_, _, _, _, _], _ => rfl
  have F15 := fun_mk (st := swhole_below) l15 e15 k15
  have B15 := F15.binds (ps := Pwhole_below) fun _ _ _ _ _ _ us hl => match us, hl with | [_, _, _], _ => rfl
  have F16 := fun_mk (st := sweight_between) l16 e16 k16
  have B16 := F16.binds (ps := Pweight_between) fun _ _ _ _ _ _ us hl => match us, hl with | [_, _, _, _, _], _ => rfl
  have F17 := fun_mk (st := s_law_plus) l17 e17 k17
  have B17 := F17.binds (ps := P_law_plus) fun _ _ _ _ _ _ us hl => match us, hl with | [_, _], _ => rfl
  have F18 := fun_mk (st := s_law_below) l18 e18 k18
  have B18 := F18.binds (ps := P_law_below) fun _ _ _ _ _ _ us hl => match us, hl with | [_, _, _, _, _], _ => rfl
  have F19 := fun_mk (st := s_law_manner) l19 e19 k19
  have B19 := F19.binds (ps := P_law_manner) fun _ _ _ _ _ _ us hl => match us, hl with | [_, _], _ => rfl
  have F20 := fun_mk (st := scheck_bound) l20 e20 k20
  have B20 := F20.binds (ps := Pcheck_bound) fun _ _ _ _ _ _ us hl => match us, hl with | [_], _ => rfl
  have F21 := fun_mk (st := sdraw_below) l21 e21 k21
  have B21 := F21.binds (ps := Pdraw_below) fun _ _ _ _ _ _ us hl => match us, hl with | [_, _, _, _], _ => rfl
  have F22 := fun_mk (st := schance_below) l22 e22 k22
  have B22 := F22.binds (ps := Pchance_below) fun _ _ _ _ _ _ us hl => match us, hl with | [_, _, _, _], _ => rfl
  have F23 := fun_mk (st := s_law_same) l23 e23 k23
  have B23 := F23.binds (ps := P_law_same) fun _ _ _ _ _ _ us hl => match us, hl with | [_, _], _ => rfl
  have F24 := fun_mk (st := s_law_try) l24 e24 k24
  have B24 := F24.binds (ps := P_law_try) fun _ _ _ _ _ _ us hl => match us, hl with | [_, _, _, _, _], _ => rfl
  have F25 := fun_mk (st := s_law_are_judged) l25 e25 k25
  have B25 := F25.binds (ps := P_law_are_judged) fun _ _ _ _ _ _ us hl => match us, hl with | [_, _], _ => rfl
  have F26 := fun_mk (st := slaw) l26 e26 k26
  have B26 := F26.binds (ps := Plaw) fun _ _ _ _ _ _ us hl => match us, hl with | [_], _ => rfl
  letI inst : Tbs := ⟨fun b => b ∈ ([] : List (Addr × Addr)).map (·.2)⟩
  have T := Txt.mk (K := K) (mg := mg) (A := Ad.mk cLotError cOutOfRange cMalformed cNotThere cRefused cTooMuch f0 _ f1 _ f2 _ f3 _ f4 _ f5 _ f6 _ f7 _ f8 _ f9 _ f10 _ f11 _ f12 _ f13 _ f14 _ f15 _ f16 _ f17 _ f18 _ f19 _ f20 _ f21 _ f22 _ f23 _ f24 _ f25 _ fa _)
    (PySem.W.mg_of X G a0)
    k0
    B0
    F0
    (PySem.W.mg_of X G a1)
    k1
    B1
    F1
    (PySem.W.mg_of X G a2)
    k2
    B2
    F2
    (PySem.W.mg_of X G a3)
    k3
    B3
    F3
    (PySem.W.mg_of X G a4)
    k4
    B4
    F4
    (PySem.W.mg_of X G a5)
    k5
    B5
    F5
    (PySem.W.mg_of X G a6)
    k6
    B6
    F6
    (PySem.W.mg_of X G a7)
    k7
    B7
    F7
    (PySem.W.mg_of X G a8)
    k8
    B8
    F8
    (PySem.W.mg_of X G a9)
    k9
    B9
    F9
    (PySem.W.mg_of X G a10)
    k10
    B10
    F10
    (PySem.W.mg_of X G a11)
    k11
    B11
    F11
    (PySem.W.mg_of X G a12)
    k12
    B12
    F12
    (PySem.W.mg_of X G a13)
    k13
    B13
    F13
    (PySem.W.mg_of X G a14)
    k14
    B14
    F14
    (PySem.W.mg_of X G a15)
    k15
    B15
    F15
    (PySem.W.mg_of X G a16)
    k16
    B16
    F16
    (PySem.W.mg_of X G a17)
    k17
    B17
    F17
    (PySem.W.mg_of X G a18)
    k18
    B18
    F18
    (PySem.W.mg_of X G a19)
    k19
    B19
    F19
    (PySem.W.mg_of X G a20)
    k20
    B20
    F20
    (PySem.W.mg_of X G a21)
    k21
    B21
    F21
    (PySem.W.mg_of X G a22)
    k22
    B22
    F22
    (PySem.W.mg_of X G a23)
    k23
    B23
    F23
    (PySem.W.mg_of X G a24)
    k24
    B24
    F24
    (PySem.W.mg_of X G a25)
    k25
    B25
    F25
    (PySem.W.mg_of X G a26)
    k26
    B26
    F26
    (PySem.W.mg_none_of X G z_ValueError)
    (PySem.W.mg_none_of X G z_abs)
    (PySem.W.mg_none_of X G z_bool)
    (PySem.W.mg_none_of X G z_int)
    (PySem.W.mg_none_of X G z_isinstance)
    (PySem.W.mg_none_of X G z_len)
    (PySem.W.mg_none_of X G z_list)
    (PySem.W.mg_none_of X G z_min)
    (PySem.W.mg_none_of X G z_range)
    (PySem.W.mg_none_of X G z_reversed)
    (PySem.W.mg_none_of X G z_str)
    (PySem.W.mg_none_of X G z_tuple)
    ⟨_, PySem.W.mg_of X G kk_MOST_BOUND⟩
    ⟨_, PySem.W.mg_of X G kk_MOST_DIGITS⟩
    ⟨_, PySem.W.mg_of X G kk_MOST_TRIES⟩
    (PySem.W.mg_of X G gg)
    (PySem.W.mg_of X G acLotError)
    (PySem.W.mg_of X G acOutOfRange)
    (PySem.W.mg_of X G acMalformed)
    (PySem.W.mg_of X G acNotThere)
    (PySem.W.mg_of X G acRefused)
    (PySem.W.mg_of X G acTooMuch)
    xOutOfRange
    qOutOfRange
    uOutOfRange
    tOutOfRange
    ⟨XaOutOfRange, XbOutOfRange, uOutOfRange, XdOutOfRange, XeOutOfRange, On, Ot, XhOutOfRange⟩
    (PySem.W.exm_ref Lu Ld Lt sOutOfRange)
    xRefused
    qRefused
    uRefused
    tRefused
    ⟨XaRefused, XbRefused, uRefused, XdRefused, XeRefused, On, Ot, XhRefused⟩
    (PySem.W.exm_ref Lu Ld Lt sRefused)
    iOutOfRange_OutOfRange
    iOutOfRange_Malformed
    iOutOfRange_NotThere
    iOutOfRange_Refused
    iOutOfRange_TooMuch
    iOutOfRange_ValueError
    iRefused_OutOfRange
    iRefused_Malformed
    iRefused_NotThere
    iRefused_Refused
    iRefused_TooMuch
    iRefused_ValueError
  exact ⟨_, [], spLaw K, (fun p hp => by
    simp only [List.mem_cons, List.not_mem_nil, or_false] at hp), (fun p hp => by
    simp only [List.mem_cons, List.not_mem_nil, or_false] at hp), (fun p hp => by
    simp only [List.mem_cons, List.not_mem_nil, or_false] at hp), fun s v => .of_eq rfl,
    fun H a ns hl hb hH hS => ⟨a, ns, rfl, fun b hb => by
      obtain ⟨p, hp, e⟩ := List.mem_map.mp hb
      subst e
      exact ⟨#[], hH p hp, trivial⟩, hS, hl, hb, fun _ => rfl⟩,
    fun base b1 b2 b3 => (oklaw T ⟨⟩).imp fun vs H Q E q => spLaw_imp q⟩
end
omit [Tbs] in
theorem walk {l : PySem.W.OpenLaw} {q : Program} {loose : List Str} {XP : (Str → Option Value) → Heap → Prop} {YP : World → Heap → Prop} {d : DefRec} {K : Params → PySem.W.Frag} (hn : l.most = some 63) (hdf : d.params.defaults = [])
    (hY : ∀ (w : World) (h : Heap), YP w h → (K w.params).In h)
    (F : ∀ (w : World) (mg : Str → Option Value) (fa : Addr) (h : Heap), (K w.params).In h → h.Ns mainGlobals mg → mg d.name = some (.ref fa) → (∃ loose mean mb, Top q loose mean mg mb h) → LamX.LawAtS l w (K w.params) (L2N.CX l.prog w) 7 63 "script" mg fa h) :
    PySem.W.WalkO q loose XP YP l.row.toRowW d [] (fun f vs => PySem.call f vs) :=
  walk_ofTT (n := 63) (k := 7) (x := "script") (CX := fun w => L2N.CX l.prog w) hn (by decide) hdf ⟨rfl, by decide, by decide⟩ hY F (fun w H s e s' z => by obtain ⟨_, _, _, _, _, _, _, _, _, _, _, _, z⟩ := z; exact z)
end Lw
open PySem PySem.W PyProof.Rows in
set_option maxRecDepth 100000 in
set_option maxHeartbeats 0 in
theorem PySem.Challenge.cw_lotshown_k46_whole_drawing_below_a_bound_holds : PySem.Challenge.rw_lotshown_k46_whole_drawing_below_a_bound.Holds := by
  w_on; o_law; k_head; (case hw => w_witness2)
  k_fill
  refine Lw.walk (l := PySem.Challenge.rw_lotshown_k46_whole_drawing_below_a_bound) rfl rfl (fun w h Y => PySem.W.kIn_of Y) ?F
  case F =>
    intro w mg fa h KX G hmg T0
    refine' Lw.all_mk KX G hmg T0 ?a0 ?l0 ?e0 ?k0 ?a1 ?l1 ?e1 ?k1 ?a2 ?l2 ?e2 ?k2 ?a3 ?l3 ?e3 ?k3 ?a4 ?l4 ?e4 ?k4 ?a5 ?l5 ?e5 ?k5 ?a6 ?l6 ?e6 ?k6 ?a7 ?l7 ?e7 ?k7 ?a8 ?l8 ?e8 ?k8 ?a9 ?l9 ?e9 ?k9 ?a10 ?l10 ?e10 ?k10 ?a11 ?l11 ?e11 ?k11 ?a12 ?l12 ?e12 ?k12 ?a13 ?l13 ?e13 ?k13 ?a14 ?l14 ?e14 ?k14 ?a15 ?l15 ?e15 ?k15 ?a16 ?l16 ?e16 ?k16 ?a17 ?l17 ?e17 ?k17 ?a18 ?l18 ?e18 ?k18 ?a19 ?l19 ?e19 ?k19 ?a20 ?l20 ?e20 ?k20 ?a21 ?l21 ?e21 ?k21 ?a22 ?l22 ?e22 ?k22 ?a23 ?l23 ?e23 ?k23 ?a24 ?l24 ?e24 ?k24 ?a25 ?l25 ?e25 ?k25 ?a26 ?l26 ?e26 ?k26 ?acLotError ?acOutOfRange ?acMalformed ?acNotThere ?acRefused ?acTooMuch ?z_ValueError ?z_abs ?z_bool ?z_int ?z_isinstance ?z_len ?z_list ?z_min ?z_range ?z_reversed ?z_str ?z_tuple ?kk_MOST_BOUND ?kk_MOST_DIGITS ?kk_MOST_TRIES ?gg ?xOutOfRange ?qOutOfRange ?uOutOfRange ?tOutOfRange ?sOutOfRange ?XaOutOfRange ?XbOutOfRange ?XdOutOfRange ?XeOutOfRange ?XhOutOfRange ?iOutOfRange_OutOfRange ?iOutOfRange_Malformed ?iOutOfRange_NotThere ?iOutOfRange_Refused ?iOutOfRange_TooMuch ?iOutOfRange_ValueError ?xRefused ?qRefused ?uRefused ?tRefused ?sRefused ?XaRefused ?XbRefused ?XdRefused ?XeRefused ?XhRefused ?iRefused_OutOfRange ?iRefused_Malformed ?iRefused_NotThere ?iRefused_Refused ?iRefused_TooMuch ?iRefused_ValueError ?Lu ?Ld ?Lt ?On ?Ot
    (case a0 => k_is)
    (case l0 => k_is)
    (case e0 => k_is)
    (case k0 => k_is)
    (case a1 => k_is)
    (case l1 => k_is)
    (case e1 => k_is)
    (case k1 => k_is)
    (case a2 => k_is)
    (case l2 => k_is)
    (case e2 => k_is)
    (case k2 => k_is)
    (case a3 => k_is)
    (case l3 => k_is)
    (case e3 => k_is)
    (case k3 => k_is)
    (case a4 => k_is)
    (case l4 => k_is)
    (case e4 => k_is)
    (case k4 => k_is)
    (case a5 => k_is)
    (case l5 => k_is)
    (case e5 => k_is)
    (case k5 => k_is)
    (case a6 => k_is)
    (case l6 => k_is)
    (case e6 => k_is)
    (case k6 => k_is)
    (case a7 => k_is)
    (case l7 => k_is)
    (case e7 => k_is)
    (case k7 => k_is)
    (case a8 => k_is)
    (case l8 => k_is)
    (case e8 => k_is)
    (case k8 => k_is)
    (case a9 => k_is)
    (case l9 => k_is)
    (case e9 => k_is)
    (case k9 => k_is)
    (case a10 => k_is)
    (case l10 => k_is)
    (case e10 => k_is)
    (case k10 => k_is)
    (case a11 => k_is)
    (case l11 => k_is)
    (case e11 => k_is)
    (case k11 => k_is)
    (case a12 => k_is)
    (case l12 => k_is)
    (case e12 => k_is)
    (case k12 => k_is)
    (case a13 => k_is)
    (case l13 => k_is)
    (case e13 => k_is)
    (case k13 => k_is)
    (case a14 => k_is)
    (case l14 => k_is)
    (case e14 => k_is)
    (case k14 => k_is)
    (case a15 => k_is)
    (case l15 => k_is)
    (case e15 => k_is)
    (case k15 => k_is)
    (case a16 => k_is)
    (case l16 => k_is)
    (case e16 => k_is)
    (case k16 => k_is)
    (case a17 => k_is)
    (case l17 => k_is)
    (case e17 => k_is)
    (case k17 => k_is)
    (case a18 => k_is)
    (case l18 => k_is)
    (case e18 => k_is)
    (case k18 => k_is)
    (case a19 => k_is)
    (case l19 => k_is)
    (case e19 => k_is)
    (case k19 => k_is)
    (case a20 => k_is)
    (case l20 => k_is)
    (case e20 => k_is)
    (case k20 => k_is)
    (case a21 => k_is)
    (case l21 => k_is)
    (case e21 => k_is)
    (case k21 => k_is)
    (case a22 => k_is)
    (case l22 => k_is)
    (case e22 => k_is)
    (case k22 => k_is)
    (case a23 => k_is)
    (case l23 => k_is)
    (case e23 => k_is)
    (case k23 => k_is)
    (case a24 => k_is)
    (case l24 => k_is)
    (case e24 => k_is)
    (case k24 => k_is)
    (case a25 => k_is)
    (case l25 => k_is)
    (case e25 => k_is)
    (case k25 => k_is)
    (case a26 => k_is)
    (case l26 => k_is)
    (case e26 => k_is)
    (case k26 => k_is)
    (case acLotError => k_is)
    (case acOutOfRange => k_is)
    (case acMalformed => k_is)
    (case acNotThere => k_is)
    (case acRefused => k_is)
    (case acTooMuch => k_is)
    (case z_ValueError => k_is)
    (case z_abs => k_is)
    (case z_bool => k_is)
    (case z_int => k_is)
    (case z_isinstance => k_is)
    (case z_len => k_is)
    (case z_list => k_is)
    (case z_min => k_is)
    (case z_range => k_is)
    (case z_reversed => k_is)
    (case z_str => k_is)
    (case z_tuple => k_is)
    (case kk_MOST_BOUND => k_is)
    (case kk_MOST_DIGITS => k_is)
    (case kk_MOST_TRIES => k_is)
    (case gg => k_is)
    (case xOutOfRange => k_exc)
    (case qOutOfRange => k_is)
    (case uOutOfRange => k_is)
    (case tOutOfRange => k_is)
    (case sOutOfRange => k_is)
    (case XaOutOfRange => k_is)
    (case XbOutOfRange => k_is)
    (case XdOutOfRange => k_is)
    (case XeOutOfRange => k_is)
    (case XhOutOfRange => k_is)
    (case iOutOfRange_OutOfRange => kit_is)
    (case iOutOfRange_Malformed => kit_is)
    (case iOutOfRange_NotThere => kit_is)
    (case iOutOfRange_Refused => kit_is)
    (case iOutOfRange_TooMuch => kit_is)
    (case iOutOfRange_ValueError => kit_is)
    (case xRefused => k_exc)
    (case qRefused => k_is)
    (case uRefused => k_is)
    (case tRefused => k_is)
    (case sRefused => k_is)
    (case XaRefused => k_is)
    (case XbRefused => k_is)
    (case XdRefused => k_is)
    (case XeRefused => k_is)
    (case XhRefused => k_is)
    (case iRefused_OutOfRange => kit_is)
    (case iRefused_Malformed => kit_is)
    (case iRefused_NotThere => kit_is)
    (case iRefused_Refused => kit_is)
    (case iRefused_TooMuch => kit_is)
    (case iRefused_ValueError => kit_is)
    (case Lu => k_is)
    (case Ld => k_is)
    (case Lt => k_is)
    (case On => k_is)
    (case Ot => k_is)
