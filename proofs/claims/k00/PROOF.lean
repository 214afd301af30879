import PyProof.Rows.All
import Wide.All
import OpenK.AllK
import Wide.FinOn
import HandS.ForSpec
import HandS.Comp
import HandS.Iter
import HandS.Text
import HandS.ExcCtx
import HandS.HotCalls
import HandS.IsInst
import HandS.ExcIs
import HandS.Wide
import HandS.WideBits
import HandS.Gcd
import HandS.Evl
import HandS.TupAny
import HandS.TupMul
import HandS.Style
import HandS.Deep
import HandS.Hot
import PyProof.RangeIter
import PySem.Challenge.RW_lotshown_k00_fractions
set_option Elab.async false
set_option linter.all false
set_option maxRecDepth 100000
namespace Den
open PySem L2 Evl
open Classical
abbrev D := PyData

mutual
theorem dp_mono {K : PySem.W.Frag} {H H' : Hp} (e : Ex H H') : ∀ {v : V} {d : D}, Dp K H v d → Dp K H' v d
  | _, _, .non => .non
  | _, _, .bl b => .bl b
  | _, _, .int i => .int i
  | _, _, .str x => .str x
  | _, _, .lst h hs => .lst (ex_l e h) (dpA_mono e hs)
  | _, _, .tup h hs => .tup (ex_t e h) (dpA_mono e hs)
theorem dpA_mono {K : PySem.W.Frag} {H H' : Hp} (e : Ex H H') : ∀ {vs : List V} {ds : List D}, DpAll K H vs ds → DpAll K H' vs ds
  | _, _, .nil => .nil
  | _, _, .cons h hs => .cons (dp_mono e h) (dpA_mono e hs)
end
theorem dpA_get {K : PySem.W.Frag} {H : Hp} : ∀ {vs : List V} {ds : List D} {i : Nat} {d : D}, DpAll K H vs ds → ds[i]? = some d → ∃ v, vs[i]? = some v ∧ Dp K H v d
  | _, _, _, _, .nil, h => by simp at h
  | _, _, 0, _, .cons h _, e => by simp at e; subst e; exact ⟨_, rfl, h⟩
  | _, _, i + 1, _, .cons _ hs, e => by
    obtain ⟨v, h1, h2⟩ := dpA_get (i := i) hs (by simpa using e)
    exact ⟨v, by simpa using h1, h2⟩
theorem dpA_get' {K : PySem.W.Frag} {H : Hp} : ∀ {vs : List V} {ds : List D} {i : Nat} {v : V}, DpAll K H vs ds → vs[i]? = some v → ∃ d, ds[i]? = some d ∧ Dp K H v d
  | _, _, _, _, .nil, h => by simp at h
  | _, _, 0, _, .cons h _, e => by simp at e; subst e; exact ⟨_, rfl, h⟩
  | _, _, i + 1, _, .cons _ hs, e => by
    obtain ⟨v, h1, h2⟩ := dpA_get' (i := i) hs (by simpa using e)
    exact ⟨v, by simpa using h1, h2⟩
theorem dpA_len {K : PySem.W.Frag} {H : Hp} : ∀ {vs : List V} {ds : List D}, DpAll K H vs ds → vs.length = ds.length
  | _, _, .nil => rfl
  | _, _, .cons _ hs => by simp [dpA_len hs]
theorem dpA_app {K : PySem.W.Frag} {H : Hp} : ∀ {vs ws : List V} {ds es : List D}, DpAll K H vs ds → DpAll K H ws es → DpAll K H (vs ++ ws) (ds ++ es)
  | _, _, _, _, .nil, h => h
  | _, _, _, _, .cons h hs, g => .cons h (dpA_app hs g)
theorem dpA_set {K : PySem.W.Frag} {H : Hp} {v : V} {d : D} (q : Dp K H v d) : ∀ {vs : List V} {ds : List D} (i : Nat), DpAll K H vs ds → DpAll K H (vs.set i v) (ds.set i d)
  | _, _, _, .nil => .nil
  | _, _, 0, .cons _ hs => .cons q hs
  | _, _, i + 1, .cons h hs => .cons h (dpA_set q i hs)
theorem dpA_ints {K : PySem.W.Frag} {H : Hp} : ∀ ns : List Int, DpAll K H (ns.map V.int) (ns.map PyData.int)
  | [] => .nil
  | n :: ns => .cons (.int n) (dpA_ints ns)

/-! the hidden part -/
noncomputable def hidS (S : Addr → Prop) (H : Hp) : Hp := fun b => if S b then none else H b
def Live (S : Addr → Prop) (H : Hp) : Prop := ∀ b, S b → H b ≠ none
section
variable {K : PySem.W.Frag} {S : Addr → Prop} {H H' : Hp} {v : V} {d : D} {p : Addr} {o : HO}
theorem hidS_in (h : ¬ S p) : hidS S H p = H p := by unfold hidS; rw [if_neg h]
theorem hidS_ex : Ex (hidS S H) H := fun a o e => by
  unfold hidS at e
  split at e
  · cases e
  · exact e
theorem Live.ext (l : Live S H) (e : Ex H H') : Live S H' := fun b s n => by
  cases q : H b with
  | none => exact l b s q
  | some o => rw [e b o q] at n; cases n
theorem hidS_mono (e : Ex H H') : Ex (hidS S H) (hidS S H') := fun a o q => by
  unfold hidS at q ⊢
  split at q
  · cases q
  · rename_i h; rw [if_neg h]; exact e a o q
theorem Live.free (l : Live S H) (h : H p = none) : ¬ S p := fun s => l p s h
end
/-- a value that is read: data in the open part, or a list that is owned (its items in the open part) -/
inductive Rp (K : PySem.W.Frag) (S : Addr → Prop) (H : Hp) : V → D → Prop where
  | val {v : V} {d : D} : Dp K (hidS S H) v d → Rp K S H v d
  | own {a : Addr} {vs : List V} {ds : List D} : H a = some (.lst vs) → DpAll K (hidS S H) vs ds → Rp K S H (.ref a) (.list ds)
section
variable {K : PySem.W.Frag} {S : Addr → Prop} {H H' : Hp} {v : V} {d : D} {p : Addr} {o : HO}
theorem Rp.full (r : Rp K S H v d) : Dp K H v d := by
  cases r with
  | val h => exact dp_mono hidS_ex h
  | own h hs => exact .lst (.inl (.inl h)) (dpA_mono hidS_ex hs)
theorem Rp.lst {ds : List D} (r : Rp K S H v (.list ds)) : ∃ a vs, v = .ref a ∧ SqL K H a vs ∧ DpAll K (hidS S H) vs ds := by
  cases r with
  | val h => cases h with
    | lst h hs => exact ⟨_, _, rfl, ex_l hidS_ex h, hs⟩
  | own h hs => exact ⟨_, _, rfl, .inl (.inl h), hs⟩
theorem Rp.tup {ds : List D} (r : Rp K S H v (.tuple ds)) : ∃ a vs, v = .ref a ∧ SqT K H a vs ∧ DpAll K (hidS S H) vs ds := by
  cases r with
  | val h => cases h with
    | tup h hs => exact ⟨_, _, rfl, ex_t hidS_ex h, hs⟩
theorem Rp.int {i : Int} (r : Rp K S H v (.int i)) : v = .int i := by
  cases r with
  | val h => cases h; rfl
theorem Rp.bl {b : Bool} (r : Rp K S H v (.bool b)) : v = .bl b := by
  cases r with
  | val h => cases h; rfl
theorem Rp.str {x : Str} (r : Rp K S H v (.str x)) : v = .str x := by
  cases r with
  | val h => cases h; rfl
theorem Rp.non (r : Rp K S H v .none) : v = .non := by
  cases r with
  | val h => cases h; rfl
theorem Rp.ext (e : Ex H H') (r : Rp K S H v d) : Rp K S H' v d := by
  cases r with
  | val h => exact .val (dp_mono (hidS_mono e) h)
  | own h hs => exact .own (e _ _ h) (dpA_mono (hidS_mono e) hs)
/-- a new tuple, a new list -/
theorem new_tup {vs : List V} {ds : List D} (l : Live S H) (hp : H p = none) (hs : DpAll K (hidS S H) vs ds) : Dp K (hidS S (upd H p (.tup vs))) (.ref p) (.tuple ds) := by
  have e : Ex H (upd H p (.tup vs)) := Ex.new hp
  refine .tup (.inl (.inl ?_)) (dpA_mono (hidS_mono e) hs)
  rw [hidS_in (l.free hp), upd_same]
theorem new_lst {vs : List V} {ds : List D} (l : Live S H) (hp : H p = none) (hs : DpAll K (hidS S H) vs ds) : Dp K (hidS S (upd H p (.lst vs))) (.ref p) (.list ds) := by
  have e : Ex H (upd H p (.lst vs)) := Ex.new hp
  refine .lst (.inl (.inl ?_)) (dpA_mono (hidS_mono e) hs)
  rw [hidS_in (l.free hp), upd_same]
end

/-! slots -/
inductive Sl where
  | no | va (d : D) | ow (ds : List D) | io (ds : List D) | ex (a : Addr)
abbrev En := List Sl
def Sof (θ : Addr → Prop) (α : Nat → Option Addr) : Addr → Prop := fun b => θ b ∨ ∃ i, α i = some b
def SlOk (K : PySem.W.Frag) (θ : Addr → Prop) (π α : Nat → Option Addr) (σ : L2.St) (H : Hp) (i : Nat) : Sl → Prop
  | .no => True
  | .va d => ∃ v, σ[i]? = some (some v) ∧ Dp K (hidS (Sof θ α) H) v d
  | .ow ds => ∃ a vs, α i = some a ∧ π i = none ∧ σ[i]? = some (some (.ref a)) ∧ H a = some (.lst vs) ∧ DpAll K (hidS (Sof θ α) H) vs ds
  | .io ds => ∃ a vs, α i = some a ∧ π i = some a ∧ σ[i]? = some (some (.ref a)) ∧ H a = some (.lst vs) ∧ DpAll K (hidS (Sof θ α) H) vs ds
  | .ex a => σ[i]? = some (some (.ref a))
def Sl.owned : Sl → Prop
  | .ow _ => True
  | .io _ => True
  | _ => False
structure Rel (K : PySem.W.Frag) (θ : Addr → Prop) (π α : Nat → Option Addr) (σ : L2.St) (H : Hp) (ρ : En) : Prop where
  len : ρ.length = σ.length
  inj : ∀ i j a, α i = some a → α j = some a → i = j
  ap : ∀ i a, α i = some a → ¬ θ a
  lv : ∀ b, θ b → H b ≠ none
  dom : ∀ i a, α i = some a → ∃ s, ρ[i]? = some s ∧ s.owned
  pin : ∀ i a, π i = some a → ∃ ds, ρ[i]? = some (.io ds)
  sl : ∀ i s, ρ[i]? = some s → SlOk K θ π α σ H i s
/-- from one state to a later one -/
def Stp (θ : Addr → Prop) (α : Nat → Option Addr) (H : Hp) (α' : Nat → Option Addr) (H' : Hp) : Prop :=
  Ex (hidS (Sof θ α) H) (hidS (Sof θ α') H') ∧ ∀ b, θ b → H' b = H b
theorem Stp.refl (θ : Addr → Prop) (α : Nat → Option Addr) (H : Hp) : Stp θ α H α H := ⟨Ex.refl _, fun _ _ => rfl⟩
theorem Stp.trans {θ : Addr → Prop} {α α1 α2 : Nat → Option Addr} {H H1 H2 : Hp} (a : Stp θ α H α1 H1) (b : Stp θ α1 H1 α2 H2) : Stp θ α H α2 H2 :=
  ⟨a.1.trans b.1, fun c h => (b.2 c h).trans (a.2 c h)⟩
section
variable {K : PySem.W.Frag} {θ : Addr → Prop} {π α : Nat → Option Addr} {σ : L2.St} {H H' : Hp} {ρ : En}
theorem Rel.owned {i : Nat} {a : Addr} (r : Rel K θ π α σ H ρ) (h : α i = some a) : ∃ vs, H a = some (.lst vs) := by
  obtain ⟨s, hs, ho⟩ := r.dom i a h
  have q := r.sl i s hs
  cases s with
  | ow ds => obtain ⟨b, vs, h1, _, _, h2, _⟩ := q; rw [h] at h1; cases h1; exact ⟨vs, h2⟩
  | io ds => obtain ⟨b, vs, h1, _, _, h2, _⟩ := q; rw [h] at h1; cases h1; exact ⟨vs, h2⟩
  | no => exact ho.elim
  | va d => exact ho.elim
  | ex b => exact ho.elim
theorem Rel.live (r : Rel K θ π α σ H ρ) : Live (Sof θ α) H := fun b h => by
  rcases h with h | ⟨i, h⟩
  · exact r.lv b h
  · obtain ⟨vs, e⟩ := r.owned h
    rw [e]; intro z; cases z
theorem SlOk.ext {i : Nat} {s : Sl} (e : Ex H H') (q : SlOk K θ π α σ H i s) : SlOk K θ π α σ H' i s := by
  cases s with
  | no => trivial
  | va d => obtain ⟨v, h1, h2⟩ := q; exact ⟨v, h1, dp_mono (hidS_mono e) h2⟩
  | ow ds => obtain ⟨a, vs, h1, h2, h3, h4, h5⟩ := q; exact ⟨a, vs, h1, h2, h3, e _ _ h4, dpA_mono (hidS_mono e) h5⟩
  | io ds => obtain ⟨a, vs, h1, h2, h3, h4, h5⟩ := q; exact ⟨a, vs, h1, h2, h3, e _ _ h4, dpA_mono (hidS_mono e) h5⟩
  | ex a => exact q
theorem Rel.ext (r : Rel K θ π α σ H ρ) (e : Ex H H') : Rel K θ π α σ H' ρ :=
  ⟨r.len, r.inj, r.ap, fun b h n => (Live.ext r.live e) b (.inl h) n, r.dom, r.pin, fun i s h => (r.sl i s h).ext e⟩
theorem Rel.stp (r : Rel K θ π α σ H ρ) (e : Ex H H') : Stp θ α H α H' := ⟨hidS_mono e, fun b h => by
  cases q : H b with
  | none => exact absurd q (r.lv b h)
  | some o => exact e b o q⟩
/-- what a slot holds, as it is read -/
def rd (ρ : En) (i : Nat) : Option D := match ρ[i]? with
  | some (.va d) => some d
  | some (.ow ds) => some (.list ds)
  | some (.io ds) => some (.list ds)
  | _ => none
theorem Rel.rd {i : Nat} {d : D} (r : Rel K θ π α σ H ρ) (h : rd ρ i = some d) : ∃ v, σ[i]? = some (some v) ∧ Rp K (Sof θ α) H v d := by
  unfold Den.rd at h
  split at h
  · rename_i d' e
    cases h
    obtain ⟨v, h1, h2⟩ := r.sl i _ e
    exact ⟨v, h1, .val h2⟩
  · rename_i ds e
    cases h
    obtain ⟨a, vs, h1, h2, h3, h4, h5⟩ := r.sl i _ e
    exact ⟨_, h3, .own h4 h5⟩
  · rename_i ds e
    cases h
    obtain ⟨a, vs, h1, h2, h3, h4, h5⟩ := r.sl i _ e
    exact ⟨_, h3, .own h4 h5⟩
  · cases h
end
end Den

namespace Den
open PySem L2 Evl PySem.Spec PyProof.Rows
open Classical

/-! weaker ends -/
section
variable {X : Cx}
theorem peI {e : Expr} {t t' : TE} (h : PE X e t) (k : ∀ σ H Q, t' σ H Q → t σ H Q) : PE X e t' := ⟨fun pins s σ H Q I q => h.run pins s σ H Q I (k _ _ _ q)⟩
theorem ptI {e : Expr} {t t' : TT} (h : PT X e t) (k : ∀ σ H Q, t' σ H Q → t σ H Q) : PT X e t' := ⟨fun pins s σ H Q I q => h.run pins s σ H Q I (k _ _ _ q)⟩
theorem pwI {e : Expr} {t t' : TT} (h : PW X e t) (k : ∀ σ H Q, t' σ H Q → t σ H Q) : PW X e t' := ⟨fun wh pins s σ H Q I q => h.run wh pins s σ H Q I (k _ _ _ q)⟩
theorem paI {es : List Expr} {t t' : TA} (h : PA X es t) (k : ∀ σ H Q, t' σ H Q → t σ H Q) : PA X es t' := ⟨fun pos pins s σ H Q I q => h.run pos pins s σ H Q I (k _ _ _ q)⟩
theorem psI {s : Stmt} {t t' : TS} (h : PS X s t) (k : ∀ D σ H, t' D σ H → t D σ H) : PS X s t' := ⟨fun pins st σ H D I q => h.run pins st σ H D I (k _ _ _ q)⟩
theorem pssI {s : List Stmt} {t t' : TS} (h : PSs X s t) (k : ∀ D σ H, t' D σ H → t D σ H) : PSs X s t' := ⟨fun pins st σ H D I q => h.run pins st σ H D I (k _ _ _ q)⟩
theorem pgI {e : Expr} {t t' : TG} (h : PG X e t) (k : ∀ v σ H Q, t' v σ H Q → t v σ H Q) : PG X e t' := ⟨fun pins s σ H v u Q I r q => h.run pins s σ H v u Q I r (k _ _ _ _ q)⟩
theorem pgsI {e : List Expr} {t t' : TGs} (h : PGs X e t) (k : ∀ v σ H Q, t' v σ H Q → t v σ H Q) : PGs X e t' := ⟨fun pins s σ H v u Q I r q => h.run pins s σ H v u Q I r (k _ _ _ _ q)⟩
theorem poI {e : Option Expr} {t t' : TO} (h : PO X e t) (k : ∀ σ H Q, t' σ H Q → t σ H Q) : PO X e t' := ⟨fun pins s σ H Q I q => h.run pins s σ H Q I (k _ _ _ q)⟩
theorem ptsI {e : List Expr} {t t' : TT} (h : PTs X e t) (k : ∀ σ H Q, t' σ H Q → t σ H Q) : PTs X e t' := ⟨fun pins s σ H Q I q => h.run pins s σ H Q I (k _ _ _ q)⟩
theorem piI {tg e : Expr} {t t' : TI} (h : PI X tg e t) (k : ∀ σ H R, t' σ H R → t σ H R) : PI X tg e t' := ⟨fun pins s σ H Q I q => h.run pins s σ H Q I (k _ _ _ q)⟩
end

/-! what is wanted, over data -/
abbrev RC := D → En → Prop
abbrev EC := Addr → En → Prop
abbrev WE := En → RC → EC → Prop
abbrev LR := En → D → Prop
abbrev WL := En → (LR → En → Prop) → EC → Prop
abbrev WT := En → (Bool → En → Prop) → EC → Prop
abbrev WA := En → (List D → En → Prop) → EC → Prop
abbrev WO := En → (Option Int → En → Prop) → EC → Prop
abbrev WG := D → En → (En → Prop) → EC → Prop
structure Bx where
  nx : En → Prop
  rt : D → En → Prop
  rf : List D → En → Prop := fun _ _ => False
  bk : En → Prop := fun _ => False
  ct : En → Prop := fun _ => False
  rs : Addr → En → Prop := fun _ _ => False
abbrev WS := Bx → En → Prop

section
variable (K : PySem.W.Frag) (W : WX)
def Exi (θ : Addr → Prop) (π α : Nat → Option Addr) (σ : L2.St) (H : Hp) (E : EC) : Prop :=
  ∀ α' σ' H' c ρ', Rel K θ π α' σ' H' ρ' → Stp θ α H α' H' → E c ρ' → W (.ref c) none σ' H'
def cE (w : WE) : TE := fun σ H Q => ∃ θ π α ρ R E, Rel K θ π α σ H ρ ∧ w ρ R E ∧
  (∀ α' v H' d ρ', Rel K θ π α' σ H' ρ' → Stp θ α H α' H' → Dp K (hidS (Sof θ α') H') v d → R d ρ' → Q v H') ∧ Exi K W θ π α σ H E
/-- when it is read later -/
def Lat (θ : Addr → Prop) (π : Nat → Option Addr) (σ : L2.St) (α : Nat → Option Addr) (H : Hp) (v : V) (L : LR) : Prop :=
  ∀ α2 H2 ρ2, Rel K θ π α2 σ H2 ρ2 → Stp θ α H α2 H2 → ∀ d, L ρ2 d → Rp K (Sof θ α2) H2 v d
def cL (w : WL) : TE := fun σ H Q => ∃ θ π α ρ R E, Rel K θ π α σ H ρ ∧ w ρ R E ∧
  (∀ α' v H' L ρ', Rel K θ π α' σ H' ρ' → Stp θ α H α' H' → Lat K θ π σ α' H' v L → R L ρ' → Q v H') ∧ Exi K W θ π α σ H E
def cT (w : WT) : TT := fun σ H Q => ∃ θ π α ρ R E, Rel K θ π α σ H ρ ∧ w ρ R E ∧
  (∀ α' H' b ρ', Rel K θ π α' σ H' ρ' → Stp θ α H α' H' → R b ρ' → Q b H') ∧ Exi K W θ π α σ H E
def cO (w : WO) : TO := fun σ H Q => ∃ θ π α ρ R E, Rel K θ π α σ H ρ ∧ w ρ R E ∧
  (∀ α' H' b ρ', Rel K θ π α' σ H' ρ' → Stp θ α H α' H' → R b ρ' → Q b H') ∧ Exi K W θ π α σ H E
def cA (n : Nat) (w : WA) : TA := fun σ H Q => ∃ θ π α ρ R E, Rel K θ π α σ H ρ ∧ w ρ R E ∧
  (∀ α' vs H' ds ρ', Rel K θ π α' σ H' ρ' → Stp θ α H α' H' → DpAll K (hidS (Sof θ α') H') vs ds → ds.length = n → R ds ρ' → Q vs H') ∧ Exi K W θ π α σ H E
/-- a new list that nobody else holds -/
def th (θ : Addr → Prop) (p : Addr) : Addr → Prop := fun b => θ b ∨ b = p
def StpF (θ : Addr → Prop) (α : Nat → Option Addr) (H : Hp) (p : Addr) (α' : Nat → Option Addr) (H' : Hp) : Prop :=
  Ex (hidS (Sof θ α) H) (hidS (Sof (th θ p) α') H') ∧ ∀ b, θ b → H' b = H b
def cF (w : WA) : TE := fun σ H Q => ∃ θ π α ρ R E, Rel K θ π α σ H ρ ∧ w ρ R E ∧
  (∀ α' p vs H' ds ρ', Rel K (th θ p) π α' σ H' ρ' → StpF θ α H p α' H' → ¬ θ p → H' p = some (.lst vs) → DpAll K (hidS (Sof (th θ p) α') H') vs ds → R ds ρ' → Q (.ref p) H') ∧ Exi K W θ π α σ H E
def cG (w : WG) : TG := fun v σ H Q => ∃ θ π α ρ d R E, Rel K θ π α σ H ρ ∧ Dp K (hidS (Sof θ α) H) v d ∧ w d ρ R E ∧
  (∀ α' σ' H' ρ', Rel K θ π α' σ' H' ρ' → Stp θ α H α' H' → R ρ' → Q σ' H') ∧ Exi K W θ π α σ H E
structure Fits (θ : Addr → Prop) (π α : Nat → Option Addr) (H : Hp) (D : Ends) (B : Bx) : Prop where
  nx : ∀ α' σ' H' ρ', Rel K θ π α' σ' H' ρ' → Stp θ α H α' H' → B.nx ρ' → D.nx σ' H'
  bk : ∀ α' σ' H' ρ', Rel K θ π α' σ' H' ρ' → Stp θ α H α' H' → B.bk ρ' → D.bk σ' H'
  ct : ∀ α' σ' H' ρ', Rel K θ π α' σ' H' ρ' → Stp θ α H α' H' → B.ct ρ' → D.ct σ' H'
  rt : ∀ α' σ' H' v d ρ', Rel K θ π α' σ' H' ρ' → Stp θ α H α' H' → Dp K (hidS (Sof θ α') H') v d → B.rt d ρ' → D.rt v H'
  rf : ∀ α' σ' p vs H' ds ρ', Rel K (th θ p) π α' σ' H' ρ' → StpF θ α H p α' H' → ¬ θ p → H' p = some (.lst vs) → DpAll K (hidS (Sof (th θ p) α') H') vs ds → B.rf ds ρ' → D.rt (.ref p) H'
  rs : ∀ α' σ' H' c ρ', Rel K θ π α' σ' H' ρ' → Stp θ α H α' H' → B.rs c ρ' → W (.ref c) none σ' H'
def cS (w : WS) : TS := fun D σ H => ∃ θ π α ρ B, Rel K θ π α σ H ρ ∧ w B ρ ∧ Fits K W θ π α H D B
end
section
variable {K : PySem.W.Frag} {W : WX} {θ : Addr → Prop} {π α α1 : Nat → Option Addr} {σ : L2.St} {H H1 : Hp} {E : EC} {De : Ends} {B : Bx} {v : V} {d : D} {L : LR}
theorem Exi.step (x : Exi K W θ π α σ H E) (s : Stp θ α H α1 H1) : Exi K W θ π α1 σ H1 E := fun α' σ' H' c ρ' r s' e => x α' σ' H' c ρ' r (s.trans s') e
theorem Fits.step (x : Fits K W θ π α H De B) (s : Stp θ α H α1 H1) : Fits K W θ π α1 H1 De B :=
  ⟨fun α' σ' H' ρ' r s' e => x.nx α' σ' H' ρ' r (s.trans s') e, fun α' σ' H' ρ' r s' e => x.bk α' σ' H' ρ' r (s.trans s') e, fun α' σ' H' ρ' r s' e => x.ct α' σ' H' ρ' r (s.trans s') e,
   fun α' σ' H' v d ρ' r s' p e => x.rt α' σ' H' v d ρ' r (s.trans s') p e, fun α' σ' p vs H' ds ρ' r s' np h d e => x.rf α' σ' p vs H' ds ρ' r ⟨s.1.trans s'.1, fun b hb => (s'.2 b hb).trans (s.2 b hb)⟩ np h d e, fun α' σ' H' c ρ' r s' e => x.rs α' σ' H' c ρ' r (s.trans s') e⟩
theorem Fits.exi (x : Fits K W θ π α H De B) : Exi K W θ π α σ H B.rs := fun α' σ' H' c ρ' r s' e => x.rs α' σ' H' c ρ' r s' e
theorem Lat.const (h : Dp K (hidS (Sof θ α) H) v d) : Lat K θ π σ α H v (fun _ d' => d' = d) := fun α2 H2 ρ2 r s d' e => by
  subst e
  exact .val (dp_mono s.1 h)
theorem Lat.step (h : Lat K θ π σ α H v L) (s : Stp θ α H α1 H1) : Lat K θ π σ α1 H1 v L := fun α2 H2 ρ2 r s2 d e => h α2 H2 ρ2 r (s.trans s2) d e
end

/-! reading -/
def wL (w : WE) : WL := fun ρ R E => w ρ (fun d ρ' => R (fun _ d' => d' = d) ρ') E
def wN (j : Nat) : WL := fun ρ R E => (∃ d, rd ρ j = some d) ∧ R (fun ρ' d => rd ρ' j = some d) ρ
def wV (j : Nat) : WE := fun ρ R E => match ρ[j]? with
  | some (.va d) => R d ρ
  | some (.ow ds) => R (.list ds) (ρ.set j (.va (.list ds)))
  | _ => False
def wC (d : D) : WE := fun ρ R E => R d ρ
section
variable {K : PySem.W.Frag} {W : WX} {X : Cx} {e : Expr}
theorem dl {w : WE} (h : PE X e (cE K W w)) : PE X e (cL K W (wL w)) := peI h fun σ H Q ⟨θ, π, α, ρ, R, E, hR, hw, hq, he⟩ =>
  ⟨θ, π, α, ρ, _, E, hR, hw, fun α' v H' d ρ' r s p q => hq α' v H' _ ρ' r s (Lat.const p) q, he⟩
theorem dN {i : Nat} {x : Str} {pos : Pos} (h : PE X (.Name x pos) (tVar i)) : PE X (.Name x pos) (cL K W (wN i)) := peI h fun σ H Q ⟨θ, π, α, ρ, R, E, hR, hw, hq, he⟩ => by
  obtain ⟨⟨d, hd⟩, hw⟩ := hw
  obtain ⟨v, h1, h2⟩ := hR.rd hd
  exact ⟨v, h1, hq α v H _ ρ hR (Stp.refl ..) (fun α2 H2 ρ2 r s d' e => by
    obtain ⟨v2, h3, h4⟩ := r.rd e
    rw [h1] at h3
    cases h3
    exact h4) hw⟩
theorem dC {v : V} {d : D} (h : PE X e (tC v)) (hd : ∀ G, Dp K G v d) : PE X e (cE K W (wC d)) := peI h fun σ H Q ⟨θ, π, α, ρ, R, E, hR, hw, hq, he⟩ =>
  hq α v H d ρ hR (Stp.refl ..) (hd _) hw
/-- a list gets out of its slot -/
theorem Rel.freeze {θ : Addr → Prop} {π α : Nat → Option Addr} {σ : L2.St} {H : Hp} {ρ : En} {j : Nat} {ds : List D} (r : Rel K θ π α σ H ρ) (h : ρ[j]? = some (.ow ds)) :
    ∃ α' v, Rel K θ π α' σ H (ρ.set j (.va (.list ds))) ∧ Stp θ α H α' H ∧ σ[j]? = some (some v) ∧ Dp K (hidS (Sof θ α') H) v (.list ds) := by
  obtain ⟨a, vs, h1, h2, h3, h4, h5⟩ := r.sl j _ h
  have hlt : j < ρ.length := (List.getElem?_eq_some_iff.mp h).1
  have hsub : ∀ b, Sof θ (fun i => if i = j then none else α i) b → Sof θ α b := fun b hb => by
    rcases hb with hb | ⟨i, hb⟩
    · exact .inl hb
    · by_cases e : i = j
      · subst e; simp at hb
      · exact .inr ⟨i, by simpa [e] using hb⟩
  have hex : Ex (hidS (Sof θ α) H) (hidS (Sof θ (fun i => if i = j then none else α i)) H) := fun b o q => by
    unfold hidS at q ⊢
    split at q
    · cases q
    · rename_i hn
      rw [if_neg (fun z => hn (hsub b z))]
      exact q
  have hna : ¬ Sof θ (fun i => if i = j then none else α i) a := fun z => by
    rcases z with z | ⟨i, z⟩
    · exact r.ap j a h1 z
    · by_cases e : i = j
      · subst e; simp at z
      · exact e (r.inj i j a (by simpa [e] using z) h1)
  have hdp : Dp K (hidS (Sof θ (fun i => if i = j then none else α i)) H) (.ref a) (.list ds) := .lst (.inl (.inl (by rw [hidS_in hna]; exact h4))) (dpA_mono hex h5)
  refine ⟨fun i => if i = j then none else α i, .ref a, ⟨by simpa using r.len, fun i k b q1 q2 => ?_, fun i b q => ?_, r.lv, fun i b q => ?_, fun i b q => ?_, fun i s q => ?_⟩, ⟨hex, fun _ _ => rfl⟩, h3, hdp⟩
  · by_cases e1 : i = j
    · subst e1; simp at q1
    · by_cases e2 : k = j
      · subst e2; simp at q2
      · exact r.inj i k b (by simpa [e1] using q1) (by simpa [e2] using q2)
  · by_cases e1 : i = j
    · subst e1; simp at q
    · exact r.ap i b (by simpa [e1] using q)
  · by_cases e1 : i = j
    · subst e1; simp at q
    · obtain ⟨s, z1, z2⟩ := r.dom i b (by simpa [e1] using q)
      exact ⟨s, by rw [List.getElem?_set_ne (Ne.symm e1)]; exact z1, z2⟩
  · have e1 : i ≠ j := fun z => by subst z; rw [h2] at q; cases q
    obtain ⟨es, z⟩ := r.pin i b q
    exact ⟨es, by rw [List.getElem?_set_ne (Ne.symm e1)]; exact z⟩
  · by_cases e1 : i = j
    · subst e1
      rw [List.getElem?_set_self hlt] at q
      cases q
      exact ⟨.ref a, h3, hdp⟩
    · rw [List.getElem?_set_ne (Ne.symm e1)] at q
      have z := r.sl i s q
      cases s with
      | no => trivial
      | va d => obtain ⟨v, z1, z2⟩ := z; exact ⟨v, z1, dp_mono hex z2⟩
      | ow es => obtain ⟨b, ws, z1, z2, z3, z4, z5⟩ := z; exact ⟨b, ws, by simpa [e1] using z1, z2, z3, z4, dpA_mono hex z5⟩
      | io es => obtain ⟨b, ws, z1, z2, z3, z4, z5⟩ := z; exact ⟨b, ws, by simpa [e1] using z1, z2, z3, z4, dpA_mono hex z5⟩
      | ex b => exact z
theorem dV {i : Nat} {x : Str} {pos : Pos} (h : PE X (.Name x pos) (tVar i)) : PE X (.Name x pos) (cE K W (wV i)) := peI h fun σ H Q ⟨θ, π, α, ρ, R, E, hR, hw, hq, he⟩ => by
  unfold wV at hw
  split at hw
  · rename_i d e
    obtain ⟨v, h1, h2⟩ := hR.sl i _ e
    exact ⟨v, h1, hq α v H d ρ hR (Stp.refl ..) h2 hw⟩
  · rename_i ds e
    obtain ⟨α', v, r, s, h1, h2⟩ := hR.freeze e
    exact ⟨v, h1, hq α' v H _ _ r s h2 hw⟩
  · exact hw.elim
end

/-! operations by values -/
def SR (K : PySem.W.Frag) (r : R2) (f : D → D → (D → Prop) → Prop) : Prop := ∀ (S : Addr → Prop) (H : Hp) (x y : V) (d e : D) (Q : VK) (R : D → Prop), Live S H → Rp K S H x d → Rp K S H y e → f d e R →
  (∀ v H' c, Ex H H' → Dp K (hidS S H') v c → R c → Q v H') → r x y H Q
def SU (K : PySem.W.Frag) (r : V → Hp → VK → Prop) (f : D → (D → Prop) → Prop) : Prop := ∀ (S : Addr → Prop) (H : Hp) (x : V) (d : D) (Q : VK) (R : D → Prop), Live S H → Rp K S H x d → f d R →
  (∀ v H' c, Ex H H' → Dp K (hidS S H') v c → R c → Q v H') → r x H Q
def wOp (f : D → D → (D → Prop) → Prop) (wa wb : WL) : WE := fun ρ R E => wa ρ (fun La ρ1 => wb ρ1 (fun Lb ρ2 => ∃ d e, La ρ2 d ∧ Lb ρ2 e ∧ f d e (fun z => R z ρ2)) E) E
def wUn (f : D → (D → Prop) → Prop) (wa : WL) : WE := fun ρ R E => wa ρ (fun La ρ1 => ∃ d, La ρ1 d ∧ f d (fun z => R z ρ1)) E
section
variable {K : PySem.W.Frag} {W : WX} {X : Cx}
theorem can_op {r : R2} {f : D → D → (D → Prop) → Prop} (hr : SR K r f) {wa wb : WL} (σ : L2.St) (H : Hp) (Q : VK) : cE K W (wOp f wa wb) σ H Q → tOp r (cL K W wa) (cL K W wb) σ H Q := by
  rintro ⟨θ, π, α, ρ, R, E, hR, hw, hq, he⟩
  refine ⟨θ, π, α, ρ, _, E, hR, hw, fun α1 v1 H1 L1 ρ1 R1 s1 l1 w1 => ?_, he⟩
  refine ⟨θ, π, α1, ρ1, _, E, R1, w1, fun α2 v2 H2 L2 ρ2 R2 s2 l2 w2 => ?_, he.step s1⟩
  obtain ⟨d, e, hd, he', hf⟩ := w2
  exact hr _ H2 _ _ d e Q _ R2.live (l1 α2 H2 ρ2 R2 s2 d hd) (l2 α2 H2 ρ2 R2 (Stp.refl ..) e he') hf (fun v H' c ex dp rc => hq α2 v H' c ρ2 (R2.ext ex) ((s1.trans s2).trans (R2.stp ex)) dp rc)
theorem can_un {r : V → Hp → VK → Prop} {f : D → (D → Prop) → Prop} (hr : SU K r f) {wa : WL} (σ : L2.St) (H : Hp) (Q : VK) : cE K W (wUn f wa) σ H Q → tUn r (cL K W wa) σ H Q := by
  rintro ⟨θ, π, α, ρ, R, E, hR, hw, hq, he⟩
  refine ⟨θ, π, α, ρ, _, E, hR, hw, fun α1 v1 H1 L1 ρ1 R1 s1 l1 w1 => ?_, he⟩
  obtain ⟨d, hd, hf⟩ := w1
  exact hr _ H1 _ d Q _ R1.live (l1 α1 H1 ρ1 R1 (Stp.refl ..) d hd) hf (fun v H' c ex dp rc => hq α1 v H' c ρ1 (R1.ext ex) (s1.trans (R1.stp ex)) dp rc)
theorem dOp {op : Operator} {r : R2} {f : D → D → (D → Prop) → Prop} {a b : Expr} {pos : Pos} {wa wb : WL} (ho : OpR X (binaryOp op) r) (hr : SR K r f) (ha : PE X a (cL K W wa)) (hb : PE X b (cL K W wb)) : PE X (.BinOp a op b pos) (cE K W (wOp f wa wb)) :=
  peI (pe_op ho ha hb) (can_op hr)
theorem dCmp {op : CmpOp} {r : R2} {f : D → D → (D → Prop) → Prop} {a b : Expr} {pos : Pos} {wa wb : WL} (ho : OpR X (compareOp op) r) (hr : SR K r f) (ha : PE X a (cL K W wa)) (hb : PE X b (cL K W wb)) (hm : behindInMarks op b = false) : PE X (.Compare a [op] [b] pos) (cE K W (wOp f wa wb)) :=
  peI (pe_cmpR ho ha hb hm) (can_op hr)
theorem dUn {op : UnaryOp} {r : V → Hp → VK → Prop} {f : D → (D → Prop) → Prop} {a : Expr} {pos : Pos} {wa : WL} (ho : UnR X (unaryOp op) r) (hr : SU K r f) (ha : PE X a (cL K W wa)) : PE X (.UnaryOp op a pos) (cE K W (wUn f wa)) :=
  peI (pe_un ho ha) (can_un hr)
theorem dIx {r : R2} {f : D → D → (D → Prop) → Prop} {a b : Expr} {pos : Pos} {wa wb : WL} (ho : IxR X r) (hr : SR K r f) (ha : PE X a (cL K W wa)) (hb : PE X b (cL K W wb)) (hs : PlainIx b) : PE X (.Subscript a b pos) (cE K W (wOp f wa wb)) :=
  peI (pe_ix ho ha hb hs) (can_op hr)
end
end Den

namespace Den
open PySem L2 Evl PySem.Spec PyProof.Rows
open Classical

section
variable {K : PySem.W.Frag} {W : WX} {X : Cx} {θ : Addr → Prop} {π α : Nat → Option Addr} {σ : L2.St} {H : Hp} {ρ : En} {p : Addr} {o : HO}

/-! tests -/
def wTb (w : WE) : WT := fun ρ R E => w ρ (fun d ρ' => ∃ b, d = .bool b ∧ R b ρ') E
def wAnd (wa wb : WT) : WT := fun ρ R E => wa ρ (fun b ρ1 => if b = true then wb ρ1 R E else R false ρ1) E
def wOr (wa wb : WT) : WT := fun ρ R E => wa ρ (fun b ρ1 => if b = true then R true ρ1 else wb ρ1 R E) E
def wNot (wa : WT) : WT := fun ρ R E => wa ρ (fun b ρ1 => R (!b) ρ1) E
def wAndV (wa wb : WE) : WE := fun ρ R E => wa ρ (fun d ρ1 => ∃ b, d = .bool b ∧ if b = true then wb ρ1 R E else R (.bool false) ρ1) E
def wOrV (wa wb : WE) : WE := fun ρ R E => wa ρ (fun d ρ1 => ∃ b, d = .bool b ∧ if b = true then R (.bool true) ρ1 else wb ρ1 R E) E
def wNotV (wa : WE) : WE := fun ρ R E => wa ρ (fun d ρ1 => ∃ b, d = .bool b ∧ R (.bool (!b)) ρ1) E
def wIf (wt : WT) (wa wb : WE) : WE := fun ρ R E => wt ρ (fun b ρ1 => if b = true then wa ρ1 R E else wb ρ1 R E) E

theorem dp_b {v : V} {b : Bool} (h : Dp K H v (.bool b)) : v = .bl b := by cases h; rfl
theorem can_tb {w : WE} (σ : L2.St) (H : Hp) (Q : Bool → Hp → Prop) : cT K W (wTb w) σ H Q → tTest (cE K W w) σ H Q := by
  rintro ⟨θ, π, α, ρ, R, E, hR, hw, hq, he⟩
  refine ⟨θ, π, α, ρ, _, E, hR, hw, fun α1 v1 H1 d ρ1 R1 s1 p1 w1 => ?_, he⟩
  obtain ⟨b, rfl, w1⟩ := w1
  exact ⟨b, dp_b p1, hq α1 H1 b ρ1 R1 s1 w1⟩
theorem dTc {op : CmpOp} {r : R2} {f : D → D → (D → Prop) → Prop} {a b : Expr} {pos : Pos} {wa wb : WL} (ho : OpR X (compareOp op) r) (hr : SR K r f) (ha : PE X a (cL K W wa)) (hb : PE X b (cL K W wb)) (hm : behindInMarks op b = false) : PT X (.Compare a [op] [b] pos) (cT K W (wTb (wOp f wa wb))) :=
  ptI (pt_cmpR ho ha hb hm) fun σ H Q q => by
    have z := can_tb σ H Q q
    exact can_op hr σ H _ z
theorem dTv {e : Expr} {w : WE} (h : PE X e (cE K W w)) (he : ∀ whole, isTrue e X.env whole = (do let v ← whole; standAt e.pos; holding [v] (truthy v)) := by intro _; rfl) : PT X e (cT K W (wTb w)) := ptI (pt_val h he) can_tb
theorem dNot {a : Expr} {pos : Pos} {wa : WT} (ha : PT X a (cT K W wa)) : PT X (.UnaryOp .Not a pos) (cT K W (wNot wa)) := ptI (pt_not ha) fun σ H Q ⟨θ, π, α, ρ, R, E, hR, hw, hq, he⟩ =>
  ⟨θ, π, α, ρ, _, E, hR, hw, fun α1 H1 b ρ1 R1 s1 w1 => hq α1 H1 _ ρ1 R1 s1 w1, he⟩
theorem can_and {wa wb : WT} (σ : L2.St) (H : Hp) (Q : Bool → Hp → Prop) : cT K W (wAnd wa wb) σ H Q → tAnd (cT K W wa) (cT K W wb) σ H Q := by
  rintro ⟨θ, π, α, ρ, R, E, hR, hw, hq, he⟩
  refine ⟨θ, π, α, ρ, _, E, hR, hw, fun α1 H1 b ρ1 R1 s1 w1 => ?_, he⟩
  cases b with
  | true => rw [if_pos rfl] at w1 ⊢; exact ⟨θ, π, α1, ρ1, R, E, R1, w1, fun α2 H2 b ρ2 R2 s2 w2 => hq α2 H2 b ρ2 R2 (s1.trans s2) w2, he.step s1⟩
  | false => rw [if_neg Bool.false_ne_true] at w1 ⊢; exact hq α1 H1 _ ρ1 R1 s1 w1
theorem can_or {wa wb : WT} (σ : L2.St) (H : Hp) (Q : Bool → Hp → Prop) : cT K W (wOr wa wb) σ H Q → tOr (cT K W wa) (cT K W wb) σ H Q := by
  rintro ⟨θ, π, α, ρ, R, E, hR, hw, hq, he⟩
  refine ⟨θ, π, α, ρ, _, E, hR, hw, fun α1 H1 b ρ1 R1 s1 w1 => ?_, he⟩
  cases b with
  | false => rw [if_neg Bool.false_ne_true] at w1 ⊢; exact ⟨θ, π, α1, ρ1, R, E, R1, w1, fun α2 H2 b ρ2 R2 s2 w2 => hq α2 H2 b ρ2 R2 (s1.trans s2) w2, he.step s1⟩
  | true => rw [if_pos rfl] at w1 ⊢; exact hq α1 H1 _ ρ1 R1 s1 w1
theorem dAnd {a b : Expr} {rest : List Expr} {pos : Pos} {wa wb : WT} (ha : PT X a (cT K W wa)) (hb : PW X (.BoolOp .And (b :: rest) pos) (cT K W wb)) : PW X (.BoolOp .And (a :: b :: rest) pos) (cT K W (wAnd wa wb)) := pwI (pw_and ha hb) can_and
theorem dOr {a b : Expr} {rest : List Expr} {pos : Pos} {wa wb : WT} (ha : PT X a (cT K W wa)) (hb : PW X (.BoolOp .Or (b :: rest) pos) (cT K W wb)) : PW X (.BoolOp .Or (a :: b :: rest) pos) (cT K W (wOr wa wb)) := pwI (pw_or ha hb) can_or
theorem dAndV {a b : Expr} {rest : List Expr} {pos : Pos} {wa wb : WE} (ha : PE X a (cE K W wa)) (hb : PE X (.BoolOp .And (b :: rest) pos) (cE K W wb)) : PE X (.BoolOp .And (a :: b :: rest) pos) (cE K W (wAndV wa wb)) :=
  peI (pe_and ha hb) fun σ H Q ⟨θ, π, α, ρ, R, E, hR, hw, hq, he⟩ => by
    refine ⟨θ, π, α, ρ, _, E, hR, hw, fun α1 v1 H1 d ρ1 R1 s1 p1 w1 => ?_, he⟩
    obtain ⟨b, rfl, w1⟩ := w1
    refine ⟨b, dp_b p1, ?_⟩
    cases b with
    | true => rw [if_pos rfl] at w1 ⊢; exact ⟨θ, π, α1, ρ1, R, E, R1, w1, fun α2 v H2 b ρ2 R2 s2 p2 w2 => hq α2 v H2 b ρ2 R2 (s1.trans s2) p2 w2, he.step s1⟩
    | false => rw [if_neg Bool.false_ne_true] at w1 ⊢; exact hq α1 _ H1 _ ρ1 R1 s1 (.bl _) w1
theorem dOrV {a b : Expr} {rest : List Expr} {pos : Pos} {wa wb : WE} (ha : PE X a (cE K W wa)) (hb : PE X (.BoolOp .Or (b :: rest) pos) (cE K W wb)) : PE X (.BoolOp .Or (a :: b :: rest) pos) (cE K W (wOrV wa wb)) :=
  peI (pe_or ha hb) fun σ H Q ⟨θ, π, α, ρ, R, E, hR, hw, hq, he⟩ => by
    refine ⟨θ, π, α, ρ, _, E, hR, hw, fun α1 v1 H1 d ρ1 R1 s1 p1 w1 => ?_, he⟩
    obtain ⟨b, rfl, w1⟩ := w1
    refine ⟨b, dp_b p1, ?_⟩
    cases b with
    | false => rw [if_neg Bool.false_ne_true] at w1 ⊢; exact ⟨θ, π, α1, ρ1, R, E, R1, w1, fun α2 v H2 b ρ2 R2 s2 p2 w2 => hq α2 v H2 b ρ2 R2 (s1.trans s2) p2 w2, he.step s1⟩
    | true => rw [if_pos rfl] at w1 ⊢; exact hq α1 _ H1 _ ρ1 R1 s1 (.bl _) w1
theorem dNotV {a : Expr} {pos : Pos} {wa : WE} (ha : PE X a (cE K W wa)) : PE X (.UnaryOp .Not a pos) (cE K W (wNotV wa)) :=
  peI (pe_not ha) fun σ H Q ⟨θ, π, α, ρ, R, E, hR, hw, hq, he⟩ => by
    refine ⟨θ, π, α, ρ, _, E, hR, hw, fun α1 v1 H1 d ρ1 R1 s1 p1 w1 => ?_, he⟩
    obtain ⟨b, rfl, w1⟩ := w1
    exact ⟨b, dp_b p1, hq α1 _ H1 _ ρ1 R1 s1 (.bl _) w1⟩
theorem dIf {c a b : Expr} {pos : Pos} {wt : WT} {wa wb : WE} (hc : PT X c (cT K W wt)) (ha : PE X a (cE K W wa)) (hb : PE X b (cE K W wb)) : PE X (.IfExp c a b pos) (cE K W (wIf wt wa wb)) :=
  peI (pe_ifExp hc ha hb) fun σ H Q ⟨θ, π, α, ρ, R, E, hR, hw, hq, he⟩ => by
    refine ⟨θ, π, α, ρ, _, E, hR, hw, fun α1 H1 b ρ1 R1 s1 w1 => ?_, he⟩
    cases b with
    | true => rw [if_pos rfl] at w1 ⊢; exact ⟨θ, π, α1, ρ1, R, E, R1, w1, fun α2 v H2 b ρ2 R2 s2 p2 w2 => hq α2 v H2 b ρ2 R2 (s1.trans s2) p2 w2, he.step s1⟩
    | false => rw [if_neg Bool.false_ne_true] at w1 ⊢; exact ⟨θ, π, α1, ρ1, R, E, R1, w1, fun α2 v H2 b ρ2 R2 s2 p2 w2 => hq α2 v H2 b ρ2 R2 (s1.trans s2) p2 w2, he.step s1⟩

/-! arguments, displays -/
def waNil : WA := fun ρ R _ => R [] ρ
def waCons (wa : WE) (wr : WA) : WA := fun ρ R E => wa ρ (fun d ρ1 => wr ρ1 (fun ds ρ2 => R (d :: ds) ρ2) E) E
def wTup (wa : WA) : WE := fun ρ R E => wa ρ (fun ds ρ' => R (.tuple ds) ρ') E
def wFE (wa : WA) : WE := fun ρ R E => wa ρ (fun ds ρ' => R (.list ds) ρ') E
theorem daNil : PA X [] (cA K W 0 waNil) := paI pa_nil fun σ H Q ⟨θ, π, α, ρ, R, E, hR, hw, hq, he⟩ => hq α [] H [] ρ hR (Stp.refl ..) .nil rfl hw
theorem daCons {e : Expr} {es : List Expr} {n : Nat} {wa : WE} {wr : WA} (ha : PE X e (cE K W wa)) (hr : PA X es (cA K W n wr)) (hs : starEach (e :: es) X.env = (false, eval e X.env) :: starEach es X.env := by rfl) : PA X (e :: es) (cA K W (n + 1) (waCons wa wr)) :=
  paI (pa_cons ha hr hs) fun σ H Q ⟨θ, π, α, ρ, R, E, hR, hw, hq, he⟩ => by
    refine ⟨θ, π, α, ρ, _, E, hR, hw, fun α1 v1 H1 d ρ1 R1 s1 p1 w1 => ?_, he⟩
    refine ⟨θ, π, α1, ρ1, _, E, R1, w1, fun α2 vs H2 ds ρ2 R2 s2 p2 l2 w2 => ?_, he.step s1⟩
    exact hq α2 (v1 :: vs) H2 (d :: ds) ρ2 R2 (s1.trans s2) (.cons (dp_mono s2.1 p1) p2) (by simp [l2]) w2
theorem dTup {es : List Expr} {n x1 : Nat} {pos : Pos} {wa : WA} (h : PA X es (cA K W n wa)) (hn : n ≤ sizeLine := by decide) : PE X (.Tuple es x1 pos) (cE K W (wTup wa)) :=
  peI (pe_tup h) fun σ H Q ⟨θ, π, α, ρ, R, E, hR, hw, hq, he⟩ => by
    refine ⟨θ, π, α, ρ, _, E, hR, hw, fun α2 vs H2 ds ρ2 R2 s2 p2 l2 w2 => ?_, he⟩
    refine ⟨by rw [dpA_len p2, l2]; exact hn, fun p hp => ?_⟩
    exact hq α2 _ _ _ ρ2 (R2.ext (Ex.new hp)) (s2.trans (R2.stp (Ex.new hp))) (new_tup R2.live hp p2) w2

/-! new lists -/
theorem Sof_th {b : Addr} : Sof (th θ p) α b ↔ Sof θ α b ∨ b = p := by
  constructor
  · rintro ((h | h) | h)
    · exact .inl (.inl h)
    · exact .inr h
    · exact .inl (.inr h)
  · rintro ((h | h) | h)
    · exact .inl (.inl h)
    · exact .inr h
    · exact .inl (.inr h)
theorem hid_new (hp : H p = none) : hidS (Sof (th θ p) α) (upd H p o) = hidS (Sof θ α) H := by
  funext b
  unfold hidS
  by_cases h : Sof θ α b
  · rw [if_pos h, if_pos (Sof_th.mpr (.inl h))]
  · rw [if_neg h]
    by_cases e : b = p
    · subst e
      rw [if_pos (Sof_th.mpr (.inr rfl)), hp]
    · rw [if_neg (fun z => (Sof_th.mp z).elim h e), upd_ne e]
theorem SlOk.re {θ' : Addr → Prop} {α' : Nat → Option Addr} {H' : Hp} {i : Nat} {s : Sl} (ha : α' i = α i) (hx : Ex (hidS (Sof θ α) H) (hidS (Sof θ' α') H')) (hl : ∀ a vs, α i = some a → H a = some (.lst vs) → H' a = some (.lst vs)) (q : SlOk K θ π α σ H i s) : SlOk K θ' π α' σ H' i s := by
  cases s with
  | no => trivial
  | va d => obtain ⟨v, h1, h2⟩ := q; exact ⟨v, h1, dp_mono hx h2⟩
  | ow ds => obtain ⟨a, vs, h1, h2, h3, h4, h5⟩ := q; exact ⟨a, vs, by rw [ha]; exact h1, h2, h3, hl a vs h1 h4, dpA_mono hx h5⟩
  | io ds => obtain ⟨a, vs, h1, h2, h3, h4, h5⟩ := q; exact ⟨a, vs, by rw [ha]; exact h1, h2, h3, hl a vs h1 h4, dpA_mono hx h5⟩
  | ex a => exact q
theorem Rel.hideNew (r : Rel K θ π α σ H ρ) (hp : H p = none) : Rel K (th θ p) π α σ (upd H p o) ρ := by
  have hx : Ex (hidS (Sof θ α) H) (hidS (Sof (th θ p) α) (upd H p o)) := by rw [hid_new hp]; exact Ex.refl _
  refine ⟨r.len, r.inj, fun i a h z => ?_, fun b h => ?_, r.dom, r.pin, fun i s h => (r.sl i s h).re rfl hx fun a vs _ e => by rw [upd_ne (ne_of_none e hp)]; exact e⟩
  · rcases z with z | z
    · exact r.ap i a h z
    · obtain ⟨vs, e⟩ := r.owned h
      rw [z, hp] at e; cases e
  · rcases h with h | h
    · rw [upd_ne (fun z => by subst z; exact r.lv _ h hp)]
      exact r.lv b h
    · subst h; rw [upd_same]; intro z; cases z
theorem Rel.stpNew (r : Rel K θ π α σ H ρ) (hp : H p = none) : StpF θ α H p α (upd H p o) :=
  ⟨by rw [hid_new hp]; exact Ex.refl _, fun b h => upd_ne (fun z => by subst z; exact r.lv _ h hp)⟩
theorem Rel.unhide {vs : List V} (r : Rel K (th θ p) π α σ H ρ) (np : ¬ θ p) : Rel K θ π α σ H ρ ∧ Ex (hidS (Sof (th θ p) α) H) (hidS (Sof θ α) H) := by
  have hx : Ex (hidS (Sof (th θ p) α) H) (hidS (Sof θ α) H) := fun b o q => by
    unfold hidS at q ⊢
    split at q
    · cases q
    · rename_i h
      rw [if_neg (fun z => h (Sof_th.mpr (.inl z)))]
      exact q
  exact ⟨⟨r.len, r.inj, fun i a h z => r.ap i a h (.inl z), fun b h => r.lv b (.inl h), r.dom, r.pin, fun i s h => (r.sl i s h).re rfl hx fun _ _ _ e => e⟩, hx⟩
theorem dFE {e : Expr} {w : WA} (h : PE X e (cF K W w)) : PE X e (cE K W (wFE w)) := peI h fun σ H Q ⟨θ, π, α, ρ, R, E, hR, hw, hq, he⟩ => by
  refine ⟨θ, π, α, ρ, _, E, hR, hw, fun α1 p vs H1 ds ρ1 R1 s1 np h1 p1 w1 => ?_, he⟩
  obtain ⟨R2, hx⟩ := R1.unhide (vs := vs) np
  have hnp : ¬ Sof θ α1 p := fun z => by
    rcases z with z | ⟨i, z⟩
    · exact np z
    · exact R1.ap i p z (.inr rfl)
  exact hq α1 (.ref p) H1 _ ρ1 R2 ⟨s1.1.trans hx, s1.2⟩ (.lst (.inl (.inl (by rw [hidS_in hnp]; exact h1))) (dpA_mono hx p1)) w1
theorem can_newl {w : WA} {n : Nat} {t : TA} (hc : ∀ σ H Q, cA K W n w σ H Q → t σ H Q) (hn : n ≤ sizeLine) (σ : L2.St) (H : Hp) (Q : VK) : cF K W w σ H Q → tLst t σ H Q := by
  rintro ⟨θ, π, α, ρ, R, E, hR, hw, hq, he⟩
  refine hc _ _ _ ⟨θ, π, α, ρ, R, E, hR, hw, fun α2 vs H2 ds ρ2 R2 s2 p2 l2 w2 => ?_, he⟩
  refine ⟨by rw [dpA_len p2, l2]; exact hn, fun p hp => ?_⟩
  have e := hid_new (θ := θ) (α := α2) (o := .lst vs) hp
  exact hq α2 p vs _ ds ρ2 (R2.hideNew hp) ⟨by rw [e]; exact s2.1, fun b hb => ((R2.stpNew hp).2 b hb).trans (s2.2 b hb)⟩ (fun z => R2.lv p z hp) upd_same (by rw [e]; exact p2) w2
theorem dLst {es : List Expr} {n : Nat} {pos : Pos} {wa : WA} (h : PA X es (cA K W n wa)) (hn : n ≤ sizeLine := by decide) : PE X (.List es pos) (cF K W wa) :=
  peI (pe_lst h) (can_newl (fun _ _ _ q => q) hn)
/-- an owned list leaves its slot -/
def wVF (j : Nat) : WA := fun ρ R E => match ρ[j]? with
  | some (.ow ds) => R ds (ρ.set j .no)
  | _ => False
theorem dVF {i : Nat} {x : Str} {pos : Pos} (h : PE X (.Name x pos) (tVar i)) : PE X (.Name x pos) (cF K W (wVF i)) := peI h fun σ H Q ⟨θ, π, α, ρ, R, E, hR, hw, hq, he⟩ => by
  unfold wVF at hw
  split at hw
  · rename_i ds e
    obtain ⟨a, vs, h1, h2, h3, h4, h5⟩ := hR.sl i _ e
    have hlt : i < ρ.length := (List.getElem?_eq_some_iff.mp e).1
    have hS : ∀ b, Sof (th θ a) (fun k => if k = i then none else α k) b ↔ Sof θ α b := fun b => by
      rw [Sof_th]
      constructor
      · rintro ((hb | ⟨k, hb⟩) | hb)
        · exact .inl hb
        · by_cases z : k = i
          · subst z; simp at hb
          · exact .inr ⟨k, by simpa [z] using hb⟩
        · subst hb; exact .inr ⟨i, h1⟩
      · rintro (hb | ⟨k, hb⟩)
        · exact .inl (.inl hb)
        · by_cases z : k = i
          · subst z; rw [h1] at hb; cases hb; exact .inr rfl
          · exact .inl (.inr ⟨k, by simpa [z] using hb⟩)
    have hh : hidS (Sof (th θ a) (fun k => if k = i then none else α k)) H = hidS (Sof θ α) H := by
      have : Sof (th θ a) (fun k => if k = i then none else α k) = Sof θ α := by funext b; exact propext (hS b)
      rw [this]
    refine ⟨.ref a, h3, hq (fun k => if k = i then none else α k) a vs H ds _ ⟨by simpa using hR.len, fun k l b q1 q2 => ?_, fun k b q z => ?_, fun b z => ?_, fun k b q => ?_, fun k b q => ?_, fun k s q => ?_⟩ ⟨by rw [hh]; exact Ex.refl _, fun _ _ => rfl⟩ (hR.ap i a h1) h4 (by rw [hh]; exact h5) hw⟩
    · by_cases e1 : k = i
      · subst e1; simp at q1
      · by_cases e2 : l = i
        · subst e2; simp at q2
        · exact hR.inj k l b (by simpa [e1] using q1) (by simpa [e2] using q2)
    · by_cases e1 : k = i
      · subst e1; simp at q
      · rcases z with z | z
        · exact hR.ap k b (by simpa [e1] using q) z
        · subst z; exact e1 (hR.inj k i b (by simpa [e1] using q) h1)
    · rcases z with z | z
      · exact hR.lv b z
      · subst z; rw [h4]; intro z; cases z
    · by_cases e1 : k = i
      · subst e1; simp at q
      · obtain ⟨s, z1, z2⟩ := hR.dom k b (by simpa [e1] using q)
        exact ⟨s, by rw [List.getElem?_set_ne (Ne.symm e1)]; exact z1, z2⟩
    · have e1 : k ≠ i := fun z => by subst z; rw [h2] at q; cases q
      obtain ⟨es, z⟩ := hR.pin k b q
      exact ⟨es, by rw [List.getElem?_set_ne (Ne.symm e1)]; exact z⟩
    · by_cases e1 : k = i
      · subst e1
        rw [List.getElem?_set_self hlt] at q
        cases q
        trivial
      · rw [List.getElem?_set_ne (Ne.symm e1)] at q
        exact (hR.sl k s q).re (by simp [e1]) (by rw [hh]; exact Ex.refl _) fun _ _ _ z => z
  · exact hw.elim

/-! stores -/
def asgV (i : Nat) (s : Sl) (ρ : En) (k : En → Prop) : Prop := match ρ[i]? with
  | some (.io _) => False
  | none => False
  | _ => k (ρ.set i s)
/-- slot i gets a new value -/
theorem Rel.put {i : Nat} {v : V} {d : D} (r : Rel K θ π α σ H ρ) (hi : i < ρ.length) (hn : ∀ ds, ρ[i]? ≠ some (.io ds)) (hd : Dp K (hidS (Sof θ α) H) v d) :
    ∃ α', Rel K θ π α' (σ.set i (some v)) H (ρ.set i (.va d)) ∧ Stp θ α H α' H := by
  have hπ : π i = none := by
    cases q : π i with
    | none => rfl
    | some a => obtain ⟨ds, z⟩ := r.pin i a q; exact absurd z (hn ds)
  have hx : Ex (hidS (Sof θ α) H) (hidS (Sof θ (fun k => if k = i then none else α k)) H) := fun b o q => by
    unfold hidS at q ⊢
    split at q
    · cases q
    · rename_i hh
      rw [if_neg]
      · exact q
      · rintro (z | ⟨k, z⟩)
        · exact hh (.inl z)
        · by_cases e : k = i
          · subst e; simp at z
          · exact hh (.inr ⟨k, by simpa [e] using z⟩)
  refine ⟨fun k => if k = i then none else α k, ⟨by simpa using r.len, fun k l b q1 q2 => ?_, fun k b q => ?_, r.lv, fun k b q => ?_, fun k b q => ?_, fun k s q => ?_⟩, ⟨hx, fun _ _ => rfl⟩⟩
  · by_cases e1 : k = i
    · subst e1; simp at q1
    · by_cases e2 : l = i
      · subst e2; simp at q2
      · exact r.inj k l b (by simpa [e1] using q1) (by simpa [e2] using q2)
  · by_cases e1 : k = i
    · subst e1; simp at q
    · exact r.ap k b (by simpa [e1] using q)
  · by_cases e1 : k = i
    · subst e1; simp at q
    · obtain ⟨s, z1, z2⟩ := r.dom k b (by simpa [e1] using q)
      exact ⟨s, by rw [List.getElem?_set_ne (Ne.symm e1)]; exact z1, z2⟩
  · have e1 : k ≠ i := fun z => by subst z; rw [hπ] at q; cases q
    obtain ⟨es, z⟩ := r.pin k b q
    exact ⟨es, by rw [List.getElem?_set_ne (Ne.symm e1)]; exact z⟩
  · by_cases e1 : k = i
    · subst e1
      rw [List.getElem?_set_self hi] at q
      cases q
      exact ⟨v, List.getElem?_set_self (by rw [← r.len]; exact hi), dp_mono hx hd⟩
    · rw [List.getElem?_set_ne (Ne.symm e1)] at q
      have z := (r.sl k s q).re (θ' := θ) (α' := fun k => if k = i then none else α k) (H' := H) (by simp [e1]) hx fun _ _ _ z => z
      have es : (σ.set i (some v))[k]? = σ[k]? := List.getElem?_set_ne (Ne.symm e1)
      cases s with
      | no => trivial
      | va d => obtain ⟨w, z1, z2⟩ := z; exact ⟨w, es.trans z1, z2⟩
      | ow ds => obtain ⟨a, vs, z1, z2, z3, z4⟩ := z; exact ⟨a, vs, z1, z2, es.trans z3, z4⟩
      | io ds => obtain ⟨a, vs, z1, z2, z3, z4⟩ := z; exact ⟨a, vs, z1, z2, es.trans z3, z4⟩
      | ex a => exact es.trans z
theorem asgV_of {i : Nat} {s : Sl} {k : En → Prop} (h : asgV i s ρ k) : i < ρ.length ∧ (∀ ds, ρ[i]? ≠ some (.io ds)) ∧ k (ρ.set i s) := by
  unfold asgV at h
  split at h
  · exact h.elim
  · exact h.elim
  · rename_i h1 h2
    refine ⟨?_, fun ds z => h1 ds z, h⟩
    cases q : ρ[i]? with
    | none => exact absurd q h2
    | some s => exact (List.getElem?_eq_some_iff.mp q).1
def wgName (i : Nat) : WG := fun d ρ R _ => asgV i (.va d) ρ R
theorem can_gname {i : Nat} (v : V) (σ : L2.St) (H : Hp) (Q : L2.St → Hp → Prop) : cG K W (wgName i) v σ H Q → gName i v σ H Q := by
  rintro ⟨θ, π, α, ρ, d, R, E, hR, hd, hw, hq, he⟩
  obtain ⟨h1, h2, h3⟩ := asgV_of hw
  obtain ⟨α', r, s⟩ := hR.put h1 h2 hd
  exact hq α' _ H _ r s h3
theorem dgName {i : Nat} {x : Str} {pos : Pos} (h : PG X (.Name x pos) (gName i)) : PG X (.Name x pos) (cG K W (wgName i)) := pgI h can_gname
/-- several names from a list of values -/
def asgAll : List Nat → List D → En → (En → Prop) → Prop
  | [], [], ρ, k => k ρ
  | i :: is, d :: ds, ρ, k => asgV i (.va d) ρ fun ρ' => asgAll is ds ρ' k
  | _, _, _, _ => False
def gNames : List Nat → TGs
  | [] => gNil
  | i :: is => gCons (gName i) (gNames is)
theorem can_names : ∀ (is : List Nat) {θ : Addr → Prop} {π α : Nat → Option Addr} {ρ : En} {ds : List D} {k : En → Prop} (vs : List V) (σ : L2.St) (H : Hp) (Q : L2.St → Hp → Prop), Rel K θ π α σ H ρ → DpAll K (hidS (Sof θ α) H) vs ds → asgAll is ds ρ k →
    (∀ α' σ' ρ', Rel K θ π α' σ' H ρ' → Stp θ α H α' H → k ρ' → Q σ' H) → gNames is vs σ H Q
  | [], _, _, _, _, [], _, vs, σ, H, Q, r, hd, h, q => by
    cases hd
    exact ⟨rfl, q _ _ _ r (Stp.refl ..) h⟩
  | [], _, _, _, _, _ :: _, _, vs, σ, H, Q, r, hd, h, q => h.elim
  | _ :: _, _, _, _, _, [], _, vs, σ, H, Q, r, hd, h, q => h.elim
  | i :: is, θ, π, α, ρ, d :: ds, k, vs, σ, H, Q, r, hd, h, q => by
    cases hd with
    | cons h1 hs =>
      obtain ⟨a1, a2, a3⟩ := asgV_of h
      obtain ⟨α', r', s'⟩ := r.put a1 a2 h1
      refine ⟨_, _, rfl, ?_⟩
      exact can_names is _ _ H Q r' (dpA_mono s'.1 hs) a3 fun α2 σ2 ρ2 r2 s2 k2 => q α2 σ2 ρ2 r2 (s'.trans s2) k2
def wgTup (is : List Nat) : WG := fun d ρ R _ => ∃ ds, d = .tuple ds ∧ asgAll is ds ρ R
def wgLst (is : List Nat) : WG := fun d ρ R _ => ∃ ds, d = .list ds ∧ asgAll is ds ρ R
theorem asgAll_len : ∀ {is : List Nat} {ds : List D} {ρ : En} {k : En → Prop}, asgAll is ds ρ k → ds.length = is.length
  | [], [], _, _, _ => rfl
  | [], _ :: _, _, _, h => h.elim
  | _ :: _, [], _, _, h => h.elim
  | i :: is, d :: ds, ρ, k, h => by
    obtain ⟨_, _, a3⟩ := asgV_of h
    simp [asgAll_len a3]
theorem dgTup {is : List Nat} {e : Expr} {n : Nat} (h : PG X e (gTup K n (gNames is))) (hn : is.length = n := by rfl) : PG X e (cG K W (wgTup is)) := pgI h fun v σ H Q => by
  rintro ⟨θ, π, α, ρ, d, R, E, hR, hd, hw, hq, he⟩
  obtain ⟨ds, rfl, hw⟩ := hw
  cases hd with
  | tup h1 hs => exact ⟨_, _, rfl, ex_t hidS_ex h1, by rw [dpA_len hs, asgAll_len hw, hn], can_names is _ σ H Q hR hs hw fun α' σ' ρ' r s k => hq α' σ' H ρ' r s k⟩
theorem dgLst {is : List Nat} {e : Expr} {n : Nat} (h : PG X e (gLst K n (gNames is))) (hn : is.length = n := by rfl) : PG X e (cG K W (wgLst is)) := pgI h fun v σ H Q => by
  rintro ⟨θ, π, α, ρ, d, R, E, hR, hd, hw, hq, he⟩
  obtain ⟨ds, rfl, hw⟩ := hw
  cases hd with
  | lst h1 hs => exact ⟨_, _, rfl, ex_l hidS_ex h1, by rw [dpA_len hs, asgAll_len hw, hn], can_names is _ σ H Q hR hs hw fun α' σ' ρ' r s k => hq α' σ' H ρ' r s k⟩
end
end Den

namespace Den
open PySem L2 Evl PySem.Spec PyProof.Rows
open Classical

section
variable {K : PySem.W.Frag} {W : WX} {X : Cx} {θ : Addr → Prop} {π α : Nat → Option Addr} {σ : L2.St} {H : Hp} {ρ : En} {p : Addr} {o : HO}

/-! statements -/
def wNext : WS := fun B ρ => B.nx ρ
def wSeq (a b : WS) : WS := fun B ρ => a { B with nx := b B } ρ
def wSet (i : Nat) (w : WE) : WS := fun B ρ => w ρ (fun d ρ' => asgV i (.va d) ρ' B.nx) B.rs
def wSetO (i : Nat) (w : WA) : WS := fun B ρ => w ρ (fun ds ρ' => asgV i (.ow ds) ρ' B.nx) B.rs
def wAsg (w : WE) (g : WG) : WS := fun B ρ => w ρ (fun d ρ' => g d ρ' B.nx B.rs) B.rs
def wRet (w : WE) : WS := fun B ρ => w ρ B.rt B.rs
def wRetN : WS := fun B ρ => B.rt .none ρ
def wDrop (w : WE) : WS := fun B ρ => w ρ (fun _ ρ' => B.nx ρ') B.rs
def wIfS (t : WT) (a b : WS) : WS := fun B ρ => t ρ (fun c ρ' => if c = true then a B ρ' else b B ρ') B.rs
def wBreak : WS := fun B ρ => B.bk ρ
def wCont : WS := fun B ρ => B.ct ρ
def wRaise (c : Addr) : WS := fun B ρ => B.rs c ρ

theorem dsNil : PSs X [] (cS K W wNext) := pssI pss_nil fun D σ H ⟨θ, π, α, ρ, B, hR, hw, hf⟩ => hf.nx α σ H ρ hR (Stp.refl ..) hw
theorem dsCons {s : Stmt} {rest : List Stmt} {a b : WS} (h1 : PS X s (cS K W a)) (h2 : PSs X rest (cS K W b)) : PSs X (s :: rest) (cS K W (wSeq a b)) := pssI (pss_cons h1 h2) fun D σ H ⟨θ, π, α, ρ, B, hR, hw, hf⟩ =>
  ⟨θ, π, α, ρ, _, hR, hw, ⟨fun α' σ' H' ρ' r s q => ⟨θ, π, α', ρ', B, r, q, hf.step s⟩, hf.bk, hf.ct, hf.rt, hf.rf, hf.rs⟩⟩
theorem dsOne {s : Stmt} {a : WS} (h1 : PS X s (cS K W a)) : PSs X [s] (cS K W a) := pss_one h1
theorem dPass {pos : Pos} : PS X (.Pass pos) (cS K W wNext) := psI ps_pass fun D σ H ⟨θ, π, α, ρ, B, hR, hw, hf⟩ => hf.nx α σ H ρ hR (Stp.refl ..) hw
theorem dBreak {pos : Pos} : PS X (.Break pos) (cS K W wBreak) := psI ps_break fun D σ H ⟨θ, π, α, ρ, B, hR, hw, hf⟩ => hf.bk α σ H ρ hR (Stp.refl ..) hw
theorem dCont {pos : Pos} : PS X (.Continue pos) (cS K W wCont) := psI ps_continue fun D σ H ⟨θ, π, α, ρ, B, hR, hw, hf⟩ => hf.ct α σ H ρ hR (Stp.refl ..) hw
theorem dSet {i : Nat} {s : Stmt} {w : WE} (h : PS X s (tAsg (cE K W w) (gName i))) : PS X s (cS K W (wSet i w)) := psI h fun D σ H ⟨θ, π, α, ρ, B, hR, hw, hf⟩ =>
  ⟨θ, π, α, ρ, _, _, hR, hw, fun α1 v H1 d ρ1 R1 s1 p1 w1 => by
    obtain ⟨a1, a2, a3⟩ := asgV_of w1
    obtain ⟨α', r, s⟩ := R1.put a1 a2 p1
    exact hf.nx α' _ H1 _ r (s1.trans s) a3, hf.exi⟩
theorem dAsg {s : Stmt} {w : WE} {g : WG} (h : PS X s (tAsg (cE K W w) (cG K W g))) : PS X s (cS K W (wAsg w g)) := psI h fun D σ H ⟨θ, π, α, ρ, B, hR, hw, hf⟩ =>
  ⟨θ, π, α, ρ, _, _, hR, hw, fun α1 v H1 d ρ1 R1 s1 p1 w1 =>
    ⟨θ, π, α1, ρ1, d, _, _, R1, p1, w1, fun α2 σ2 H2 ρ2 R2 s2 w2 => hf.nx α2 σ2 H2 ρ2 R2 (s1.trans s2) w2, hf.exi.step s1⟩, hf.exi⟩
/-- a slot gets a new list of its own -/
theorem Rel.own {i : Nat} {vs : List V} {ds : List D} (r : Rel K (th θ p) π α σ H ρ) (np : ¬ θ p) (h : H p = some (.lst vs)) (hd : DpAll K (hidS (Sof (th θ p) α) H) vs ds) (hi : i < ρ.length) (hn : ∀ ds, ρ[i]? ≠ some (.io ds)) :
    ∃ α', Rel K θ π α' (σ.set i (some (.ref p))) H (ρ.set i (.ow ds)) ∧ Ex (hidS (Sof (th θ p) α) H) (hidS (Sof θ α') H) := by
  have hπ : π i = none := by
    cases q : π i with
    | none => rfl
    | some a => obtain ⟨ds, z⟩ := r.pin i a q; exact absurd z (hn ds)
  have hx : Ex (hidS (Sof (th θ p) α) H) (hidS (Sof θ (fun k => if k = i then some p else α k)) H) := fun b o q => by
    unfold hidS at q ⊢
    split at q
    · cases q
    · rename_i hh
      rw [if_neg]
      · exact q
      · rintro (z | ⟨k, z⟩)
        · exact hh (.inl (.inl z))
        · by_cases e : k = i
          · subst e; simp at z; exact hh (Sof_th.mpr (.inr z.symm))
          · exact hh (.inr ⟨k, by simpa [e] using z⟩)
  refine ⟨fun k => if k = i then some p else α k, ⟨by simpa using r.len, fun k l b q1 q2 => ?_, fun k b q => ?_, fun b z => r.lv b (.inl z), fun k b q => ?_, fun k b q => ?_, fun k s q => ?_⟩, hx⟩
  · by_cases e1 : k = i
    · by_cases e2 : l = i
      · rw [e1, e2]
      · subst e1
        simp at q1
        subst q1
        exact absurd (Or.inr rfl) (r.ap l p (by simpa [e2] using q2))
    · by_cases e2 : l = i
      · subst e2
        simp at q2
        subst q2
        exact absurd (Or.inr rfl) (r.ap k p (by simpa [e1] using q1))
      · exact r.inj k l b (by simpa [e1] using q1) (by simpa [e2] using q2)
  · by_cases e1 : k = i
    · subst e1; simp at q; subst q; exact np
    · exact fun z => r.ap k b (by simpa [e1] using q) (.inl z)
  · by_cases e1 : k = i
    · subst e1; exact ⟨_, List.getElem?_set_self hi, trivial⟩
    · obtain ⟨s, z1, z2⟩ := r.dom k b (by simpa [e1] using q)
      exact ⟨s, by rw [List.getElem?_set_ne (Ne.symm e1)]; exact z1, z2⟩
  · have e1 : k ≠ i := fun z => by subst z; rw [hπ] at q; cases q
    obtain ⟨es, z⟩ := r.pin k b q
    exact ⟨es, by rw [List.getElem?_set_ne (Ne.symm e1)]; exact z⟩
  · by_cases e1 : k = i
    · subst e1
      rw [List.getElem?_set_self hi] at q
      cases q
      exact ⟨p, vs, by simp, hπ, List.getElem?_set_self (by rw [← r.len]; exact hi), h, dpA_mono hx hd⟩
    · rw [List.getElem?_set_ne (Ne.symm e1)] at q
      have z := (r.sl k s q).re (θ' := θ) (α' := fun k => if k = i then some p else α k) (H' := H) (by simp [e1]) hx fun _ _ _ z => z
      have es : (σ.set i (some (V.ref p)))[k]? = σ[k]? := List.getElem?_set_ne (Ne.symm e1)
      cases s with
      | no => trivial
      | va d => obtain ⟨w, z1, z2⟩ := z; exact ⟨w, es.trans z1, z2⟩
      | ow ds => obtain ⟨a, vs, z1, z2, z3, z4⟩ := z; exact ⟨a, vs, z1, z2, es.trans z3, z4⟩
      | io ds => obtain ⟨a, vs, z1, z2, z3, z4⟩ := z; exact ⟨a, vs, z1, z2, es.trans z3, z4⟩
      | ex a => exact es.trans z
theorem dSetO {i : Nat} {s : Stmt} {w : WA} (h : PS X s (tAsg (cF K W w) (gName i))) : PS X s (cS K W (wSetO i w)) := psI h fun D σ H ⟨θ, π, α, ρ, B, hR, hw, hf⟩ =>
  ⟨θ, π, α, ρ, _, _, hR, hw, fun α1 p vs H1 ds ρ1 R1 s1 np h1 p1 w1 => by
    obtain ⟨a1, a2, a3⟩ := asgV_of w1
    obtain ⟨α', r, s⟩ := R1.own np h1 p1 a1 a2
    exact hf.nx α' _ H1 _ r ⟨s1.1.trans s, s1.2⟩ a3, hf.exi⟩
theorem dRet {s : Stmt} {w : WE} (h : PS X s (tRet (cE K W w))) : PS X s (cS K W (wRet w)) := psI h fun D σ H ⟨θ, π, α, ρ, B, hR, hw, hf⟩ =>
  ⟨θ, π, α, ρ, _, _, hR, hw, fun α1 v H1 d ρ1 R1 s1 p1 w1 => hf.rt α1 σ H1 v d ρ1 R1 s1 p1 w1, hf.exi⟩
def wRetF (w : WA) : WS := fun B ρ => w ρ B.rf B.rs
theorem dRetF {s : Stmt} {w : WA} (h : PS X s (tRet (cF K W w))) : PS X s (cS K W (wRetF w)) := psI h fun D σ H ⟨θ, π, α, ρ, B, hR, hw, hf⟩ =>
  ⟨θ, π, α, ρ, _, _, hR, hw, fun α1 p vs H1 ds ρ1 R1 s1 np h1 p1 w1 => hf.rf α1 σ p vs H1 ds ρ1 R1 s1 np h1 p1 w1, hf.exi⟩
theorem dDrop {s : Stmt} {w : WE} (h : PS X s (tDrop (cE K W w))) : PS X s (cS K W (wDrop w)) := psI h fun D σ H ⟨θ, π, α, ρ, B, hR, hw, hf⟩ =>
  ⟨θ, π, α, ρ, _, _, hR, hw, fun α1 v H1 d ρ1 R1 s1 p1 w1 => hf.nx α1 σ H1 ρ1 R1 s1 w1, hf.exi⟩
theorem dIfS {s : Stmt} {t : WT} {a b : WS} (h : PS X s (tIfS (cT K W t) (cS K W a) (cS K W b))) : PS X s (cS K W (wIfS t a b)) := psI h fun D σ H ⟨θ, π, α, ρ, B, hR, hw, hf⟩ =>
  ⟨θ, π, α, ρ, _, _, hR, hw, fun α1 H1 c ρ1 R1 s1 w1 => by
    cases c with
    | true => rw [if_pos rfl] at w1 ⊢; exact ⟨θ, π, α1, ρ1, B, R1, w1, hf.step s1⟩
    | false => rw [if_neg Bool.false_ne_true] at w1 ⊢; exact ⟨θ, π, α1, ρ1, B, R1, w1, hf.step s1⟩, hf.exi⟩
theorem dRaise {s : Stmt} {c : Addr} (h : PS X s (fun _ σ H => W (.ref c) none σ H)) : PS X s (cS K W (wRaise c)) := psI h fun D σ H ⟨θ, π, α, ρ, B, hR, hw, hf⟩ => hf.rs α σ H c ρ hR (Stp.refl ..) hw

/-! lists in their slots, changed -/
/-- what an owned slot holds -/
def ownd (ρ : En) (j : Nat) (k : List D → (List D → En) → Prop) : Prop := match ρ[j]? with
  | some (.ow ds) => k ds fun es => ρ.set j (.ow es)
  | some (.io ds) => k ds fun es => ρ.set j (.io es)
  | _ => False
theorem Rel.change {j : Nat} {k : List D → (List D → En) → Prop} (r : Rel K θ π α σ H ρ) (h : ownd ρ j k) : ∃ a vs ds f, σ[j]? = some (some (.ref a)) ∧ H a = some (.lst vs) ∧ DpAll K (hidS (Sof θ α) H) vs ds ∧ k ds f ∧
    ∀ vs' es, DpAll K (hidS (Sof θ α) H) vs' es → Rel K θ π α σ (upd H a (.lst vs')) (f es) ∧ Stp θ α H α (upd H a (.lst vs')) := by
  have key : ∀ (io : Bool) (a : Addr) (vs : List V) (ds : List D), α j = some a → j < ρ.length → H a = some (.lst vs) → (io = false → π j = none ∧ ρ[j]? = some (.ow ds)) → (io = true → π j = some a ∧ ρ[j]? = some (.io ds)) → σ[j]? = some (some (.ref a)) →
      ∀ vs' es, DpAll K (hidS (Sof θ α) H) vs' es → Rel K θ π α σ (upd H a (.lst vs')) (ρ.set j (if io then .io es else .ow es)) ∧ Stp θ α H α (upd H a (.lst vs')) := by
    intro io a vs ds ha hj h1 hio0 hio1 hs vs' es hd
    have hS : Sof θ α a := .inr ⟨j, ha⟩
    have hh : hidS (Sof θ α) (upd H a (.lst vs')) = hidS (Sof θ α) H := by
      funext b
      unfold hidS
      by_cases z : Sof θ α b
      · rw [if_pos z, if_pos z]
      · rw [if_neg z, if_neg z, upd_ne (fun q => by subst q; exact z hS)]
    refine ⟨⟨by simpa using r.len, r.inj, r.ap, fun b z => ?_, fun k b q => ?_, fun k b q => ?_, fun k s q => ?_⟩, ⟨by rw [hh]; exact Ex.refl _, fun b z => upd_ne (fun q => by subst q; exact r.ap j b ha z)⟩⟩
    · rw [upd_ne (fun q => by subst q; exact r.ap j b ha z)]; exact r.lv b z
    · by_cases e1 : k = j
      · subst e1; exact ⟨_, List.getElem?_set_self hj, by cases io <;> trivial⟩
      · obtain ⟨s, z1, z2⟩ := r.dom k b q
        exact ⟨s, by rw [List.getElem?_set_ne (Ne.symm e1)]; exact z1, z2⟩
    · by_cases e1 : k = j
      · subst e1
        cases io with
        | false => rw [(hio0 rfl).1] at q; cases q
        | true => exact ⟨es, by rw [List.getElem?_set_self hj]; rfl⟩
      · obtain ⟨s, z1⟩ := r.pin k b q
        exact ⟨s, by rw [List.getElem?_set_ne (Ne.symm e1)]; exact z1⟩
    · by_cases e1 : k = j
      · subst e1
        rw [List.getElem?_set_self hj] at q
        cases q
        cases io with
        | false => exact ⟨a, vs', ha, (hio0 rfl).1, hs, upd_same, by rw [hh]; exact hd⟩
        | true => exact ⟨a, vs', ha, (hio1 rfl).1, hs, upd_same, by rw [hh]; exact hd⟩
      · rw [List.getElem?_set_ne (Ne.symm e1)] at q
        exact (r.sl k s q).re rfl (by rw [hh]; exact Ex.refl _) fun b ws hb z => by
          rw [upd_ne (fun q => by subst q; exact e1 (r.inj k j b hb ha))]; exact z
  unfold Den.ownd at h
  split at h
  · rename_i ds e
    obtain ⟨a, vs, h1, h2, h3, h4, h5⟩ := r.sl j _ e
    exact ⟨a, vs, ds, _, h3, h4, h5, h, fun vs' es hd => key false a vs ds h1 (List.getElem?_eq_some_iff.mp e).1 h4 (fun _ => ⟨h2, e⟩) (fun z => by cases z) h3 vs' es hd⟩
  · rename_i ds e
    obtain ⟨a, vs, h1, h2, h3, h4, h5⟩ := r.sl j _ e
    exact ⟨a, vs, ds, _, h3, h4, h5, h, fun vs' es hd => key true a vs ds h1 (List.getElem?_eq_some_iff.mp e).1 h4 (fun z => by cases z) (fun _ => ⟨h2, e⟩) h3 vs' es hd⟩
  · exact h.elim
/-- xs.append(e) -/
def wApp (j : Nat) (w : WE) : WS := fun B ρ => (∃ k, ownd ρ j k) ∧ w ρ (fun d ρ' => ownd ρ' j fun ds f => ds.length < sizeLine ∧ B.nx (f (ds ++ [d]))) B.rs
theorem dApp {j : Nat} {s : Stmt} {w : WE} (h : PS X s (tDrop (tBM K "list" rAppend (tVar j) (tCons (cE K W w) tNil)))) : PS X s (cS K W (wApp j w)) := psI h fun D σ H ⟨θ, π, α, ρ, B, hR, hw, hf⟩ => by
  obtain ⟨⟨k0, hk0⟩, hw⟩ := hw
  obtain ⟨a0, vs0, ds0, f0, hs0, h0, _, _, _⟩ := hR.change hk0
  refine ⟨.ref a0, hs0, .inl ⟨rfl, vs0, .inl (.inl h0)⟩, θ, π, α, ρ, _, _, hR, hw, fun α1 v H1 d ρ1 R1 s1 p1 w1 => ?_, hf.exi⟩
  obtain ⟨a, vs, ds, f, hs, h1, hd, ⟨hl, hn⟩, hc⟩ := R1.change w1
  rw [hs0] at hs
  cases hs
  obtain ⟨r2, s2⟩ := hc (vs ++ [v]) (ds ++ [d]) (dpA_app hd (.cons p1 .nil))
  exact ⟨a0, vs, v, rfl, rfl, h1, by rw [dpA_len hd]; exact hl, hf.nx α1 σ _ _ r2 (s1.trans s2) hn⟩
/-- xs[i] = e -/
def wPut (j : Nat) (w : WE) (wi : WL) : WS := fun B ρ => w ρ (fun d ρ1 => (∃ k, ownd ρ1 j k) ∧ wi ρ1 (fun L ρ2 => ∃ (z : Int), L ρ2 (.int z) ∧ ownd ρ2 j fun ds f => ∃ m, ixN ds.length z = some m ∧ B.nx (f (ds.set m d))) B.rs) B.rs
theorem dPut {j : Nat} {s : Stmt} {w : WE} {wi : WL} (h : PS X s (tAsg (cE K W w) (gSub (tVar j) (cL K W wi) rSetL))) : PS X s (cS K W (wPut j w wi)) := psI h fun D σ H ⟨θ, π, α, ρ, B, hR, hw, hf⟩ => by
  refine ⟨θ, π, α, ρ, _, _, hR, hw, fun α1 v H1 d ρ1 R1 s1 p1 w1 => ?_, hf.exi⟩
  obtain ⟨⟨k0, hk0⟩, w1⟩ := w1
  obtain ⟨a0, vs0, ds0, f0, hs0, h0, _, _, _⟩ := R1.change hk0
  refine ⟨.ref a0, hs0, θ, π, α1, ρ1, _, _, R1, w1, fun α2 u H2 L ρ2 R2 s2 l2 w2 => ?_, hf.exi.step s1⟩
  obtain ⟨z, hz, w2⟩ := w2
  have ez := (l2 α2 H2 ρ2 R2 (Stp.refl ..) _ hz).int
  subst ez
  obtain ⟨a, vs, ds, f, hs, h1, hd, ⟨m, hm, hn⟩, hc⟩ := R2.change w2
  rw [hs0] at hs
  cases hs
  obtain ⟨r3, s3⟩ := hc (vs.set m v) (ds.set m d) (dpA_set (dp_mono s2.1 p1) m hd)
  exact ⟨a0, vs, z, m, rfl, rfl, h1, by rw [dpA_len hd]; exact hm, hf.nx α2 σ _ _ r3 ((s1.trans s2).trans s3) hn⟩
/-- a, b, c = a list's items, a tuple's (read, not kept) -/
def wUnp (is : List Nat) (w : WL) : WS := fun B ρ => w ρ (fun L ρ1 => ∃ ds, L ρ1 (.list ds) ∧ asgAll is ds ρ1 B.nx) B.rs
def wUnpT (is : List Nat) (w : WL) : WS := fun B ρ => w ρ (fun L ρ1 => ∃ ds, L ρ1 (.tuple ds) ∧ asgAll is ds ρ1 B.nx) B.rs
theorem dUnp {is : List Nat} {s : Stmt} {w : WL} {n : Nat} (h : PS X s (tAsg (cL K W w) (gLst K n (gNames is)))) (hn : is.length = n := by rfl) : PS X s (cS K W (wUnp is w)) := psI h fun D σ H ⟨θ, π, α, ρ, B, hR, hw, hf⟩ => by
  refine ⟨θ, π, α, ρ, _, _, hR, hw, fun α1 v H1 L ρ1 R1 s1 l1 w1 => ?_, hf.exi⟩
  obtain ⟨ds, hl, w1⟩ := w1
  obtain ⟨a, vs, rfl, h1, hd⟩ := (l1 α1 H1 ρ1 R1 (Stp.refl ..) _ hl).lst
  exact ⟨a, vs, rfl, h1, by rw [dpA_len hd, asgAll_len w1, hn], can_names is vs σ H1 _ R1 hd w1 fun α' σ' ρ' r s k => hf.nx α' σ' H1 ρ' r (s1.trans s) k⟩
theorem dUnpT {is : List Nat} {s : Stmt} {w : WL} {n : Nat} (h : PS X s (tAsg (cL K W w) (gTup K n (gNames is)))) (hn : is.length = n := by rfl) : PS X s (cS K W (wUnpT is w)) := psI h fun D σ H ⟨θ, π, α, ρ, B, hR, hw, hf⟩ => by
  refine ⟨θ, π, α, ρ, _, _, hR, hw, fun α1 v H1 L ρ1 R1 s1 l1 w1 => ?_, hf.exi⟩
  obtain ⟨ds, hl, w1⟩ := w1
  obtain ⟨a, vs, rfl, h1, hd⟩ := (l1 α1 H1 ρ1 R1 (Stp.refl ..) _ hl).tup
  exact ⟨a, vs, rfl, h1, by rw [dpA_len hd, asgAll_len w1, hn], can_names is vs σ H1 _ R1 hd w1 fun α' σ' ρ' r s k => hf.nx α' σ' H1 ρ' r (s1.trans s) k⟩

/-! what is walked -/
abbrev WI := En → (List D → En → Prop) → EC → Prop
def Walks (K : PySem.W.Frag) (J : It) (G : Hp) (ds : List D) : Prop := ∀ (S2 : Addr → Prop) (H2 : Hp) (i : Nat), Live S2 H2 → Ex G (hidS S2 H2) → (i = ds.length → J.stop i H2) ∧ ∀ d, ds[i]? = some d → J.go i H2 ∧ ∀ x H3, J.yld i H2 x H3 → Ex H2 H3 ∧ Dp K (hidS S2 H3) x d
def cI (K : PySem.W.Frag) (W : WX) (w : WI) : TI := fun σ H R' => ∃ θ π α ρ R E, Rel K θ π α σ H ρ ∧ w ρ R E ∧
  (∀ α' J H' ds ρ', Rel K θ π α' σ H' ρ' → Stp θ α H α' H' → Walks K J (hidS (Sof θ α') H') ds → R ds ρ' → R' J H') ∧ Exi K W θ π α σ H E
theorem walks_list {a : Addr} {G : Hp} {vs : List V} {ds : List D} (h : SqL K G a vs) (hd : DpAll K G vs ds) : Walks K (Itl K a) G ds := fun S2 H2 i hl hx => by
  have h2 : SqL K H2 a vs := ex_l (hx.trans hidS_ex) h
  refine ⟨fun e => ⟨vs, h2, by rw [dpA_len hd, e]; exact Nat.le_refl _⟩, fun d hi => ?_⟩
  obtain ⟨v, q1, q2⟩ := dpA_get hd hi
  refine ⟨⟨vs, v, h2, q1⟩, fun x H3 y => ?_⟩
  obtain ⟨e, y⟩ := y
  subst e
  have z := y vs h2
  rw [q1] at z
  cases z
  exact ⟨Ex.refl _, dp_mono hx q2⟩
theorem walks_tup {a : Addr} {G : Hp} {vs : List V} {ds : List D} (h : SqT K G a vs) (hd : DpAll K G vs ds) : Walks K (Itt K a) G ds := fun S2 H2 i hl hx => by
  have h2 : SqT K H2 a vs := ex_t (hx.trans hidS_ex) h
  refine ⟨fun e => ⟨vs, h2, by rw [dpA_len hd, e]; exact Nat.le_refl _⟩, fun d hi => ?_⟩
  obtain ⟨v, q1, q2⟩ := dpA_get hd hi
  refine ⟨⟨vs, v, h2, q1⟩, fun x H3 y => ?_⟩
  obtain ⟨e, y⟩ := y
  subst e
  have z := y vs h2
  rw [q1] at z
  cases z
  exact ⟨Ex.refl _, dp_mono hx q2⟩
def rng (lo : Int) (n : Nat) : List D := (List.range n).map fun k => .int (lo + (k : Nat))
theorem walks_rng {lo : Int} {n : Nat} {G : Hp} : Walks K (Itr lo n) G (rng lo n) := fun S2 H2 i hl hx => by
  refine ⟨fun e => ?_, fun d hi => ?_⟩
  · show n ≤ i
    rw [e]; simp [rng]
  · unfold rng at hi
    rw [List.getElem?_map] at hi
    cases q : (List.range n)[i]? with
    | none => rw [q] at hi; cases hi
    | some k =>
      rw [q] at hi
      cases hi
      obtain ⟨h1, h2⟩ := List.getElem?_eq_some_iff.mp q
      simp at h1 h2
      subst h2
      exact ⟨h1, fun x H3 ⟨e, y⟩ => by subst e y; exact ⟨Ex.refl _, .int _⟩⟩
/-- over a list, a tuple -/
def wiL (w : WE) : WI := fun ρ R E => w ρ (fun d ρ' => ∃ ds, d = .list ds ∧ R ds ρ') E
def wiT (w : WE) : WI := fun ρ R E => w ρ (fun d ρ' => ∃ ds, d = .tuple ds ∧ R ds ρ') E
/-- range(n), range(a, b) -/
def wiR1 (wa : WA) : WI := fun ρ R E => wa ρ (fun ds ρ' => ∃ n : Int, ds = [.int n] ∧ (-(2 ^ 62) ≤ n ∧ n < 2 ^ 62) ∧ R (rng 0 n.toNat) ρ') E
def wiR2 (wa : WA) : WI := fun ρ R E => wa ρ (fun ds ρ' => ∃ a b : Int, ds = [.int a, .int b] ∧ (-(2 ^ 62) ≤ a ∧ a < 2 ^ 62 ∧ -(2 ^ 62) ≤ b ∧ b < 2 ^ 62) ∧ R (rng a (b - a).toNat) ρ') E
theorem diL {tg e : Expr} {w : WE} (h : PI X tg e (iList K (cE K W w))) : PI X tg e (cI K W (wiL w)) := piI h fun σ H Q ⟨θ, π, α, ρ, R, E, hR, hw, hq, he⟩ =>
  ⟨θ, π, α, ρ, _, E, hR, hw, fun α1 v H1 d ρ1 R1 s1 p1 w1 => by
    obtain ⟨ds, rfl, w1⟩ := w1
    cases p1 with
    | lst h1 hs => exact ⟨_, rfl, ⟨_, ex_l hidS_ex h1⟩, hq α1 _ H1 ds ρ1 R1 s1 (walks_list h1 hs) w1⟩, he⟩
theorem diT {tg e : Expr} {w : WE} (h : PI X tg e (iTup K (cE K W w))) : PI X tg e (cI K W (wiT w)) := piI h fun σ H Q ⟨θ, π, α, ρ, R, E, hR, hw, hq, he⟩ =>
  ⟨θ, π, α, ρ, _, E, hR, hw, fun α1 v H1 d ρ1 R1 s1 p1 w1 => by
    obtain ⟨ds, rfl, w1⟩ := w1
    cases p1 with
    | tup h1 hs => exact ⟨_, rfl, ⟨_, ex_t hidS_ex h1⟩, hq α1 _ H1 ds ρ1 R1 s1 (walks_tup h1 hs) w1⟩, he⟩
theorem dp_int {v : V} {i : Int} (h : Dp K H v (.int i)) : v = .int i := by cases h; rfl
theorem diR1 {tg e : Expr} {n : Nat} {w : WA} (h : PI X tg e (iRng1 (cA K W n w))) : PI X tg e (cI K W (wiR1 w)) := piI h fun σ H Q ⟨θ, π, α, ρ, R, E, hR, hw, hq, he⟩ =>
  ⟨θ, π, α, ρ, _, E, hR, hw, fun α1 vs H1 ds ρ1 R1 s1 p1 l1 w1 => by
    obtain ⟨n, rfl, ⟨b1, b2⟩, w1⟩ := w1
    cases p1 with
    | cons h1 hs =>
      cases hs
      cases dp_int h1
      exact ⟨n, rfl, b1, b2, hq α1 _ H1 _ ρ1 R1 s1 walks_rng w1⟩, he⟩
theorem diR2 {tg e : Expr} {n : Nat} {w : WA} (h : PI X tg e (iRng2 (cA K W n w))) : PI X tg e (cI K W (wiR2 w)) := piI h fun σ H Q ⟨θ, π, α, ρ, R, E, hR, hw, hq, he⟩ =>
  ⟨θ, π, α, ρ, _, E, hR, hw, fun α1 vs H1 ds ρ1 R1 s1 p1 l1 w1 => by
    obtain ⟨a, b, rfl, bs, w1⟩ := w1
    cases p1 with
    | cons h1 hs =>
      cases hs with
      | cons h2 hs =>
        cases hs
        cases dp_int h1
        cases dp_int h2
        exact ⟨a, b, rfl, bs, hq α1 _ H1 _ ρ1 R1 s1 walks_rng w1⟩, he⟩

/-! loops -/
def wFor (wi : WI) (wg : WG) (wb : WS) : WS := fun B ρ => wi ρ (fun ds ρ1 => ∃ Inv : Nat → En → Prop, Inv 0 ρ1 ∧
  (∀ i d ρ', ds[i]? = some d → Inv i ρ' → wg d ρ' (fun ρ2 => wb { B with nx := Inv (i + 1), ct := Inv (i + 1), bk := B.nx } ρ2) B.rs) ∧ ∀ ρ', Inv ds.length ρ' → B.nx ρ') B.rs
theorem dFor {s : Stmt} {wi : WI} {wg : WG} {wb : WS} (h : PS X s (tFor (cI K W wi) (cG K W wg) (cS K W wb))) : PS X s (cS K W (wFor wi wg wb)) := psI h fun De σ H ⟨θ, π, α, ρ, B, hR, hw, hf⟩ => by
  refine ⟨θ, π, α, ρ, _, _, hR, hw, fun α1 J H1 ds ρ1 R1 s1 hJ w1 => ?_, hf.exi⟩
  obtain ⟨Inv, i0, step, fin⟩ := w1
  refine ⟨fun i m σ' H' => m = ds.length - i ∧ i ≤ ds.length ∧ ∃ α' ρ', Rel K θ π α' σ' H' ρ' ∧ Stp θ α1 H1 α' H' ∧ Inv i ρ', ⟨_, rfl, Nat.zero_le _, α1, ρ1, R1, Stp.refl .., i0⟩, ?_⟩
  rintro i m σ' H' ⟨rfl, hi, α', ρ', R', s', iv⟩
  obtain ⟨j1, j2⟩ := hJ _ H' i R'.live s'.1
  by_cases hlt : i < ds.length
  · obtain ⟨g1, g2⟩ := j2 ds[i] (by simp [hlt])
    refine .inr ⟨g1, fun σ2 H2 => ∃ α2 ρ2, Rel K θ π α2 σ2 H2 ρ2 ∧ Stp θ α1 H1 α2 H2 ∧ Inv (i + 1) ρ2, fun σ2 H2 ⟨α2, ρ2, r2, s2, v2⟩ => ⟨ds.length - (i + 1), by omega, rfl, hlt, α2, ρ2, r2, s2, v2⟩, fun x H3 y => ?_⟩
    obtain ⟨ex, dp⟩ := g2 x H3 y
    refine ⟨θ, π, α', ρ', ds[i], _, _, R'.ext ex, dp, step i ds[i] ρ' (by simp [hlt]) iv, fun α4 σ4 H4 ρ4 R4 s4 w4 => ?_, hf.exi.step ((s1.trans s').trans (R'.stp ex))⟩
    have s5 := (s'.trans (R'.stp ex)).trans s4
    refine ⟨θ, π, α4, ρ4, _, R4, w4, ⟨fun α6 σ6 H6 ρ6 R6 s6 w6 => ⟨α6, ρ6, R6, s5.trans s6, w6⟩, fun α6 σ6 H6 ρ6 R6 s6 w6 => hf.nx α6 σ6 H6 ρ6 R6 ((s1.trans s5).trans s6) w6, fun α6 σ6 H6 ρ6 R6 s6 w6 => ⟨α6, ρ6, R6, s5.trans s6, w6⟩, (hf.step (s1.trans s5)).rt, (hf.step (s1.trans s5)).rf, (hf.step (s1.trans s5)).rs⟩⟩
  · have e : i = ds.length := by omega
    refine .inl ⟨j1 e, hf.nx α' σ' H' ρ' R' (s1.trans s') (fin ρ' (by rw [← e]; exact iv))⟩
/-- a for, turn by turn -/
def forRun (wg : WG) (wb : WS) (B : Bx) : List D → En → Prop
  | [], ρ => B.nx ρ
  | d :: ds, ρ => wg d ρ (fun ρ2 => wb { B with nx := forRun wg wb B ds, ct := forRun wg wb B ds, bk := B.nx } ρ2) B.rs
theorem for_run {wg : WG} {wb : WS} {B : Bx} {ds : List D} {ρ : En} (h : forRun wg wb B ds ρ) : ∃ Inv : Nat → En → Prop, Inv 0 ρ ∧
    (∀ i d ρ', ds[i]? = some d → Inv i ρ' → wg d ρ' (fun ρ2 => wb { B with nx := Inv (i + 1), ct := Inv (i + 1), bk := B.nx } ρ2) B.rs) ∧ ∀ ρ', Inv ds.length ρ' → B.nx ρ' := by
  refine ⟨fun i => forRun wg wb B (ds.drop i), h, fun i d ρ' hi iv => ?_, fun ρ' iv => ?_⟩
  · obtain ⟨hlt, e⟩ := List.getElem?_eq_some_iff.mp hi
    dsimp only at iv
    rw [List.drop_eq_getElem_cons hlt, e] at iv
    exact iv
  · dsimp only at iv
    rw [List.drop_length] at iv
    exact iv
def wWhile (t : WT) (wb : WS) : WS := fun B ρ => ∃ Inv : Nat → En → Prop, (∃ m, Inv m ρ) ∧ ∀ m ρ', Inv m ρ' → t ρ' (fun c ρ1 => if c = true then wb { B with nx := fun ρ2 => ∃ m', m' < m ∧ Inv m' ρ2, ct := fun ρ2 => ∃ m', m' < m ∧ Inv m' ρ2, bk := B.nx } ρ1 else B.nx ρ1) B.rs
theorem dWhile {s : Stmt} {t : WT} {wb : WS} (h : PS X s (tWhile (cT K W t) (cS K W wb))) : PS X s (cS K W (wWhile t wb)) := psI h fun De σ H ⟨θ, π, α, ρ, B, hR, hw, hf⟩ => by
  obtain ⟨Inv, ⟨m0, i0⟩, step⟩ := hw
  refine ⟨fun m σ' H' => ∃ α' ρ', Rel K θ π α' σ' H' ρ' ∧ Stp θ α H α' H' ∧ Inv m ρ', ⟨m0, α, ρ, hR, Stp.refl .., i0⟩, ?_⟩
  rintro m σ' H' ⟨α', ρ', R', s', iv⟩
  refine ⟨θ, π, α', ρ', _, _, R', step m ρ' iv, fun α1 H1 c ρ1 R1 s1 w1 => ?_, hf.exi.step s'⟩
  cases c with
  | true =>
    rw [if_pos rfl] at w1 ⊢
    refine ⟨fun σ2 H2 => ∃ m', m' < m ∧ ∃ α2 ρ2, Rel K θ π α2 σ2 H2 ρ2 ∧ Stp θ α H α2 H2 ∧ Inv m' ρ2, fun σ2 H2 z => z, ?_⟩
    have s5 := s'.trans s1
    refine ⟨θ, π, α1, ρ1, _, R1, w1, ⟨fun α6 σ6 H6 ρ6 R6 s6 ⟨m', hm, w6⟩ => ⟨m', hm, α6, ρ6, R6, s5.trans s6, w6⟩, fun α6 σ6 H6 ρ6 R6 s6 w6 => hf.nx α6 σ6 H6 ρ6 R6 (s5.trans s6) w6, fun α6 σ6 H6 ρ6 R6 s6 ⟨m', hm, w6⟩ => ⟨m', hm, α6, ρ6, R6, s5.trans s6, w6⟩, (hf.step s5).rt, (hf.step s5).rf, (hf.step s5).rs⟩⟩
  | false =>
    rw [if_neg Bool.false_ne_true] at w1 ⊢
    exact hf.nx α1 σ' H1 ρ1 R1 (s'.trans s1) w1
end
end Den

namespace Den
open PySem L2 Evl PySem.Spec PyProof.Rows
open Classical

def NoE : EC := fun _ _ => False
section
variable {K : PySem.W.Frag} {W : WX} {X : Cx} {θ : Addr → Prop} {π α : Nat → Option Addr} {σ σ2 : L2.St} {H H1 : Hp} {ρ : En} {p : Addr} {o : HO}
theorem Exi.no : Exi K W θ π α σ H NoE := fun _ _ _ _ _ _ _ h => h.elim

/-! slots wiped and put back -/
def setAll (vs : List Nat) (f : Nat → Sl) (ρ : En) : En := vs.foldr (fun v r => r.set v (f v)) ρ
def wipeE (ρ : En) (vs : List Nat) : En := setAll vs (fun _ => .no) ρ
def keepVa (ρ : En) (v : Nat) : Sl := match ρ[v]? with
  | some (.va d) => .va d
  | _ => .no
def back (ρ : En) (vs : List Nat) (ρ4 : En) : En := setAll vs (keepVa ρ) ρ4
def nonown (ρ : En) (v : Nat) : Prop := match ρ[v]? with
  | some (.ow _) => False
  | some (.io _) => False
  | _ => True
def okw (ρ : En) : List Nat → Prop
  | [] => True
  | v :: vs => nonown ρ v ∧ okw ρ vs
theorem okw_mem {v : Nat} : ∀ {vs : List Nat}, okw ρ vs → v ∈ vs → nonown ρ v
  | _ :: _, h, m => by
    rcases List.mem_cons.mp m with e | m
    · rw [e]; exact h.1
    · exact okw_mem h.2 m
theorem setAll_len (vs : List Nat) (f : Nat → Sl) (ρ : En) : (setAll vs f ρ).length = ρ.length := by
  induction vs with
  | nil => rfl
  | cons v vs ih => show ((setAll vs f ρ).set v (f v)).length = _; rw [List.length_set, ih]
theorem setAll_out {f : Nat → Sl} {k : Nat} : ∀ {vs : List Nat}, k ∉ vs → (setAll vs f ρ)[k]? = ρ[k]?
  | [], _ => rfl
  | v :: vs, h => by
    show ((setAll vs f ρ).set v (f v))[k]? = _
    rw [List.getElem?_set_ne (fun e => h (by rw [e]; exact List.mem_cons_self))]
    exact setAll_out fun m => h (List.mem_cons_of_mem _ m)
theorem setAll_in {f : Nat → Sl} {k : Nat} (hk : k < ρ.length) : ∀ {vs : List Nat}, k ∈ vs → (setAll vs f ρ)[k]? = some (f k)
  | v :: vs, h => by
    show ((setAll vs f ρ).set v (f v))[k]? = _
    by_cases e : v = k
    · subst e; exact List.getElem?_set_self (by rw [setAll_len]; exact hk)
    · rw [List.getElem?_set_ne e]
      rcases List.mem_cons.mp h with z | z
      · exact absurd z.symm e
      · exact setAll_in hk z
theorem wipe_out {k : Nat} : ∀ {vs : List Nat}, k ∉ vs → (wipe σ vs)[k]? = σ[k]?
  | [], _ => rfl
  | v :: vs, h => by
    show ((wipe σ vs).set v none)[k]? = _
    rw [List.getElem?_set_ne (fun e => h (by rw [e]; exact List.mem_cons_self))]
    exact wipe_out fun m => h (List.mem_cons_of_mem _ m)
theorem wipe_in {k : Nat} (hk : k < σ.length) : ∀ {vs : List Nat}, k ∈ vs → (wipe σ vs)[k]? = some none
  | v :: vs, h => by
    show ((wipe σ vs).set v none)[k]? = _
    by_cases e : v = k
    · subst e; exact List.getElem?_set_self (by rw [wipe_length]; exact hk)
    · rw [List.getElem?_set_ne e]
      rcases List.mem_cons.mp h with z | z
      · exact absurd z.symm e
      · exact wipe_in hk z
theorem wipe_put {i : Nat} {x : Option V} {vs : List Nat} (h : i ∈ vs) : wipe (σ.set i x) vs = wipe σ vs := by
  apply List.ext_getElem?
  intro k
  by_cases hk : k ∈ vs
  · by_cases hl : k < σ.length
    · rw [wipe_in (by simpa using hl) hk, wipe_in hl hk]
    · rw [List.getElem?_eq_none (by rw [wipe_length]; simpa using hl), List.getElem?_eq_none (by rw [wipe_length]; simpa using hl)]
  · rw [wipe_out hk, wipe_out hk, List.getElem?_set_ne (fun e => hk (by rw [← e]; exact h))]
theorem nonown_pi {k : Nat} {a : Addr} (r : Rel K θ π α σ H ρ) (n : nonown ρ k) (h : α k = some a) : False := by
  obtain ⟨s, h1, h2⟩ := r.dom k a h
  unfold nonown at n
  rw [h1] at n
  cases s with
  | ow => exact n
  | io => exact n
  | no => exact h2
  | va => exact h2
  | ex => exact h2
theorem Rel.wiped {vs : List Nat} (r : Rel K θ π α σ H ρ) (h : okw ρ vs) : Rel K θ π α (wipe σ vs) H (wipeE ρ vs) := by
  refine ⟨by unfold wipeE; rw [setAll_len, wipe_length]; exact r.len, r.inj, r.ap, r.lv, fun k a q => ?_, fun k a q => ?_, fun k s q => ?_⟩
  · have hk : k ∉ vs := fun m => nonown_pi r (okw_mem h m) q
    obtain ⟨s, z⟩ := r.dom k a q
    exact ⟨s, by unfold wipeE; rw [setAll_out hk]; exact z.1, z.2⟩
  · obtain ⟨ds, z⟩ := r.pin k a q
    have hk : k ∉ vs := fun m => by
      have n := okw_mem h m
      unfold nonown at n
      rw [z] at n
      exact n
    exact ⟨ds, by unfold wipeE; rw [setAll_out hk]; exact z⟩
  · by_cases hk : k ∈ vs
    · by_cases hl : k < ρ.length
      · unfold wipeE at q; rw [setAll_in hl hk] at q; cases q; trivial
      · unfold wipeE at q; rw [List.getElem?_eq_none (by rw [setAll_len]; omega)] at q; cases q
    · unfold wipeE at q
      rw [setAll_out hk] at q
      have z := r.sl k s q
      have es : (wipe σ vs)[k]? = σ[k]? := wipe_out hk
      cases s with
      | no => trivial
      | va d => obtain ⟨w, z1, z2⟩ := z; exact ⟨w, es.trans z1, z2⟩
      | ow ds => obtain ⟨a, vs, z1, z2, z3, z4⟩ := z; exact ⟨a, vs, z1, z2, es.trans z3, z4⟩
      | io ds => obtain ⟨a, vs, z1, z2, z3, z4⟩ := z; exact ⟨a, vs, z1, z2, es.trans z3, z4⟩
      | ex a => exact es.trans z
theorem Rel.backed {α1 : Nat → Option Addr} {θ0 : Addr → Prop} {α0 : Nat → Option Addr} {H0 : Hp} {ρ4 : En} {vs : List Nat} (r : Rel K θ π α1 σ2 H1 ρ4) (h : okw ρ4 vs) (e : wipe σ2 vs = wipe σ vs) (r0 : Rel K θ π α0 σ H0 ρ) (s : Stp θ α0 H0 α1 H1) : Rel K θ π α1 σ H1 (back ρ vs ρ4) := by
  have hl : σ2.length = σ.length := by have z := congrArg List.length e; rw [wipe_length, wipe_length] at z; exact z
  have es : ∀ k, k ∉ vs → σ2[k]? = σ[k]? := fun k hk => by rw [← wipe_out (vs := vs) hk, e, wipe_out hk]
  refine ⟨by unfold back; rw [setAll_len, r.len, hl], r.inj, r.ap, r.lv, fun k a q => ?_, fun k a q => ?_, fun k s' q => ?_⟩
  · have hk : k ∉ vs := fun m => nonown_pi r (okw_mem h m) q
    obtain ⟨s, z⟩ := r.dom k a q
    exact ⟨s, by unfold back; rw [setAll_out hk]; exact z.1, z.2⟩
  · obtain ⟨ds, z⟩ := r.pin k a q
    have hk : k ∉ vs := fun m => by
      have n := okw_mem h m
      unfold nonown at n
      rw [z] at n
      exact n
    exact ⟨ds, by unfold back; rw [setAll_out hk]; exact z⟩
  · by_cases hk : k ∈ vs
    · by_cases hl : k < ρ4.length
      · unfold back at q
        rw [setAll_in hl hk] at q
        cases q
        unfold keepVa
        split
        · rename_i d q
          obtain ⟨v, q1, q2⟩ := r0.sl k _ q
          exact ⟨v, q1, dp_mono s.1 q2⟩
        · trivial
      · unfold back at q; rw [List.getElem?_eq_none (by rw [setAll_len]; omega)] at q; cases q
    · unfold back at q
      rw [setAll_out hk] at q
      have z := r.sl k s' q
      have es := es k hk
      cases s' with
      | no => trivial
      | va d => obtain ⟨w, z1, z2⟩ := z; exact ⟨w, es.symm.trans z1, z2⟩
      | ow ds => obtain ⟨a, vs, z1, z2, z3, z4⟩ := z; exact ⟨a, vs, z1, z2, es.symm.trans z3, z4⟩
      | io ds => obtain ⟨a, vs, z1, z2, z3, z4⟩ := z; exact ⟨a, vs, z1, z2, es.symm.trans z3, z4⟩
      | ex a => exact es.symm.trans z

/-! list comprehensions -/
/-- a target that stores names of vs alone -/
def cGv (K : PySem.W.Frag) (W : WX) (vs : List Nat) (w : WG) : TG := fun v σ H Q => ∃ θ π α ρ d R E, Rel K θ π α σ H ρ ∧ Dp K (hidS (Sof θ α) H) v d ∧ w d ρ R E ∧
  (∀ α' σ' H' ρ', Rel K θ π α' σ' H' ρ' → Stp θ α H α' H' → wipe σ' vs = wipe σ vs → R ρ' → Q σ' H') ∧ Exi K W θ π α σ H E
theorem dgvName {i : Nat} {vs : List Nat} {e : Expr} (h : PG X e (gName i)) (hi : i ∈ vs) : PG X e (cGv K W vs (wgName i)) := pgI h fun v σ H Q => by
  rintro ⟨θ, π, α, ρ, d, R, E, hR, hd, hw, hq, he⟩
  obtain ⟨h1, h2, h3⟩ := asgV_of hw
  obtain ⟨α', r, s⟩ := hR.put h1 h2 hd
  exact hq α' _ H _ r s (wipe_put hi) h3
theorem can_namesV {ws : List Nat} : ∀ (is : List Nat) {θ : Addr → Prop} {π α : Nat → Option Addr} {ρ : En} {ds : List D} {k : En → Prop} (vs : List V) (σ : L2.St) (H : Hp) (Q : L2.St → Hp → Prop), (∀ i ∈ is, i ∈ ws) → Rel K θ π α σ H ρ → DpAll K (hidS (Sof θ α) H) vs ds → asgAll is ds ρ k →
    (∀ α' σ' ρ', Rel K θ π α' σ' H ρ' → Stp θ α H α' H → wipe σ' ws = wipe σ ws → k ρ' → Q σ' H) → gNames is vs σ H Q
  | [], _, _, _, _, [], _, vs, σ, H, Q, _, r, hd, h, q => by
    cases hd
    exact ⟨rfl, q _ _ _ r (Stp.refl ..) rfl h⟩
  | [], _, _, _, _, _ :: _, _, vs, σ, H, Q, _, r, hd, h, q => h.elim
  | _ :: _, _, _, _, _, [], _, vs, σ, H, Q, _, r, hd, h, q => h.elim
  | i :: is, θ, π, α, ρ, d :: ds, k, vs, σ, H, Q, hm, r, hd, h, q => by
    cases hd with
    | cons h1 hs =>
      obtain ⟨a1, a2, a3⟩ := asgV_of h
      obtain ⟨α', r', s'⟩ := r.put a1 a2 h1
      refine ⟨_, _, rfl, ?_⟩
      exact can_namesV is _ _ H Q (fun i hi => hm i (List.mem_cons_of_mem _ hi)) r' (dpA_mono s'.1 hs) a3 fun α2 σ2 ρ2 r2 s2 e2 k2 => q α2 σ2 ρ2 r2 (s'.trans s2) (e2.trans (wipe_put (hm i List.mem_cons_self))) k2
theorem dgvTup {is : List Nat} {ws : List Nat} {e : Expr} {n : Nat} (h : PG X e (gTup K n (gNames is))) (hi : ∀ i ∈ is, i ∈ ws) (hn : is.length = n := by rfl) : PG X e (cGv K W ws (wgTup is)) := pgI h fun v σ H Q => by
  rintro ⟨θ, π, α, ρ, d, R, E, hR, hd, hw, hq, he⟩
  obtain ⟨ds, rfl, hw⟩ := hw
  cases hd with
  | tup h1 hs => exact ⟨_, _, rfl, ex_t hidS_ex h1, by rw [dpA_len hs, asgAll_len hw, hn], can_namesV is _ σ H Q hi hR hs hw fun α' σ' ρ' r s e k => hq α' σ' H ρ' r s e k⟩
def wLc (vs : List Nat) (wi : WI) (wg : WG) (wt : WT) (we : WE) : WA := fun ρ R E => wi ρ (fun ds ρ1 => ∃ Inv : Nat → List D → En → Prop, Inv 0 [] ρ1 ∧
  (∀ i d acc ρ', ds[i]? = some d → Inv i acc ρ' → okw ρ' vs ∧ wg d (wipeE ρ' vs) (fun ρ2 => wt ρ2 (fun b ρ3 =>
    if b = true then we ρ3 (fun y ρ4 => acc.length < sizeLine ∧ okw ρ4 vs ∧ Inv (i + 1) (acc ++ [y]) (back ρ' vs ρ4)) NoE else okw ρ3 vs ∧ Inv (i + 1) acc (back ρ' vs ρ3)) NoE) NoE) ∧
  ∀ acc ρ', Inv ds.length acc ρ' → R acc ρ') E
def wYes : WT := fun ρ R _ => R true ρ
theorem dYes : PTs X [] (cT K W wYes) := ptsI pts_nil fun σ H Q ⟨θ, π, α, ρ, R, E, hR, hw, hq, he⟩ => hq α H true ρ hR (Stp.refl ..) hw
/-- a comprehension, turn by turn -/
def lcRun (vs : List Nat) (wg : WG) (wt : WT) (we : WE) (R : List D → En → Prop) : List D → List D → En → Prop
  | [], acc, ρ => R acc ρ
  | d :: ds, acc, ρ => okw ρ vs ∧ wg d (wipeE ρ vs) (fun ρ2 => wt ρ2 (fun b ρ3 =>
    if b = true then we ρ3 (fun y ρ4 => acc.length < sizeLine ∧ okw ρ4 vs ∧ lcRun vs wg wt we R ds (acc ++ [y]) (back ρ vs ρ4)) NoE else okw ρ3 vs ∧ lcRun vs wg wt we R ds acc (back ρ vs ρ3)) NoE) NoE
theorem lc_run {vs : List Nat} {wg : WG} {wt : WT} {we : WE} {R : List D → En → Prop} {ds : List D} {ρ : En} (h : lcRun vs wg wt we R ds [] ρ) : ∃ Inv : Nat → List D → En → Prop, Inv 0 [] ρ ∧
    (∀ i d acc ρ', ds[i]? = some d → Inv i acc ρ' → okw ρ' vs ∧ wg d (wipeE ρ' vs) (fun ρ2 => wt ρ2 (fun b ρ3 =>
      if b = true then we ρ3 (fun y ρ4 => acc.length < sizeLine ∧ okw ρ4 vs ∧ Inv (i + 1) (acc ++ [y]) (back ρ' vs ρ4)) NoE else okw ρ3 vs ∧ Inv (i + 1) acc (back ρ' vs ρ3)) NoE) NoE) ∧
    ∀ acc ρ', Inv ds.length acc ρ' → R acc ρ' := by
  refine ⟨fun i => lcRun vs wg wt we R (ds.drop i), h, fun i d acc ρ' hi iv => ?_, fun acc ρ' iv => ?_⟩
  · obtain ⟨hlt, e⟩ := List.getElem?_eq_some_iff.mp hi
    dsimp only at iv
    rw [List.drop_eq_getElem_cons hlt, e] at iv
    exact iv
  · dsimp only at iv
    rw [List.drop_length] at iv
    exact iv
theorem can_lc {vs : List Nat} {wi : WI} {wg : WG} {wt : WT} {we : WE} (σ : L2.St) (H : Hp) (Q : VK) : cF K W (wLc vs wi wg wt we) σ H Q → tLc (cI K W wi) (cGv K W vs wg) (cT K W wt) (cE K W we) vs σ H Q := by
  rintro ⟨θ, π, α, ρ, R, E, hR, hw, hq, he⟩
  refine ⟨θ, π, α, ρ, _, E, hR, hw, fun α1 J H1 ds ρ1 R1 s1 hJ w1 => ?_, he⟩
  obtain ⟨Inv, i0, step, fin⟩ := w1
  intro Da hD
  have e1 := hid_new (θ := θ) (α := α1) (o := .lst []) hD
  have nD : ¬ θ Da := fun z => R1.lv Da z hD
  have sF0 : Ex (hidS (Sof θ α1) H1) (hidS (Sof (th θ Da) α1) (upd H1 Da (.lst []))) := by rw [e1]; exact Ex.refl _
  refine ⟨fun i m H' => m = ds.length - i ∧ i ≤ ds.length ∧ ∃ α' ρ' xs acc, Rel K (th θ Da) π α' σ H' ρ' ∧ Ex (hidS (Sof θ α1) H1) (hidS (Sof (th θ Da) α') H') ∧ (∀ b, θ b → H' b = H1 b) ∧ H' Da = some (.lst xs) ∧ DpAll K (hidS (Sof (th θ Da) α') H') xs acc ∧ Inv i acc ρ',
    ⟨_, rfl, Nat.zero_le _, α1, ρ1, [], [], R1.hideNew hD, sF0, fun b hb => upd_ne (fun z => by subst z; exact nD hb), upd_same, .nil, i0⟩, ?_⟩
  rintro i m H' ⟨rfl, hi, α', ρ', xs, acc, R', x', f', hDa, hA, iv⟩
  obtain ⟨j1, j2⟩ := hJ _ H' i R'.live x'
  by_cases hlt : i < ds.length
  · obtain ⟨g1, g2⟩ := j2 ds[i] (by simp [hlt])
    refine .inr ⟨g1, fun H2 => i + 1 ≤ ds.length ∧ ∃ α' ρ' xs acc, Rel K (th θ Da) π α' σ H2 ρ' ∧ Ex (hidS (Sof θ α1) H1) (hidS (Sof (th θ Da) α') H2) ∧ (∀ b, θ b → H2 b = H1 b) ∧ H2 Da = some (.lst xs) ∧ DpAll K (hidS (Sof (th θ Da) α') H2) xs acc ∧ Inv (i + 1) acc ρ',
      fun H2 ⟨l2, z⟩ => ⟨ds.length - (i + 1), by omega, rfl, l2, z⟩, fun x H3 y => ?_⟩
    obtain ⟨ex, dp⟩ := g2 x H3 y
    obtain ⟨ok, w2⟩ := step i ds[i] acc ρ' (by simp [hlt]) iv
    have R3 := R'.ext ex
    have s3 := R'.stp ex
    refine ⟨th θ Da, π, α', wipeE ρ' vs, ds[i], _, _, R3.wiped ok, dp, w2, fun α4 σ4 H4 ρ4 R4 s4 e4 w4 => ?_, Exi.no⟩
    refine ⟨e4.trans (by
      apply List.ext_getElem?
      intro k
      by_cases hk : k ∈ vs
      · by_cases hl : k < σ.length
        · rw [wipe_in (by rw [wipe_length]; exact hl) hk, wipe_in hl hk]
        · rw [List.getElem?_eq_none (by rw [wipe_length, wipe_length]; omega), List.getElem?_eq_none (by rw [wipe_length]; omega)]
      · rw [wipe_out hk]), ?_⟩
    have e4' : wipe σ4 vs = wipe σ vs := e4.trans (by
      apply List.ext_getElem?
      intro k
      by_cases hk : k ∈ vs
      · by_cases hl : k < σ.length
        · rw [wipe_in (by rw [wipe_length]; exact hl) hk, wipe_in hl hk]
        · rw [List.getElem?_eq_none (by rw [wipe_length, wipe_length]; omega), List.getElem?_eq_none (by rw [wipe_length]; omega)]
      · rw [wipe_out hk])
    refine ⟨th θ Da, π, α4, ρ4, _, _, R4, w4, fun α5 H5 b ρ5 R5 s5 w5 => ?_, Exi.no⟩
    have s5' := (s3.trans s4).trans s5
    have hDa5 : H5 Da = some (.lst xs) := (s5'.2 Da (.inr rfl)).trans hDa
    have f5 : ∀ b, θ b → H5 b = H1 b := fun b hb => (s5'.2 b (.inl hb)).trans (f' b hb)
    cases b with
    | true =>
      rw [if_pos rfl] at w5
      refine iteT ?_
      refine ⟨th θ Da, π, α5, ρ5, _, _, R5, w5, fun α6 v6 H6 y6 ρ6 R6 s6 p6 w6 => ?_, Exi.no⟩
      obtain ⟨hl, ok6, iv6⟩ := w6
      have s6' := s5'.trans s6
      have hDa6 : H6 Da = some (.lst xs) := (s6.2 Da (.inr rfl)).trans hDa5
      have hS : Sof (th θ Da) α6 Da := .inl (.inr rfl)
      have hh : hidS (Sof (th θ Da) α6) (upd H6 Da (.lst (xs ++ [v6]))) = hidS (Sof (th θ Da) α6) H6 := by
        funext b
        unfold hidS
        by_cases z : Sof (th θ Da) α6 b
        · rw [if_pos z, if_pos z]
        · rw [if_neg z, if_neg z, upd_ne (fun q => by subst q; exact z hS)]
      have Rb := Rel.backed (θ0 := θ) R6 ok6 e4' R' s6'
      have hA6 := dpA_mono s6'.1 hA
      refine ⟨xs, hDa6, by rw [dpA_len hA]; exact hl, hlt, α6, _, _, _, ⟨Rb.len, Rb.inj, Rb.ap, fun b z => ?_, Rb.dom, Rb.pin, fun k s q => (Rb.sl k s q).re rfl (by rw [hh]; exact Ex.refl _) fun a ws ha hb => ?_⟩, by rw [hh]; exact x'.trans s6'.1, fun b hb => ?_, upd_same, by rw [hh]; exact dpA_app hA6 (.cons p6 .nil), iv6⟩
      · by_cases q : b = Da
        · subst q; rw [upd_same]; intro z; cases z
        · rw [upd_ne q]; exact Rb.lv b z
      · rw [upd_ne (fun q => by subst q; exact Rb.ap k _ ha (.inr rfl))]; exact hb
      · rw [upd_ne (fun q => by subst q; exact nD hb)]
        exact (s6.2 b (.inl hb)).trans (f5 b hb)
    | false =>
      rw [if_neg Bool.false_ne_true] at w5
      refine iteF ?_
      obtain ⟨ok5, iv5⟩ := w5
      exact ⟨hlt, α5, _, xs, acc, Rel.backed (θ0 := θ) R5 ok5 e4' R' s5', x'.trans s5'.1, f5, hDa5, dpA_mono s5'.1 hA, iv5⟩
  · have e : i = ds.length := by omega
    refine .inl ⟨j1 e, ?_⟩
    exact hq α' Da xs H' acc ρ' R' ⟨s1.1.trans x', fun b hb => (f' b hb).trans (s1.2 b hb)⟩ nD hDa hA (fin acc ρ' (by rw [← e]; exact iv))
end
end Den

namespace Den
open PySem L2 Evl PySem.Spec PyProof.Rows
open Classical

/-! arguments: data, or a list that is lent -/
inductive Ar where
  | v (d : D) | io (j : Nat)
abbrev WM := En → (List Ar → En → Prop) → EC → Prop
abbrev WF := En → RC → EC → Prop
abbrev WFF := En → (List D → En → Prop) → EC → Prop
inductive ArAll (K : PySem.W.Frag) (σ : L2.St) (G : Hp) : List V → List Ar → Prop
  | nil : ArAll K σ G [] []
  | v {x : V} {d : D} {vs : List V} {as : List Ar} : Dp K G x d → ArAll K σ G vs as → ArAll K σ G (x :: vs) (.v d :: as)
  | io {x : V} {j : Nat} {vs : List V} {as : List Ar} : σ[j]? = some (some x) → ArAll K σ G vs as → ArAll K σ G (x :: vs) (.io j :: as)
def cM (K : PySem.W.Frag) (W : WX) (n : Nat) (w : WM) : TA := fun σ H Q => ∃ θ π α ρ R E, Rel K θ π α σ H ρ ∧ w ρ R E ∧
  (∀ α' vs H' as ρ', Rel K θ π α' σ H' ρ' → Stp θ α H α' H' → ArAll K σ (hidS (Sof θ α') H') vs as → as.length = n → R as ρ' → Q vs H') ∧ Exi K W θ π α σ H E
def wmNil : WM := fun ρ R _ => R [] ρ
def wmV (wa : WE) (wr : WM) : WM := fun ρ R E => wa ρ (fun d ρ1 => wr ρ1 (fun as ρ2 => R (.v d :: as) ρ2) E) E
def wmIo (j : Nat) (wr : WM) : WM := fun ρ R E => (∃ d, rd ρ j = some d) ∧ wr ρ (fun as ρ2 => R (.io j :: as) ρ2) E
/-- the parameters' slots -/
def pars (ρ : En) : List Ar → Option (List Sl)
  | [] => some []
  | .v d :: r => (pars ρ r).map (.va d :: ·)
  | .io j :: r => match ρ[j]? with
    | some (.ow ds) => (pars ρ r).map (.io ds :: ·)
    | some (.io ds) => (pars ρ r).map (.io ds :: ·)
    | _ => none
def ios : List Ar → List Nat
  | [] => []
  | .v _ :: r => ios r
  | .io j :: r => j :: ios r
def setOwn (ρ : En) (j : Nat) (es : List D) : En := match ρ[j]? with
  | some (.ow _) => ρ.set j (.ow es)
  | some (.io _) => ρ.set j (.io es)
  | _ => ρ
def upds (ρ : En) : List Ar → List Sl → En
  | .v _ :: r, _ :: o => upds ρ r o
  | .io j :: r, .io es :: o => setOwn (upds ρ r o) j es
  | _, _ => ρ
section
variable {K : PySem.W.Frag} {W : WX} {X : Cx} {θ : Addr → Prop} {π α : Nat → Option Addr} {σ σ2 : L2.St} {H H1 : Hp} {ρ : En} {p : Addr} {o : HO} {G G' : Hp}
theorem arA_mono (e : Ex G G') : ∀ {vs : List V} {as : List Ar}, ArAll K σ G vs as → ArAll K σ G' vs as
  | _, _, .nil => .nil
  | _, _, .v h r => .v (dp_mono e h) (arA_mono e r)
  | _, _, .io h r => .io h (arA_mono e r)
theorem dmNil : PA X [] (cM K W 0 wmNil) := paI pa_nil fun σ H Q ⟨θ, π, α, ρ, R, E, hR, hw, hq, he⟩ => hq α [] H [] ρ hR (Stp.refl ..) .nil rfl hw
theorem dmV {e : Expr} {es : List Expr} {n : Nat} {wa : WE} {wr : WM} (ha : PE X e (cE K W wa)) (hr : PA X es (cM K W n wr)) (hs : starEach (e :: es) X.env = (false, eval e X.env) :: starEach es X.env := by rfl) : PA X (e :: es) (cM K W (n + 1) (wmV wa wr)) :=
  paI (pa_cons ha hr hs) fun σ H Q ⟨θ, π, α, ρ, R, E, hR, hw, hq, he⟩ => by
    refine ⟨θ, π, α, ρ, _, E, hR, hw, fun α1 v1 H1 d ρ1 R1 s1 p1 w1 => ?_, he⟩
    refine ⟨θ, π, α1, ρ1, _, E, R1, w1, fun α2 vs H2 as ρ2 R2 s2 p2 l2 w2 => ?_, he.step s1⟩
    exact hq α2 (v1 :: vs) H2 (.v d :: as) ρ2 R2 (s1.trans s2) (.v (dp_mono s2.1 p1) p2) (by simp [l2]) w2
theorem dmIo {j : Nat} {x : Str} {pos : Pos} {es : List Expr} {n : Nat} {wr : WM} (ha : PE X (.Name x pos) (tVar j)) (hr : PA X es (cM K W n wr)) (hs : starEach (.Name x pos :: es) X.env = (false, eval (.Name x pos) X.env) :: starEach es X.env := by rfl) : PA X (.Name x pos :: es) (cM K W (n + 1) (wmIo j wr)) :=
  paI (pa_cons ha hr hs) fun σ H Q ⟨θ, π, α, ρ, R, E, hR, hw, hq, he⟩ => by
    obtain ⟨⟨d, hd⟩, hw⟩ := hw
    obtain ⟨v, h1, h2⟩ := hR.rd hd
    refine ⟨v, h1, θ, π, α, ρ, _, E, hR, hw, fun α2 vs H2 as ρ2 R2 s2 p2 l2 w2 => ?_, he⟩
    exact hq α2 (v :: vs) H2 (.io j :: as) ρ2 R2 s2 (.io h1 p2) (by simp [l2]) w2
theorem upds_len : ∀ (as : List Ar) (os : List Sl), (upds ρ as os).length = ρ.length
  | [], os => by cases os <;> rfl
  | .v _ :: r, [] => rfl
  | .v _ :: r, _ :: o => upds_len r o
  | .io j :: r, [] => rfl
  | .io j :: r, .io es :: o => by
    show (setOwn (upds ρ r o) j es).length = _
    unfold setOwn
    split
    · rw [List.length_set, upds_len r o]
    · rw [List.length_set, upds_len r o]
    · exact upds_len r o
  | .io j :: r, .no :: o => rfl
  | .io j :: r, .va _ :: o => rfl
  | .io j :: r, .ow _ :: o => rfl
  | .io j :: r, .ex _ :: o => rfl
theorem setOwn_ne {i j : Nat} {es : List D} (h : i ≠ j) : (setOwn ρ j es)[i]? = ρ[i]? := by
  unfold setOwn
  split
  · exact List.getElem?_set_ne (Ne.symm h)
  · exact List.getElem?_set_ne (Ne.symm h)
  · rfl
theorem upds_out {i : Nat} : ∀ {as : List Ar} {os : List Sl}, i ∉ ios as → (upds ρ as os)[i]? = ρ[i]?
  | [], os, _ => by cases os <;> rfl
  | .v _ :: r, [], _ => rfl
  | .v _ :: r, _ :: o, h => upds_out (as := r) (os := o) h
  | .io j :: r, [], _ => rfl
  | .io j :: r, .io es :: o, h => by
    show (setOwn (upds ρ r o) j es)[i]? = _
    rw [setOwn_ne (fun e => h (by rw [e]; exact List.mem_cons_self))]
    exact upds_out fun m => h (List.mem_cons_of_mem _ m)
  | .io j :: r, .no :: o, _ => rfl
  | .io j :: r, .va _ :: o, _ => rfl
  | .io j :: r, .ow _ :: o, _ => rfl
  | .io j :: r, .ex _ :: o, _ => rfl
theorem ios_at {k j : Nat} : ∀ {as : List Ar}, as[k]? = some (.io j) → j ∈ ios as := fun {as} => by
  induction as generalizing k with
  | nil => intro h; simp at h
  | cons a r ih =>
    intro h
    cases k with
    | zero => simp at h; subst h; exact List.mem_cons_self
    | succ k =>
      have z := ih (k := k) (by simpa using h)
      cases a with
      | v d => exact z
      | io l => exact List.mem_cons_of_mem _ z
theorem ios_of {j : Nat} : ∀ {as : List Ar}, j ∈ ios as → ∃ k : Nat, as[k]? = some (Ar.io j) := fun {as} => by
  induction as with
  | nil => intro h; cases h
  | cons a r ih =>
    intro h
    cases a with
    | v d => obtain ⟨k, z⟩ := ih h; exact ⟨k + 1, by simpa using z⟩
    | io l =>
      rcases List.mem_cons.mp h with e | h
      · exact ⟨0, by rw [e]; rfl⟩
      · obtain ⟨k, z⟩ := ih h; exact ⟨k + 1, by simpa using z⟩
theorem ios_inj : ∀ {as : List Ar} {k l j : Nat}, (ios as).Nodup → as[k]? = some (.io j) → as[l]? = some (.io j) → k = l := fun {as} => by
  induction as with
  | nil => intro k l j _ h; simp at h
  | cons a r ih =>
    intro k l j nd h1 h2
    cases a with
    | v d =>
      cases k with
      | zero => simp at h1
      | succ k => cases l with
        | zero => simp at h2
        | succ l => exact congrArg (· + 1) (ih (k := k) (l := l) (j := j) nd (by simpa using h1) (by simpa using h2))
    | io m =>
      have nd' : m ∉ ios r ∧ (ios r).Nodup := List.nodup_cons.mp nd
      cases k with
      | zero => cases l with
        | zero => rfl
        | succ l =>
          simp at h1
          subst h1
          exact absurd (ios_at (k := l) (by simpa using h2)) nd'.1
      | succ k => cases l with
        | zero =>
          simp at h2
          subst h2
          exact absurd (ios_at (k := k) (by simpa using h1)) nd'.1
        | succ l => exact congrArg (· + 1) (ih (k := k) (l := l) (j := j) nd'.2 (by simpa using h1) (by simpa using h2))
theorem upds_in {j : Nat} {es : List D} : ∀ {as : List Ar} {os : List Sl} {k : Nat}, (ios as).Nodup → as[k]? = some (.io j) → os[k]? = some (.io es) → (∀ (i : Nat) (s : Sl), os[i]? = some s → ∀ l : Nat, as[i]? = some (Ar.io l) → ∃ e, s = Sl.io e) → as.length = os.length →
    (∀ ds, ρ[j]? = some (.ow ds) → (upds ρ as os)[j]? = some (.ow es)) ∧ (∀ ds, ρ[j]? = some (.io ds) → (upds ρ as os)[j]? = some (.io es)) := fun {as} => by
  induction as with
  | nil => intro os k _ h; simp at h
  | cons a r ih =>
    intro os k nd h1 h2 hall hl
    cases os with
    | nil => simp at hl
    | cons s o =>
      have hall' : ∀ (i : Nat) (s : Sl), o[i]? = some s → ∀ l : Nat, r[i]? = some (Ar.io l) → ∃ e, s = Sl.io e := fun i s q l q2 => hall (i + 1) s (by simpa using q) l (by simpa using q2)
      have hl' : r.length = o.length := by simpa using hl
      cases a with
      | v d =>
        cases k with
        | zero => simp at h1
        | succ k => exact ih (k := k) nd (by simpa using h1) (by simpa using h2) hall' hl'
      | io m =>
        have nd' : m ∉ ios r ∧ (ios r).Nodup := List.nodup_cons.mp nd
        obtain ⟨e0, he0⟩ := hall 0 s rfl m rfl
        subst he0
        cases k with
        | zero =>
          simp at h1 h2
          subst h1 h2
          refine ⟨fun ds q => ?_, fun ds q => ?_⟩
          · show (setOwn (upds ρ r o) m e0)[m]? = _
            have z : (upds ρ r o)[m]? = some (.ow ds) := by rw [upds_out nd'.1]; exact q
            unfold setOwn
            rw [z]
            exact List.getElem?_set_self (List.getElem?_eq_some_iff.mp z).1
          · show (setOwn (upds ρ r o) m e0)[m]? = _
            have z : (upds ρ r o)[m]? = some (.io ds) := by rw [upds_out nd'.1]; exact q
            unfold setOwn
            rw [z]
            exact List.getElem?_set_self (List.getElem?_eq_some_iff.mp z).1
        | succ k =>
          have hne : j ≠ m := fun q => by
            subst q
            exact nd'.1 (ios_at (k := k) (by simpa using h1))
          obtain ⟨z1, z2⟩ := ih (k := k) nd'.2 (by simpa using h1) (by simpa using h2) hall' hl'
          exact ⟨fun ds q => by show (setOwn (upds ρ r o) m e0)[j]? = _; rw [setOwn_ne hne]; exact z1 ds q, fun ds q => by show (setOwn (upds ρ r o) m e0)[j]? = _; rw [setOwn_ne hne]; exact z2 ds q⟩
/-- what the parameters' slots are -/
theorem pars_at : ∀ {as : List Ar} {ps : List Sl}, pars ρ as = some ps → ps.length = as.length ∧ ∀ k : Nat, (∀ d : D, as[k]? = some (Ar.v d) → ps[k]? = some (Sl.va d)) ∧ ∀ j : Nat, as[k]? = some (Ar.io j) → ∃ ds : List D, ps[k]? = some (Sl.io ds) ∧ (ρ[j]? = some (.ow ds) ∨ ρ[j]? = some (.io ds)) := fun {as} => by
  induction as with
  | nil => intro ps h; cases h; exact ⟨rfl, fun k => ⟨fun d q => by simp at q, fun d q => by simp at q⟩⟩
  | cons a r ih =>
    intro ps h
    cases a with
    | v d =>
      unfold pars at h
      cases q : pars ρ r with
      | none => rw [q] at h; cases h
      | some p =>
        rw [q] at h
        cases h
        obtain ⟨l, z⟩ := ih q
        refine ⟨by simp [l], fun k => ?_⟩
        cases k with
        | zero => exact ⟨fun d q => by simp at q; subst q; rfl, fun d q => by simp at q⟩
        | succ k => exact ⟨fun d q => by simpa using (z k).1 d (by simpa using q), fun j q => by simpa using (z k).2 j (by simpa using q)⟩
    | io m =>
      unfold pars at h
      split at h
      · rename_i ds e
        cases q : pars ρ r with
        | none => rw [q] at h; cases h
        | some p =>
          rw [q] at h
          cases h
          obtain ⟨l, z⟩ := ih q
          refine ⟨by simp [l], fun k => ?_⟩
          cases k with
          | zero => exact ⟨fun d q => by simp at q, fun d q => by simp at q; subst q; exact ⟨ds, rfl, .inl e⟩⟩
          | succ k => exact ⟨fun d q => by simpa using (z k).1 d (by simpa using q), fun j q => by simpa using (z k).2 j (by simpa using q)⟩
      · rename_i ds e
        cases q : pars ρ r with
        | none => rw [q] at h; cases h
        | some p =>
          rw [q] at h
          cases h
          obtain ⟨l, z⟩ := ih q
          refine ⟨by simp [l], fun k => ?_⟩
          cases k with
          | zero => exact ⟨fun d q => by simp at q, fun d q => by simp at q; subst q; exact ⟨ds, rfl, .inr e⟩⟩
          | succ k => exact ⟨fun d q => by simpa using (z k).1 d (by simpa using q), fun j q => by simpa using (z k).2 j (by simpa using q)⟩
      · cases h
theorem arA_len : ∀ {vs : List V} {as : List Ar}, ArAll K σ G vs as → vs.length = as.length
  | _, _, .nil => rfl
  | _, _, .v _ r => by simp [arA_len r]
  | _, _, .io _ r => by simp [arA_len r]
theorem arA_at : ∀ {vs : List V} {as : List Ar} {k : Nat} {a : Ar}, ArAll K σ G vs as → as[k]? = some a → ∃ x, vs[k]? = some x ∧ match a with | .v d => Dp K G x d | .io j => σ[j]? = some (some x)
  | _, _, k, a, .nil, h => by simp at h
  | _, _, 0, a, .v q _, h => by simp at h; subst h; exact ⟨_, rfl, q⟩
  | _, _, 0, a, .io q _, h => by simp at h; subst h; exact ⟨_, rfl, q⟩
  | _, _, k + 1, a, .v _ r, h => by
    obtain ⟨x, z1, z2⟩ := arA_at (k := k) r (by simpa using h)
    exact ⟨x, by simpa using z1, z2⟩
  | _, _, k + 1, a, .io _ r, h => by
    obtain ⟨x, z1, z2⟩ := arA_at (k := k) r (by simpa using h)
    exact ⟨x, by simpa using z1, z2⟩

/-! a def's promise, over data -/
def toSp (K : PySem.W.Frag) (n : Nat) (S : WF) : Sp := fun vs H Q E => ∃ θ β ps R E', vs.length = n ∧ Rel K θ β β (vs.map some) H ps ∧ S ps R E' ∧
  (∀ v H' d os, Rel K θ β β (vs.map some) H' os → Ex (hidS (Sof θ β) H) (hidS (Sof θ β) H') → (∀ b, θ b → H' b = H b) → Dp K (hidS (Sof θ β) H') v d → R d os → Q v H') ∧
  ∀ H' c os, Rel K θ β β (vs.map some) H' os → Ex (hidS (Sof θ β) H) (hidS (Sof θ β) H') → (∀ b, θ b → H' b = H b) → E' c os → E (.ref c) none H'
def toSpF (K : PySem.W.Frag) (n : Nat) (S : WFF) : Sp := fun vs H Q E => ∃ θ β ps R E', vs.length = n ∧ Rel K θ β β (vs.map some) H ps ∧ S ps R E' ∧
  (∀ p xs H' ds os, Rel K (th θ p) β β (vs.map some) H' os → Ex (hidS (Sof θ β) H) (hidS (Sof (th θ p) β) H') → (∀ b, θ b → H' b = H b) → ¬ θ p → H' p = some (.lst xs) → DpAll K (hidS (Sof (th θ p) β) H') xs ds → R ds os → Q (.ref p) H') ∧
  ∀ H' c os, Rel K θ β β (vs.map some) H' os → Ex (hidS (Sof θ β) H) (hidS (Sof θ β) H') → (∀ b, θ b → H' b = H b) → E' c os → E (.ref c) none H'
/-- the callee's view of the caller's state -/
structure View (K : PySem.W.Frag) (θ : Addr → Prop) (π α : Nat → Option Addr) (σ : L2.St) (ρ : En) (vs : List V) (as : List Ar) (θ' : Addr → Prop) (β : Nat → Option Addr) : Prop where
  hid : ∀ b, Sof θ' β b ↔ Sof θ α b
  sub : ∀ b, θ b → θ' b
  back : ∀ H0 H1 os, Rel K θ π α σ H0 ρ → Rel K θ' β β (vs.map some) H1 os → Ex (hidS (Sof θ α) H0) (hidS (Sof θ α) H1) → (∀ b, θ' b → H1 b = H0 b) → Rel K θ π α σ H1 (upds ρ as os)
  backF : ∀ H0 H1 os p, Rel K θ π α σ H0 ρ → Rel K (th θ' p) β β (vs.map some) H1 os → Ex (hidS (Sof θ α) H0) (hidS (Sof (th θ p) α) H1) → (∀ b, θ' b → H1 b = H0 b) → ¬ θ' p → Rel K (th θ p) π α σ H1 (upds ρ as os)
theorem view_of {vs : List V} {as : List Ar} {ps : List Sl} (r : Rel K θ π α σ H ρ) (ha : ArAll K σ (hidS (Sof θ α) H) vs as) (hp : pars ρ as = some ps) (nd : (ios as).Nodup) :
    ∃ θ' β, Rel K θ' β β (vs.map some) H ps ∧ View K θ π α σ ρ vs as θ' β := by
  obtain ⟨hl, hat⟩ := pars_at hp
  have hva := arA_len ha
  let β : Nat → Option Addr := fun k => match as[k]? with
    | some (.io j) => α j
    | _ => none
  let θ' : Addr → Prop := fun b => θ b ∨ ∃ i, α i = some b ∧ i ∉ ios as
  have hβ : ∀ (k : Nat) (a : Addr), β k = some a → ∃ j : Nat, as[k]? = some (Ar.io j) ∧ α j = some a := fun k a q => by
    simp only [β] at q
    split at q
    · rename_i j e; exact ⟨j, e, q⟩
    · cases q
  have hβ' : ∀ (k j : Nat), as[k]? = some (Ar.io j) → β k = α j := fun k j q => by simp only [β]; rw [q]
  have hid : ∀ b, Sof θ' β b ↔ Sof θ α b := fun b => by
    constructor
    · rintro ((h | ⟨i, h, _⟩) | ⟨k, h⟩)
      · exact .inl h
      · exact .inr ⟨i, h⟩
      · obtain ⟨j, _, h⟩ := hβ k b h; exact .inr ⟨j, h⟩
    · rintro (h | ⟨i, h⟩)
      · exact .inl (.inl h)
      · by_cases m : i ∈ ios as
        · obtain ⟨k, q⟩ := ios_of m
          exact .inr ⟨k, by rw [hβ' k i q]; exact h⟩
        · exact .inl (.inr ⟨i, h, m⟩)
  have hS : Sof θ' β = Sof θ α := funext fun b => propext (hid b)
  have inj : ∀ i j a, β i = some a → β j = some a → i = j := fun i j a q1 q2 => by
    obtain ⟨x, e1, f1⟩ := hβ i a q1
    obtain ⟨y, e2, f2⟩ := hβ j a q2
    obtain rfl := r.inj x y a f1 f2
    exact ios_inj nd e1 e2
  have hioAt : ∀ (k j : Nat), as[k]? = some (Ar.io j) → ∃ a ds xs, α j = some a ∧ β k = some a ∧ (vs.map some)[k]? = some (some (V.ref a)) ∧ ps[k]? = some (.io ds) ∧ H a = some (.lst xs) ∧ DpAll K (hidS (Sof θ α) H) xs ds := fun k j q => by
    obtain ⟨ds, e1, e2⟩ := (hat k).2 j q
    obtain ⟨x, e3, e4⟩ := arA_at ha q
    have e4 : σ[j]? = some (some x) := e4
    rcases e2 with e2 | e2
    · obtain ⟨a, xs, z1, z2, z3, z4, z5⟩ := r.sl j _ e2
      rw [z3] at e4; cases e4
      exact ⟨a, ds, xs, z1, by rw [hβ' k j q]; exact z1, by rw [List.getElem?_map, e3]; rfl, e1, z4, z5⟩
    · obtain ⟨a, xs, z1, z2, z3, z4, z5⟩ := r.sl j _ e2
      rw [z3] at e4; cases e4
      exact ⟨a, ds, xs, z1, by rw [hβ' k j q]; exact z1, by rw [List.getElem?_map, e3]; rfl, e1, z4, z5⟩
  have live' : ∀ b, θ' b → H b ≠ none := fun b h => by
    rcases h with h | ⟨i, h, _⟩
    · exact r.lv b h
    · obtain ⟨xs, z⟩ := r.owned h; rw [z]; intro q; cases q
  refine ⟨θ', β, ⟨by rw [List.length_map, hva, hl], inj, fun i a q z => ?_, live', fun i a q => ?_, fun i a q => ?_, fun k s q => ?_⟩, ⟨hid, fun b h => .inl h, fun H0 H1 os r0 R ex fr => ?_, fun H0 H1 os p r0 R ex fr np => ?_⟩⟩
  · obtain ⟨j, e1, f1⟩ := hβ i a q
    rcases z with z | ⟨l, z, n⟩
    · exact r.ap j a f1 z
    · obtain rfl := r.inj j l a f1 z
      exact n (ios_at e1)
  · obtain ⟨j, e1, f1⟩ := hβ i a q
    obtain ⟨_, ds, _, _, _, _, z, _⟩ := hioAt i j e1
    exact ⟨_, z, trivial⟩
  · obtain ⟨j, e1, f1⟩ := hβ i a q
    obtain ⟨_, ds, _, _, _, _, z, _⟩ := hioAt i j e1
    exact ⟨ds, z⟩
  · have hk : k < as.length := by rw [← hl]; exact (List.getElem?_eq_some_iff.mp q).1
    cases e : as[k]? with
    | none => rw [List.getElem?_eq_none_iff] at e; omega
    | some a =>
      cases a with
      | v d =>
        have z := (hat k).1 d e
        rw [q] at z
        cases z
        obtain ⟨x, e3, e4⟩ := arA_at ha e
        exact ⟨x, by rw [List.getElem?_map, e3]; rfl, by rw [hS]; exact e4⟩
      | io j =>
        obtain ⟨a, ds, xs, z1, z2, z3, z4, z5, z6⟩ := hioAt k j e
        rw [q] at z4
        cases z4
        exact ⟨a, xs, z2, z2, z3, z5, by rw [hS]; exact z6⟩
  · have hos : os.length = as.length := by rw [R.len, List.length_map, hva]
    have hall : ∀ (i : Nat) (s : Sl), os[i]? = some s → ∀ l : Nat, as[i]? = some (Ar.io l) → ∃ e, s = Sl.io e := fun i s q l q2 => by
      obtain ⟨a, _, _, _, z2, _⟩ := hioAt i l q2
      obtain ⟨es, z⟩ := R.pin i a z2
      rw [q] at z; cases z; exact ⟨es, rfl⟩
    have hin : ∀ i, i ∈ ios as → ∃ (k : Nat) (a : Addr) (es : List D), as[k]? = some (Ar.io i) ∧ α i = some a ∧ β k = some a ∧ os[k]? = some (Sl.io es) ∧ ((∃ ds, ρ[i]? = some (Sl.ow ds)) ∨ ∃ ds, ρ[i]? = some (Sl.io ds)) ∧ (∀ ds, ρ[i]? = some (.ow ds) → (upds ρ as os)[i]? = some (.ow es)) ∧ (∀ ds, ρ[i]? = some (.io ds) → (upds ρ as os)[i]? = some (.io es)) := fun i m => by
      obtain ⟨k, q⟩ := ios_of m
      obtain ⟨a, _, _, z1, z2, _⟩ := hioAt k i q
      obtain ⟨es, z⟩ := R.pin k a z2
      obtain ⟨ds, _, w⟩ := (hat k).2 i q
      obtain ⟨u1, u2⟩ := upds_in (ρ := ρ) (os := os) nd q z hall hos.symm
      exact ⟨k, a, es, q, z1, z2, z, w.elim (fun w => .inl ⟨ds, w⟩) (fun w => .inr ⟨ds, w⟩), u1, u2⟩
    refine ⟨by rw [upds_len]; exact r0.len, r0.inj, r0.ap, fun b h => by rw [fr b (.inl h)]; exact r0.lv b h, fun i a q => ?_, fun i a q => ?_, fun i s q => ?_⟩
    · by_cases m : i ∈ ios as
      · obtain ⟨k, _, es, _, _, _, _, w, u1, u2⟩ := hin i m
        rcases w with ⟨ds, w⟩ | ⟨ds, w⟩
        · exact ⟨_, u1 ds w, trivial⟩
        · exact ⟨_, u2 ds w, trivial⟩
      · obtain ⟨s, z1, z2⟩ := r0.dom i a q
        exact ⟨s, by rw [upds_out m]; exact z1, z2⟩
    · obtain ⟨ds, z⟩ := r0.pin i a q
      by_cases m : i ∈ ios as
      · obtain ⟨k, _, es, _, _, _, _, w, u1, u2⟩ := hin i m
        exact ⟨es, u2 ds z⟩
      · exact ⟨ds, by rw [upds_out m]; exact z⟩
    · by_cases m : i ∈ ios as
      · obtain ⟨k, a, es, e1, z1, z2, z3, w, u1, u2⟩ := hin i m
        obtain ⟨a2, ys, y1, y2, y3, y4, y5⟩ := R.sl k _ z3
        rw [z2] at y1; cases y1
        rcases w with ⟨ds, w⟩ | ⟨ds, w⟩
        · rw [u1 ds w] at q
          cases q
          obtain ⟨b, xs, x1, x2, x3, x4, x5⟩ := r0.sl i _ w
          rw [z1] at x1; cases x1
          exact ⟨a, ys, z1, x2, x3, y4, by rw [hS] at y5; exact y5⟩
        · rw [u2 ds w] at q
          cases q
          obtain ⟨b, xs, x1, x2, x3, x4, x5⟩ := r0.sl i _ w
          rw [z1] at x1; cases x1
          exact ⟨a, ys, z1, x2, x3, y4, by rw [hS] at y5; exact y5⟩
      · rw [upds_out m] at q
        exact (r0.sl i s q).re rfl ex fun a xs z y => (fr a (.inr ⟨i, z, m⟩)).trans y
  · have hSF : Sof (th θ' p) β = Sof (th θ p) α := funext fun b => propext (by rw [Sof_th, Sof_th, hid b])
    have hos : os.length = as.length := by rw [R.len, List.length_map, hva]
    have hall : ∀ (i : Nat) (s : Sl), os[i]? = some s → ∀ l : Nat, as[i]? = some (Ar.io l) → ∃ e, s = Sl.io e := fun i s q l q2 => by
      obtain ⟨a, _, _, _, z2, _⟩ := hioAt i l q2
      obtain ⟨es, z⟩ := R.pin i a z2
      rw [q] at z; cases z; exact ⟨es, rfl⟩
    have hin : ∀ i, i ∈ ios as → ∃ (k : Nat) (a : Addr) (es : List D), as[k]? = some (Ar.io i) ∧ α i = some a ∧ β k = some a ∧ os[k]? = some (Sl.io es) ∧ ((∃ ds, ρ[i]? = some (Sl.ow ds)) ∨ ∃ ds, ρ[i]? = some (Sl.io ds)) ∧ (∀ ds, ρ[i]? = some (.ow ds) → (upds ρ as os)[i]? = some (.ow es)) ∧ (∀ ds, ρ[i]? = some (.io ds) → (upds ρ as os)[i]? = some (.io es)) := fun i m => by
      obtain ⟨k, q⟩ := ios_of m
      obtain ⟨a, _, _, z1, z2, _⟩ := hioAt k i q
      obtain ⟨es, z⟩ := R.pin k a z2
      obtain ⟨ds, _, w⟩ := (hat k).2 i q
      obtain ⟨u1, u2⟩ := upds_in (ρ := ρ) (os := os) nd q z hall hos.symm
      exact ⟨k, a, es, q, z1, z2, z, w.elim (fun w => .inl ⟨ds, w⟩) (fun w => .inr ⟨ds, w⟩), u1, u2⟩
    refine ⟨by rw [upds_len]; exact r0.len, r0.inj, fun i a q z => ?ap, fun b h => ?lv, fun i a q => ?_, fun i a q => ?_, fun i s q => ?_⟩
    case ap =>
      rcases z with z | z
      · exact r0.ap i a q z
      · by_cases m : i ∈ ios as
        · obtain ⟨k, a2, es, _, z1, z2, _⟩ := hin i m
          rw [q] at z1; cases z1
          exact R.ap k a z2 (.inr z)
        · subst z; exact np (.inr ⟨i, q, m⟩)
    case lv =>
      rcases h with h | h
      · rw [fr b (.inl h)]; exact r0.lv b h
      · exact R.lv b (.inr h)
    · by_cases m : i ∈ ios as
      · obtain ⟨k, _, es, _, _, _, _, w, u1, u2⟩ := hin i m
        rcases w with ⟨ds, w⟩ | ⟨ds, w⟩
        · exact ⟨_, u1 ds w, trivial⟩
        · exact ⟨_, u2 ds w, trivial⟩
      · obtain ⟨s, z1, z2⟩ := r0.dom i a q
        exact ⟨s, by rw [upds_out m]; exact z1, z2⟩
    · obtain ⟨ds, z⟩ := r0.pin i a q
      by_cases m : i ∈ ios as
      · obtain ⟨k, _, es, _, _, _, _, w, u1, u2⟩ := hin i m
        exact ⟨es, u2 ds z⟩
      · exact ⟨ds, by rw [upds_out m]; exact z⟩
    · by_cases m : i ∈ ios as
      · obtain ⟨k, a, es, e1, z1, z2, z3, w, u1, u2⟩ := hin i m
        obtain ⟨a2, ys, y1, y2, y3, y4, y5⟩ := R.sl k _ z3
        rw [z2] at y1; cases y1
        rcases w with ⟨ds, w⟩ | ⟨ds, w⟩
        · rw [u1 ds w] at q
          cases q
          obtain ⟨b, xs, x1, x2, x3, x4, x5⟩ := r0.sl i _ w
          rw [z1] at x1; cases x1
          exact ⟨a, ys, z1, x2, x3, y4, by rw [hSF] at y5; exact y5⟩
        · rw [u2 ds w] at q
          cases q
          obtain ⟨b, xs, x1, x2, x3, x4, x5⟩ := r0.sl i _ w
          rw [z1] at x1; cases x1
          exact ⟨a, ys, z1, x2, x3, y4, by rw [hSF] at y5; exact y5⟩
      · rw [upds_out m] at q
        exact (r0.sl i s q).re rfl ex fun a xs z y => (fr a (.inr ⟨i, z, m⟩)).trans y
end
end Den

namespace Den
open PySem L2 Evl PySem.Spec PyProof.Rows
open Classical
section
variable {K : PySem.W.Frag} {W : WX} {X : Cx} {θ : Addr → Prop} {π α : Nat → Option Addr} {σ σ2 : L2.St} {H H1 : Hp} {ρ : En} {p : Addr} {o : HO} {n : Nat}

/-! calls -/
def wCall (S : WF) (wm : WM) : WE := fun ρ R E => wm ρ (fun as ρ2 => ∃ ps, pars ρ2 as = some ps ∧ (ios as).Nodup ∧ S ps (fun d os => R d (upds ρ2 as os)) (fun c os => E c (upds ρ2 as os))) E
def wCall0 (S : WF) (wm : WM) : WE := fun ρ R E => wm ρ (fun as ρ2 => ∃ ps, pars ρ2 as = some ps ∧ (ios as).Nodup ∧ S ps (fun d os => R d (upds ρ2 as os)) NoE) E
def wCallF (S : WFF) (wm : WM) : WA := fun ρ R E => wm ρ (fun as ρ2 => ∃ ps, pars ρ2 as = some ps ∧ (ios as).Nodup ∧ S ps (fun d os => R d (upds ρ2 as os)) (fun c os => E c (upds ρ2 as os))) E
theorem hid_eq {θ' : Addr → Prop} {β : Nat → Option Addr} (h : ∀ b, Sof θ' β b ↔ Sof θ α b) : Sof θ' β = Sof θ α := funext fun b => propext (h b)
theorem can_call {S : WF} {wm : WM} {t : TA} (hc : ∀ σ H Q, cM K W n wm σ H Q → t σ H Q) (σ : L2.St) (H : Hp) (Q : VK) : cE K W (wCall S wm) σ H Q → tCallS (toSp K n S) (L2.WE W) t σ H Q := by
  rintro ⟨θ, π, α, ρ, R, E, hR, hw, hq, he⟩
  refine hc _ _ _ ⟨θ, π, α, ρ, _, E, hR, hw, fun α2 vs H2 as ρ2 R2 s2 p2 l2 w2 => ?_, he⟩
  obtain ⟨ps, hp, nd, hS⟩ := w2
  obtain ⟨θ', β, r, v⟩ := view_of R2 p2 hp nd
  have hh := hid_eq v.hid
  refine ⟨θ', β, ps, _, _, by rw [arA_len p2, l2], r, hS, fun u H' d os r' ex fr dp hr => ?_, fun H' c os r' ex fr hr => ?_⟩
  · rw [hh] at ex dp
    have R3 := v.back H2 H' os R2 r' ex fr
    exact hq α2 u H' d _ R3 (s2.trans ⟨ex, fun b hb => fr b (v.sub b hb)⟩) dp hr
  · rw [hh] at ex
    have R3 := v.back H2 H' os R2 r' ex fr
    exact he α2 σ H' c _ R3 (s2.trans ⟨ex, fun b hb => fr b (v.sub b hb)⟩) hr
theorem can_call0 {S : WF} {wm : WM} {t : TA} (hc : ∀ σ H Q, cM K W n wm σ H Q → t σ H Q) (σ : L2.St) (H : Hp) (Q : VK) : cE K W (wCall0 S wm) σ H Q → tCall (toSp K n S) [] E0 t σ H Q := by
  rintro ⟨θ, π, α, ρ, R, E, hR, hw, hq, he⟩
  refine hc _ _ _ ⟨θ, π, α, ρ, _, E, hR, hw, fun α2 vs H2 as ρ2 R2 s2 p2 l2 w2 => ?_, he⟩
  obtain ⟨ps, hp, nd, hS⟩ := w2
  obtain ⟨θ', β, r, v⟩ := view_of R2 p2 hp nd
  have hh := hid_eq v.hid
  rw [List.append_nil]
  refine ⟨θ', β, ps, _, _, by rw [arA_len p2, l2], r, hS, fun u H' d os r' ex fr dp hr => ?_, fun H' c os r' ex fr hr => hr.elim⟩
  rw [hh] at ex dp
  have R3 := v.back H2 H' os R2 r' ex fr
  exact hq α2 u H' d _ R3 (s2.trans ⟨ex, fun b hb => fr b (v.sub b hb)⟩) dp hr
theorem can_callF {S : WFF} {wm : WM} {t : TA} (hc : ∀ σ H Q, cM K W n wm σ H Q → t σ H Q) (σ : L2.St) (H : Hp) (Q : VK) : cF K W (wCallF S wm) σ H Q → tCallS (toSpF K n S) (L2.WE W) t σ H Q := by
  rintro ⟨θ, π, α, ρ, R, E, hR, hw, hq, he⟩
  refine hc _ _ _ ⟨θ, π, α, ρ, _, E, hR, hw, fun α2 vs H2 as ρ2 R2 s2 p2 l2 w2 => ?_, he⟩
  obtain ⟨ps, hp, nd, hS⟩ := w2
  obtain ⟨θ', β, r, v⟩ := view_of R2 p2 hp nd
  have hh := hid_eq v.hid
  refine ⟨θ', β, ps, _, _, by rw [arA_len p2, l2], r, hS, fun p xs H' ds os r' ex fr np h1 dp hr => ?_, fun H' c os r' ex fr hr => ?_⟩
  · have hF : Sof (th θ' p) β = Sof (th θ p) α2 := funext fun b => propext (by rw [Sof_th, Sof_th, v.hid b])
    rw [hh, hF] at ex
    rw [hF] at dp
    have R3 := v.backF H2 H' os p R2 r' ex fr np
    exact hq α2 p xs H' ds _ R3 ⟨s2.1.trans ex, fun b hb => (fr b (v.sub b hb)).trans (s2.2 b hb)⟩ (fun z => np (v.sub p z)) h1 dp hr
  · rw [hh] at ex
    have R3 := v.back H2 H' os R2 r' ex fr
    exact he α2 σ H' c _ R3 (s2.trans ⟨ex, fun b hb => fr b (v.sub b hb)⟩) hr
theorem passLN {X : Cx} : Passes (L2N.CX X.prog X.w) X E0 := fun _ _ _ _ _ _ _ h => by
  obtain ⟨_, _, _, _, _, _, _, _, _, _, _, _, z⟩ := h
  exact z.elim
section
variable {k : Nat} {f : Addr} {fd : FuncData} {ps : List Str} {S : WF} {SF : WFF} {x : Str} {q pos : Pos} {e : Expr} {es : List Expr} {wm : WM}
theorem dCall (F : FnOk X.prog X.w X.K X.mg X.base (L2N.CX X.prog X.w) k f fd ps (toSp X.K n S)) (hr : Room k X.A) (hg : Gl X x) (hm : X.mg x = some (.ref f)) (hk : PySem.W.keepIn X.K (.ref f) = true) (hb : Binds X.K fd ps []) (tk : L2N.Takes X W)
    (ha : PA X (e :: es) (cM X.K W n wm)) (hdb : (x == ("__debug__" : Str)) = false := by decide) (he : starEach (e :: es) X.env = (false, eval e X.env) :: starEach es X.env := by rfl) (hpl : (backTo pos (starEach es X.env)).any (·.1) = false := by rfl) :
    PE X (.Call (.Name x q) (e :: es) [] pos) (cE X.K W (wCall S wm)) := peI (pe_callS F hr hg hm hk hb (fun σ => L2N.passAt tk σ) ha hdb he hpl) (can_call (fun _ _ _ h => h))
theorem dCall0 (F : FnOk X.prog X.w X.K X.mg X.base (L2N.CX X.prog X.w) k f fd ps (toSp X.K n S)) (hr : Room k X.A) (hg : Gl X x) (hm : X.mg x = some (.ref f)) (hk : PySem.W.keepIn X.K (.ref f) = true) (hb : Binds X.K fd ps [])
    (ha : PA X (e :: es) (cM X.K W n wm)) (hdb : (x == ("__debug__" : Str)) = false := by decide) (he : starEach (e :: es) X.env = (false, eval e X.env) :: starEach es X.env := by rfl) (hpl : (backTo pos (starEach es X.env)).any (·.1) = false := by rfl) :
    PE X (.Call (.Name x q) (e :: es) [] pos) (cE X.K W (wCall0 S wm)) := peI (pe_call F hr hg hm hk hb .nil passLN ha hdb he hpl) (can_call0 (fun _ _ _ h => h))
theorem dCallF (F : FnOk X.prog X.w X.K X.mg X.base (L2N.CX X.prog X.w) k f fd ps (toSpF X.K n SF)) (hr : Room k X.A) (hg : Gl X x) (hm : X.mg x = some (.ref f)) (hk : PySem.W.keepIn X.K (.ref f) = true) (hb : Binds X.K fd ps []) (tk : L2N.Takes X W)
    (ha : PA X (e :: es) (cM X.K W n wm)) (hdb : (x == ("__debug__" : Str)) = false := by decide) (he : starEach (e :: es) X.env = (false, eval e X.env) :: starEach es X.env := by rfl) (hpl : (backTo pos (starEach es X.env)).any (·.1) = false := by rfl) :
    PE X (.Call (.Name x q) (e :: es) [] pos) (cF X.K W (wCallF SF wm)) := peI (pe_callS F hr hg hm hk hb (fun σ => L2N.passAt tk σ) ha hdb he hpl) (can_callF (fun _ _ _ h => h))
end

/-! a def by its body -/
def finS : Option Sl → Sl
  | some (.io ds) => .io ds
  | _ => .no
def fin (n : Nat) (ρ : En) : En := (List.range n).map fun i => finS ρ[i]?
def bxOf (n : Nat) (R : RC) (E : EC) : Bx := { nx := fun ρ => R .none (fin n ρ), rt := fun d ρ => R d (fin n ρ), rs := fun c ρ => E c (fin n ρ) }
theorem start_rel {vs : List V} {ps : List Sl} {N : List Str} {β : Nat → Option Addr} (r : Rel K θ β β (vs.map some) H ps) : Rel K θ β β (L2.start N vs) H (ps ++ List.replicate (N.length - vs.length) .no) := by
  have hl : ps.length = vs.length := by rw [r.len, List.length_map]
  have hβ : ∀ i a, β i = some a → i < ps.length := fun i a q => by
    obtain ⟨s, z, _⟩ := r.dom i a q
    exact (List.getElem?_eq_some_iff.mp z).1
  refine ⟨by simp [L2.start, hl], r.inj, r.ap, r.lv, fun i a q => ?_, fun i a q => ?_, fun i s q => ?_⟩
  · obtain ⟨s, z⟩ := r.dom i a q
    exact ⟨s, by rw [List.getElem?_append_left (hβ i a q)]; exact z.1, z.2⟩
  · obtain ⟨s, z⟩ := r.pin i a q
    exact ⟨s, by rw [List.getElem?_append_left (hβ i a q)]; exact z⟩
  · by_cases hi : i < ps.length
    · rw [List.getElem?_append_left hi] at q
      have z := r.sl i s q
      have es : (L2.start N vs)[i]? = (vs.map some)[i]? := by
        unfold L2.start
        exact List.getElem?_append_left (by rw [List.length_map, ← hl]; exact hi)
      cases s with
      | no => trivial
      | va d => obtain ⟨w, z1, z2⟩ := z; exact ⟨w, es.trans z1, z2⟩
      | ow ds => obtain ⟨a, vs, z1, z2, z3, z4⟩ := z; exact ⟨a, vs, z1, z2, es.trans z3, z4⟩
      | io ds => obtain ⟨a, vs, z1, z2, z3, z4⟩ := z; exact ⟨a, vs, z1, z2, es.trans z3, z4⟩
      | ex a => exact es.trans z
    · rw [List.getElem?_append_right (by omega)] at q
      obtain ⟨_, e⟩ := List.getElem?_eq_some_iff.mp q
      simp at e
      subst e
      trivial
/-- at a def's end: the parameters that were lent -/
theorem fin_rel {θ' : Addr → Prop} {vs : List V} {ps : List Sl} {β α' : Nat → Option Addr} {σ' : L2.St} {H' : Hp} {ρ' : En} (r : Rel K θ β β (vs.map some) H ps) (r' : Rel K θ' β α' σ' H' ρ') (s : Ex (hidS (Sof θ β) H) (hidS (Sof θ' α') H')) :
    Rel K θ' β β (vs.map some) H' (fin vs.length ρ') ∧ Ex (hidS (Sof θ β) H) (hidS (Sof θ' β) H') ∧ Ex (hidS (Sof θ' α') H') (hidS (Sof θ' β) H') := by
  have hio : ∀ i a, β i = some a → α' i = some a := fun i a h => by
    obtain ⟨ds, z⟩ := r'.pin i a h
    obtain ⟨b, xs, z1, z2, _⟩ := r'.sl i _ z
    rw [h] at z2; cases z2
    exact z1
  have hsub : ∀ b, Sof θ' β b → Sof θ' α' b := fun b h => by
    rcases h with h | ⟨i, h⟩
    · exact .inl h
    · exact .inr ⟨i, hio i b h⟩
  have hx : Ex (hidS (Sof θ' α') H') (hidS (Sof θ' β) H') := fun b o q => by
    unfold hidS at q ⊢
    split at q
    · cases q
    · rename_i h
      rw [if_neg (fun z => h (hsub b z))]
      exact q
  have hl : ps.length = vs.length := by rw [r.len, List.length_map]
  have hβ : ∀ i a, β i = some a → i < vs.length := fun i a q => by
    obtain ⟨s, z, _⟩ := r.dom i a q
    have := (List.getElem?_eq_some_iff.mp z).1
    omega
  have hf : ∀ i, i < vs.length → (fin vs.length ρ')[i]? = some (finS ρ'[i]?) := fun i hi => by
    unfold fin
    rw [List.getElem?_map, List.getElem?_range hi]
    rfl
  refine ⟨⟨?_, r.inj, fun i a h => r'.ap i a (hio i a h), fun b h => r'.lv b h, fun i a q => ?_, fun i a q => ?_, fun i s q => ?_⟩, s.trans hx, hx⟩
  · unfold fin
    rw [List.length_map, List.length_range, List.length_map]
  · obtain ⟨ds, z⟩ := r'.pin i a q
    exact ⟨.io ds, by rw [hf i (hβ i a q), z]; rfl, trivial⟩
  · obtain ⟨ds, z⟩ := r'.pin i a q
    exact ⟨ds, by rw [hf i (hβ i a q), z]; rfl⟩
  · have hi : i < vs.length := by
      have := (List.getElem?_eq_some_iff.mp q).1
      unfold fin at this
      rw [List.length_map, List.length_range] at this
      exact this
    rw [hf i hi] at q
    cases q
    cases e : ρ'[i]? with
    | none => trivial
    | some s0 =>
      cases s0 with
      | io ds =>
        obtain ⟨a, xs, z1, z2, z3, z4, z5⟩ := r'.sl i _ e
        obtain ⟨s2, y, y0⟩ := r.dom i a z2
        obtain ⟨es, y⟩ := r.pin i a z2
        obtain ⟨b, ys, y1, y2, y3, y4, y5⟩ := r.sl i _ y
        rw [z2] at y1; cases y1
        exact ⟨a, xs, z2, z2, y3, z4, dpA_mono hx z5⟩
      | no => trivial
      | va d => trivial
      | ow ds => trivial
      | ex a => trivial
def bxF (n : Nat) (R : List D → En → Prop) (E : EC) : Bx := { nx := fun _ => False, rt := fun _ _ => False, rf := fun d ρ => R d (fin n ρ), rs := fun c ρ => E c (fin n ρ) }
theorem fnF {x qual : Str} {st : Stmt} {f : Addr} {fd : FuncData} {N ps : List Str} {k : Nat} {P : Program} {w : World} {mg : Str → Option Value} {base : Heap} {S : WFF} {wb : WS} (F : Fun K x qual st f fd) (Sc : FnScope N ps (defScope st))
    (hb : ∀ (cdv : Value) (A : Around) (outer : List Env) (s : Shared) (H : Hp) (E : XK), Room k (A.deeper (envOfC qual (defScope st) s.heap.objs.size f cdv)) →
      PSs (cxOf (L2N.CX P w) P w K mg base N qual (defScope st) f cdv A outer s H E) (defBody st) (cS K (fun cls d _ H => E cls d H) wb))
    (hw : ∀ pr R E, S pr R E → wb (bxF ps.length R E) (pr ++ List.replicate (N.length - ps.length) .no)) : FnOk P w K mg base (L2N.CX P w) (k + 1) f fd ps (toSpF K ps.length S) := by
  obtain ⟨oc, od, kV, doc, pm, an, cdv, ct, osl, rfl, lk, hcd⟩ := F.ex
  refine fn_of lk hcd Sc (fun vs H Q E ⟨_, _, _, _, _, h, _⟩ => h) fun A outer s H vs Q E hr hsp => ⟨_, hb cdv A outer s H E hr, ?_⟩
  obtain ⟨θ, β, pr, R, E', hl, r, hS, hq, he⟩ := hsp
  have e := hw pr R E' hS
  rw [← hl] at e
  refine ⟨θ, β, β, _, _, start_rel r, e, ⟨fun _ _ _ _ _ _ h => h.elim, fun _ _ _ _ _ _ h => h.elim, fun _ _ _ _ _ _ h => h.elim, fun _ _ _ _ _ _ _ _ _ h => h.elim, fun α' σ' p xs H' ds ρ' r' s' np h1 dp h => ?_, fun α' σ' H' c ρ' r' s' h => ?_⟩⟩
  · obtain ⟨r2, x1, x2⟩ := fin_rel r r' s'.1
    exact hq p xs H' ds _ r2 x1 s'.2 np h1 (dpA_mono x2 dp) h
  · obtain ⟨r2, x1, x2⟩ := fin_rel r r' s'.1
    exact he H' c _ r2 x1 s'.2 h
theorem fnS {x qual : Str} {st : Stmt} {f : Addr} {fd : FuncData} {N ps : List Str} {k : Nat} {P : Program} {w : World} {mg : Str → Option Value} {base : Heap} {S : WF} {wb : WS} (F : Fun K x qual st f fd) (Sc : FnScope N ps (defScope st))
    (hb : ∀ (cdv : Value) (A : Around) (outer : List Env) (s : Shared) (H : Hp) (E : XK), Room k (A.deeper (envOfC qual (defScope st) s.heap.objs.size f cdv)) →
      PSs (cxOf (L2N.CX P w) P w K mg base N qual (defScope st) f cdv A outer s H E) (defBody st) (cS K (fun cls d _ H => E cls d H) wb))
    (hw : ∀ pr R E, S pr R E → wb (bxOf ps.length R E) (pr ++ List.replicate (N.length - ps.length) .no)) : FnOk P w K mg base (L2N.CX P w) (k + 1) f fd ps (toSp K ps.length S) := by
  obtain ⟨oc, od, kV, doc, pm, an, cdv, ct, osl, rfl, lk, hcd⟩ := F.ex
  refine fn_of lk hcd Sc (fun vs H Q E ⟨_, _, _, _, _, h, _⟩ => h) fun A outer s H vs Q E hr hsp => ⟨_, hb cdv A outer s H E hr, ?_⟩
  obtain ⟨θ, β, pr, R, E', hl, r, hS, hq, he⟩ := hsp
  have e := hw pr R E' hS
  rw [← hl] at e
  refine ⟨θ, β, β, _, _, start_rel r, e, ⟨fun α' σ' H' ρ' r' s' h => ?_, fun _ _ _ _ _ _ h => h.elim, fun _ _ _ _ _ _ h => h.elim, fun α' σ' H' v d ρ' r' s' p h => ?_, fun α' σ' p xs H' ds ρ' r' s' np h1 dp h => ?_, fun α' σ' H' c ρ' r' s' h => ?_⟩⟩
  · obtain ⟨r2, x1, x2⟩ := fin_rel r r' s'.1
    exact hq .non H' .none _ r2 x1 s'.2 .non h
  · obtain ⟨r2, x1, x2⟩ := fin_rel r r' s'.1
    exact hq v H' d _ r2 x1 s'.2 (dp_mono x2 p) h
  · exact h.elim
  · obtain ⟨r2, x1, x2⟩ := fin_rel r r' s'.1
    exact he H' c _ r2 x1 s'.2 h

/-! raise, try -/
theorem Rel.putS {i : Nat} {x : Option V} {s : Sl} (r : Rel K θ π α σ H ρ) (hi : i < ρ.length) (hn : ∀ ds, ρ[i]? ≠ some (.io ds)) (hs : match s with | .no => True | .ex a => x = some (.ref a) | _ => False) :
    ∃ α', Rel K θ π α' (σ.set i x) H (ρ.set i s) ∧ Stp θ α H α' H := by
  have hπ : π i = none := by
    cases q : π i with
    | none => rfl
    | some a => obtain ⟨ds, z⟩ := r.pin i a q; exact absurd z (hn ds)
  have hx : Ex (hidS (Sof θ α) H) (hidS (Sof θ (fun k => if k = i then none else α k)) H) := fun b o q => by
    unfold hidS at q ⊢
    split at q
    · cases q
    · rename_i hh
      rw [if_neg]
      · exact q
      · rintro (z | ⟨k, z⟩)
        · exact hh (.inl z)
        · by_cases e : k = i
          · subst e; simp at z
          · exact hh (.inr ⟨k, by simpa [e] using z⟩)
  refine ⟨fun k => if k = i then none else α k, ⟨by simpa using r.len, fun k l b q1 q2 => ?_, fun k b q => ?_, r.lv, fun k b q => ?_, fun k b q => ?_, fun k s' q => ?_⟩, ⟨hx, fun _ _ => rfl⟩⟩
  · by_cases e1 : k = i
    · subst e1; simp at q1
    · by_cases e2 : l = i
      · subst e2; simp at q2
      · exact r.inj k l b (by simpa [e1] using q1) (by simpa [e2] using q2)
  · by_cases e1 : k = i
    · subst e1; simp at q
    · exact r.ap k b (by simpa [e1] using q)
  · by_cases e1 : k = i
    · subst e1; simp at q
    · obtain ⟨s, z1, z2⟩ := r.dom k b (by simpa [e1] using q)
      exact ⟨s, by rw [List.getElem?_set_ne (Ne.symm e1)]; exact z1, z2⟩
  · have e1 : k ≠ i := fun z => by subst z; rw [hπ] at q; cases q
    obtain ⟨es, z⟩ := r.pin k b q
    exact ⟨es, by rw [List.getElem?_set_ne (Ne.symm e1)]; exact z⟩
  · by_cases e1 : k = i
    · subst e1
      rw [List.getElem?_set_self hi] at q
      cases q
      cases s with
      | no => trivial
      | ex a => exact (List.getElem?_set_self (by rw [← r.len]; exact hi)).trans (by rw [hs])
      | va d => exact hs.elim
      | ow ds => exact hs.elim
      | io ds => exact hs.elim
    · rw [List.getElem?_set_ne (Ne.symm e1)] at q
      have z := (r.sl k s' q).re (θ' := θ) (α' := fun k => if k = i then none else α k) (H' := H) (by simp [e1]) hx fun _ _ _ z => z
      have es : (σ.set i x)[k]? = σ[k]? := List.getElem?_set_ne (Ne.symm e1)
      cases s' with
      | no => trivial
      | va d => obtain ⟨w, z1, z2⟩ := z; exact ⟨w, es.trans z1, z2⟩
      | ow ds => obtain ⟨a, vs, z1, z2, z3, z4⟩ := z; exact ⟨a, vs, z1, z2, es.trans z3, z4⟩
      | io ds => obtain ⟨a, vs, z1, z2, z3, z4⟩ := z; exact ⟨a, vs, z1, z2, es.trans z3, z4⟩
      | ex a => exact es.trans z
abbrev WNo : WX := fun _ _ _ _ => False
def sufB (i : Nat) (B : Bx) : Bx := { nx := fun ρ => asgV i .no ρ B.nx, rt := B.rt, rf := B.rf, bk := fun ρ => asgV i .no ρ B.bk, ct := fun ρ => asgV i .no ρ B.ct, rs := NoE }
def wTry (cat : Addr → Option Bool) (i : Nat) (wb : WS) (ws : Addr → Addr → WS) : WS := fun B ρ => wb { B with rs := fun c ρ' => match cat c with
  | some true => ∀ a, asgV i (.ex a) ρ' fun ρ2 => ws a c (sufB i B) ρ2
  | some false => B.rs c ρ'
  | none => False } ρ
theorem dTry {cat : Addr → Option Bool} {cv : Value} {i : Nat} {s : Stmt} {wb : WS} {ws : Addr → Addr → WS} (hcat : ∀ c b, cat c = some b → PySem.W.exmOne K (.ref c) cv = some b)
    (h : PS X s (fun D σ H => (fun W' => cS K W' wb) (wAs K cv i (fun a cls d => fun D σ H => ∃ c, cls = .ref c ∧ d = none ∧ cS K WNo (ws a c) D σ H) W D) D σ H)) : PS X s (cS K W (wTry cat i wb ws)) := psI h fun De σ H ⟨θ, π, α, ρ, B, hR, hw, hf⟩ => by
  refine ⟨θ, π, α, ρ, _, hR, hw, ⟨hf.nx, hf.bk, hf.ct, hf.rt, hf.rf, fun α' σ' H' c ρ' r s' q => ?_⟩⟩
  dsimp only at q
  cases e : cat c with
  | none => rw [e] at q; exact q.elim
  | some b =>
    rw [e] at q
    refine ⟨b, hcat c b e, fun hb a ha => ?_, fun hb => ?_⟩
    · subst hb
      refine ⟨c, rfl, rfl, ?_⟩
      obtain ⟨a1, a2, a3⟩ := asgV_of (q a)
      obtain ⟨α2, r2, s2⟩ := r.putS (x := some (.ref a)) (s := .ex a) a1 a2 rfl
      have s3 := s'.trans s2
      refine ⟨θ, π, α2, _, _, r2, a3, ⟨fun α4 σ4 H4 ρ4 r4 s4 q4 => ?_, fun α4 σ4 H4 ρ4 r4 s4 q4 => ?_, fun α4 σ4 H4 ρ4 r4 s4 q4 => ?_, (hf.step s3).rt, (hf.step s3).rf, fun _ _ _ _ _ _ _ z => z⟩⟩
      · obtain ⟨b1, b2, b3⟩ := asgV_of q4
        obtain ⟨α5, r5, s5⟩ := r4.putS (x := none) (s := .no) b1 b2 trivial
        exact hf.nx α5 _ H4 _ r5 ((s3.trans s4).trans s5) b3
      · obtain ⟨b1, b2, b3⟩ := asgV_of q4
        obtain ⟨α5, r5, s5⟩ := r4.putS (x := none) (s := .no) b1 b2 trivial
        exact hf.bk α5 _ H4 _ r5 ((s3.trans s4).trans s5) b3
      · obtain ⟨b1, b2, b3⟩ := asgV_of q4
        obtain ⟨α5, r5, s5⟩ := r4.putS (x := none) (s := .no) b1 b2 trivial
        exact hf.ct α5 _ H4 _ r5 ((s3.trans s4).trans s5) b3
    · subst hb
      exact hf.rs α' σ' H' c ρ' r s' q
end
end Den

namespace Den
open PySem L2 Evl PySem.Spec PyProof.Rows
open Classical
section
variable {K : PySem.W.Frag} {W : WX} {X : Cx} {S : Addr → Prop} {H : Hp} {n : Nat}

/-! + -/
def rCatL (K : PySem.W.Frag) : R2 := fun x y H Q => ∃ a b xs ys, x = .ref a ∧ y = .ref b ∧ SqL K H a xs ∧ SqL K H b ys ∧ xs.length + ys.length ≤ sizeLine ∧ ∀ p, H p = none → Q (.ref p) (upd H p (.lst (xs ++ ys)))
theorem op_catL : OpR X (binaryOp .Add) (rCatL X.K) := by
  intro pins s σ H x y v u Q I rx ry h
  obtain ⟨a, b, xs, ys, rfl, rfl, ha, hb, hz, q⟩ := h
  cases rx
  cases ry
  obtain ⟨its, r, ⟨⟨cls, dd, data, sl⟩, n, ho, hc, hdd, hd⟩, _⟩ := I.list ha
  obtain ⟨its2, r2, ⟨⟨cls2, dd2, data2, sl2⟩, n2, ho2, hc2, hdd2, hd2⟩, _⟩ := I.list hb
  simp only at hc hd hc2 hd2
  subst hc hd hc2 hd2
  have hz' : its.toArray.size + its2.toArray.size ≤ sizeLine := by rw [List.size_toArray, List.size_toArray, ← r.length, ← r2.length]; exact hz
  have e : its.toArray ++ its2.toArray = (its ++ its2).toArray := by simp
  refine concat_meets ⟨_, ho, rfl⟩ ⟨_, ho2, rfl⟩ noFill_list_add seq_list_add PySem.F.slot_list_add PySem.F.entry_list_add (PySem.F.args_list_add_2 _ _) (list_addW a b its.toArray its2.toArray n n2 dd dd2 sl sl2 hz') ⟨ho, ho2, ?_⟩
  rw [e]
  exact ⟨.ref _, _, I.lnew (t' := s.toks) (r.append r2) (by rw [List.length_append]; omega), rfl, q _ I.fresh⟩
def rStrAdd : R2 := fun x y H Q => ∃ i j, x = .str i ∧ y = .str j ∧ i.length + j.length ≤ sizeLine ∧ Q (.str (i ++ j)) H
def rAdd' (K : PySem.W.Frag) : R2 := fun x y H Q => rI0 (fun i j => .int (i + j)) x y H Q ∨ rStrAdd x y H Q ∨ rCatL K x y H Q ∨ rCatA K x y H Q
theorem op_addA : OpR X (binaryOp .Add) (rAdd' X.K) := op_add.or (op_add_str.or (op_catL.or op_catA))
def fAdd (d e : D) (k : D → Prop) : Prop := match d, e with
  | .int i, .int j => k (.int (i + j))
  | .str x, .str y => x.length + y.length ≤ sizeLine ∧ k (.str (x ++ y))
  | .list xs, .list ys => xs.length + ys.length ≤ sizeLine ∧ k (.list (xs ++ ys))
  | .tuple xs, .tuple ys => xs.length + ys.length ≤ sizeLine ∧ k (.tuple (xs ++ ys))
  | _, _ => False
theorem dpA_nil {G : Hp} {vs : List V} (h : DpAll K G vs []) : vs = [] := by cases h; rfl
theorem dpA_nil' {G : Hp} {ds : List D} (h : DpAll K G [] ds) : ds = [] := by cases h; rfl
theorem sr_add : SR K (rAdd' K) fAdd := by
  intro S H x y d e Q R lv hx hy hf q
  unfold fAdd at hf
  split at hf
  · cases hx.int; cases hy.int
    exact .inl ⟨_, _, rfl, rfl, q _ H _ (Ex.refl _) (.int _) hf⟩
  · cases hx.str; cases hy.str
    exact .inr (.inl ⟨_, _, rfl, rfl, hf.1, q _ H _ (Ex.refl _) (.str _) hf.2⟩)
  · obtain ⟨a, vs, rfl, h1, h2⟩ := hx.lst
    obtain ⟨b, ws, rfl, h3, h4⟩ := hy.lst
    exact .inr (.inr (.inl ⟨a, b, vs, ws, rfl, rfl, h1, h3, by rw [dpA_len h2, dpA_len h4]; exact hf.1, fun p hp => q _ _ _ (Ex.new hp) (new_lst lv hp (dpA_app h2 h4)) hf.2⟩))
  · rename_i xs ys
    obtain ⟨a, vs, rfl, h1, h2⟩ := hx.tup
    obtain ⟨b, ws, rfl, h3, h4⟩ := hy.tup
    refine .inr (.inr (.inr ⟨a, b, vs, ws, rfl, rfl, h1, h3, by rw [dpA_len h2, dpA_len h4]; exact hf.1, fun e => ?_, fun _ e => ?_, fun _ _ p hp => q _ _ _ (Ex.new hp) (new_tup lv hp (dpA_app h2 h4)) hf.2⟩))
    · subst e
      cases dpA_nil' h2
      have hf2 := hf.2
      rw [List.nil_append] at hf2
      cases hy with
      | val h => exact q _ H _ (Ex.refl _) h hf2
    · subst e
      cases dpA_nil' h4
      have hf2 := hf.2
      rw [List.append_nil] at hf2
      cases hx with
      | val h => exact q _ H _ (Ex.refl _) h hf2
  · exact hf.elim

/-! whole numbers -/
def f2I (C : Int → Int → Prop) (g : Int → Int → D) (d e : D) (k : D → Prop) : Prop := match d, e with
  | .int i, .int j => C i j ∧ k (g i j)
  | _, _ => False
def f2i (g : Int → Int → D) (d e : D) (k : D → Prop) : Prop := match d, e with
  | .int i, .int j => k (g i j)
  | _, _ => False
theorem sr_I {C : Int → Int → Prop} {g : Int → Int → V} {g' : Int → Int → D} (hg : ∀ i j G, Dp K G (g i j) (g' i j)) : SR K (rI C g) (f2I C g') := by
  intro S H x y d e Q R lv hx hy hf q
  unfold f2I at hf
  split at hf
  · cases hx.int; cases hy.int
    exact ⟨_, _, rfl, rfl, hf.1, q _ H _ (Ex.refl _) (hg _ _ _) hf.2⟩
  · exact hf.elim
theorem sr_i {g : Int → Int → V} {g' : Int → Int → D} (hg : ∀ i j G, Dp K G (g i j) (g' i j)) : SR K (rI0 g) (f2i g') := by
  intro S H x y d e Q R lv hx hy hf q
  unfold f2i at hf
  split at hf
  · cases hx.int; cases hy.int
    exact ⟨_, _, rfl, rfl, q _ H _ (Ex.refl _) (hg _ _ _) hf⟩
  · exact hf.elim
abbrev fSub := f2i fun i j => .int (i - j)
theorem sr_sub : SR K (rI0 fun i j => .int (i - j)) fSub := sr_i fun _ _ _ => .int _
abbrev fMul := f2I CMulX fun i j => .int (i * j)
theorem sr_mul : SR K (rI CMulX fun i j => .int (i * j)) fMul := sr_I fun _ _ _ => .int _
def CDivA (_ j : Int) : Prop := j ≠ 0 ∧ j.natAbs.log2 < 9000
theorem op_fdivA : OpR X (binaryOp .FloorDiv) (rI CDivA fun i j => .int (i.fdiv j)) := opI fun _ _ _ _ _ _ _ hc q => floordiv_int hc.1 q (.inl (PyProof.noPylong_of_log2 hc.2))
abbrev fDiv := f2I CDivA fun i j => .int (i.fdiv j)
theorem sr_div : SR K (rI CDivA fun i j => .int (i.fdiv j)) fDiv := sr_I fun _ _ _ => .int _
abbrev fMod := f2I (fun _ j => j ≠ 0) fun i j => .int (i.fmod j)
theorem sr_mod : SR K (rI (fun _ j => j ≠ 0) fun i j => .int (i.fmod j)) fMod := sr_I fun _ _ _ => .int _
abbrev fPow := f2I CPow fun i j => .int (i ^ j.toNat)
theorem sr_pow : SR K (rI CPow fun i j => .int (i ^ j.toNat)) fPow := sr_I fun _ _ _ => .int _
abbrev fShl := f2I CShl fun i j => .int (i * 2 ^ j.toNat)
theorem sr_shl : SR K (rI CShl fun i j => .int (i * 2 ^ j.toNat)) fShl := sr_I fun _ _ _ => .int _
abbrev fShr := f2I (fun _ j => 0 ≤ j) fun i j => .int (i / 2 ^ j.toNat)
theorem sr_shr : SR K (rI (fun _ j => 0 ≤ j) fun i j => .int (i / 2 ^ j.toNat)) fShr := sr_I fun _ _ _ => .int _
abbrev fBand := f2i fun i j => .int (Builtin.bitAnd i j)
theorem sr_band : SR K (rI0 fun i j => .int (Builtin.bitAnd i j)) fBand := sr_i fun _ _ _ => .int _
abbrev fBor := f2i fun i j => .int (Builtin.bitOr i j)
theorem sr_bor : SR K (rI0 fun i j => .int (Builtin.bitOr i j)) fBor := sr_i fun _ _ _ => .int _
abbrev fBxor := f2i fun i j => .int (Builtin.bitXor i j)
theorem sr_bxor : SR K (rI0 fun i j => .int (Builtin.bitXor i j)) fBxor := sr_i fun _ _ _ => .int _
def fNeg (d : D) (k : D → Prop) : Prop := match d with
  | .int i => k (.int (-i))
  | _ => False
theorem su_neg : SU K (rU fun i => .int (-i)) fNeg := by
  intro S H x d Q R lv hx hf q
  unfold fNeg at hf
  split at hf
  · cases hx.int; exact ⟨_, rfl, q _ H _ (Ex.refl _) (.int _) hf⟩
  · exact hf.elim

/-! comparisons -/
abbrev fLt := f2i fun i j => .bool (decide (i < j))
theorem sr_lt : SR K (rI0 fun i j => .bl (decide (i < j))) fLt := sr_i fun _ _ _ => .bl _
abbrev fLe := f2i fun i j => .bool (decide (i ≤ j))
theorem sr_le : SR K (rI0 fun i j => .bl (decide (i ≤ j))) fLe := sr_i fun _ _ _ => .bl _
abbrev fGt := f2i fun i j => .bool (decide (j < i))
theorem sr_gt : SR K (rI0 fun i j => .bl (decide (j < i))) fGt := sr_i fun _ _ _ => .bl _
abbrev fGe := f2i fun i j => .bool (decide (j ≤ i))
theorem sr_ge : SR K (rI0 fun i j => .bl (decide (j ≤ i))) fGe := sr_i fun _ _ _ => .bl _
def rEqA (K : PySem.W.Frag) : R2 := fun x y H Q => rEq x y H Q ∨ rEqD K x y H Q
def rNeA (K : PySem.W.Frag) : R2 := fun x y H Q => rNe x y H Q ∨ rNeD K x y H Q
theorem op_eqA (hu : X.A.units + 64 < cLine) : OpR X (compareOp .Eq) (rEqA X.K) := op_eq.or (op_eqD hu)
theorem op_neA (hu : X.A.units + 64 < cLine) : OpR X (compareOp .NotEq) (rNeA X.K) := op_ne.or (op_neD hu)
def fEq (d e : D) (k : D → Prop) : Prop := match d, e with
  | .int i, .int j => k (.bool (decide (i = j)))
  | .str i, .str j => k (.bool (decide (i = j)))
  | d, e => SeqAt.shaped d = true ∧ SeqAt.shaped e = true ∧ k (.bool (PyData.eqv d e))
def fNe (d e : D) (k : D → Prop) : Prop := match d, e with
  | .int i, .int j => k (.bool (!decide (i = j)))
  | .str i, .str j => k (.bool (!decide (i = j)))
  | d, e => SeqAt.shaped d = true ∧ SeqAt.shaped e = true ∧ k (.bool (!PyData.eqv d e))
theorem sr_eq : SR K (rEqA K) fEq := by
  intro S H x y d e Q R lv hx hy hf q
  unfold fEq at hf
  split at hf
  · cases hx.int; cases hy.int
    exact .inl ⟨rfl, by rw [dec_int]; exact q _ H _ (Ex.refl _) (by rw [Bool.beq_eq_decide_eq]; exact .bl _) hf⟩
  · cases hx.str; cases hy.str
    exact .inl ⟨rfl, by rw [dec_str]; exact q _ H _ (Ex.refl _) (by rw [Bool.beq_eq_decide_eq]; exact .bl _) hf⟩
  · exact .inr ⟨_, _, hx.full, hy.full, hf.1, hf.2.1, q _ H _ (Ex.refl _) (.bl _) hf.2.2⟩
theorem sr_ne : SR K (rNeA K) fNe := by
  intro S H x y d e Q R lv hx hy hf q
  unfold fNe at hf
  split at hf
  · cases hx.int; cases hy.int
    exact .inl ⟨rfl, by rw [dec_int]; exact q _ H _ (Ex.refl _) (by rw [Bool.beq_eq_decide_eq]; exact .bl _) hf⟩
  · cases hx.str; cases hy.str
    exact .inl ⟨rfl, by rw [dec_str]; exact q _ H _ (Ex.refl _) (by rw [Bool.beq_eq_decide_eq]; exact .bl _) hf⟩
  · exact .inr ⟨_, _, hx.full, hy.full, hf.1, hf.2.1, q _ H _ (Ex.refl _) (.bl _) hf.2.2⟩
def fIsB (d e : D) (k : D → Prop) : Prop := match d, e with
  | .bool i, .bool j => k (.bool (decide (i = j)))
  | _, _ => False
def fNotB (d e : D) (k : D → Prop) : Prop := match d, e with
  | .bool i, .bool j => k (.bool (!decide (i = j)))
  | _, _ => False
theorem sr_isB : SR K rIsB fIsB := by
  intro S H x y d e Q R lv hx hy hf q
  unfold fIsB at hf
  split at hf
  · cases hx.bl; cases hy.bl; exact ⟨_, _, rfl, rfl, q _ H _ (Ex.refl _) (.bl _) hf⟩
  · exact hf.elim
theorem sr_notB : SR K rNotB fNotB := by
  intro S H x y d e Q R lv hx hy hf q
  unfold fNotB at hf
  split at hf
  · cases hx.bl; cases hy.bl; exact ⟨_, _, rfl, rfl, q _ H _ (Ex.refl _) (.bl _) hf⟩
  · exact hf.elim
/-- a < b < c -/
def wChain (f f' : D → D → (D → Prop) → Prop) (wa wb wc : WL) : WE := fun ρ R E => wa ρ (fun La ρ1 => wb ρ1 (fun Lb ρ2 => ∃ d e, La ρ2 d ∧ Lb ρ2 e ∧ f d e (fun z => ∃ k, z = .bool k ∧
  if k = true then wc ρ2 (fun Lc ρ3 => ∃ e' g, Lb ρ3 e' ∧ Lc ρ3 g ∧ f' e' g (fun z => R z ρ3)) E else R (.bool false) ρ2)) E) E
theorem can_chain {r r' : R2} {f f' : D → D → (D → Prop) → Prop} (hr : SR K r f) (hr' : SR K r' f') {wa wb wc : WL} (σ : L2.St) (H : Hp) (Q : VK) : cE K W (wChain f f' wa wb wc) σ H Q → tChain r r' (cL K W wa) (cL K W wb) (cL K W wc) σ H Q := by
  rintro ⟨θ, π, α, ρ, R, E, hR, hw, hq, he⟩
  refine ⟨θ, π, α, ρ, _, E, hR, hw, fun α1 v1 H1 L1 ρ1 R1 s1 l1 w1 => ?_, he⟩
  refine ⟨θ, π, α1, ρ1, _, E, R1, w1, fun α2 v2 H2 L2 ρ2 R2 s2 l2 w2 => ?_, he.step s1⟩
  obtain ⟨d, e, hd, he', hf⟩ := w2
  refine hr _ H2 _ _ d e _ _ R2.live (l1 α2 H2 ρ2 R2 s2 d hd) (l2 α2 H2 ρ2 R2 (Stp.refl ..) e he') hf fun v H' c ex dp rc => ?_
  obtain ⟨k, rfl, rc⟩ := rc
  refine ⟨k, dp_b dp, ?_⟩
  have Rx := R2.ext ex
  have sx := (s1.trans s2).trans (R2.stp ex)
  cases k with
  | true =>
    rw [if_pos rfl] at rc
    refine iteT ?_
    refine ⟨θ, π, α2, ρ2, _, E, Rx, rc, fun α3 v3 H3 L3 ρ3 R3 s3 l3 w3 => ?_, he.step sx⟩
    obtain ⟨e', g, h1, h2, h3⟩ := w3
    exact hr' _ H3 _ _ e' g Q _ R3.live (l2 α3 H3 ρ3 R3 ((R2.stp ex).trans s3) e' h1) (l3 α3 H3 ρ3 R3 (Stp.refl ..) g h2) h3 fun v' H4 c' ex' dp' rc' => hq α3 v' H4 c' ρ3 (R3.ext ex') ((sx.trans s3).trans (R3.stp ex')) dp' rc'
  | false =>
    rw [if_neg Bool.false_ne_true] at rc
    refine iteF ?_
    exact hq α2 _ H' _ ρ2 Rx sx (.bl _) rc
theorem dChain {op op' : CmpOp} {r r' : R2} {f f' : D → D → (D → Prop) → Prop} {a b c : Expr} {pos : Pos} {wa wb wc : WL} (ho : OpR X (compareOp op) r) (ho' : OpR X (compareOp op') r') (hr : SR K r f) (hr' : SR K r' f') (ha : PE X a (cL K W wa)) (hb : PE X b (cL K W wb)) (hc : PE X c (cL K W wc))
    (hm : lastMarks [op, op'] [b, c] = false := by with_unfolding_all rfl) : PE X (.Compare a [op, op'] [b, c] pos) (cE K W (wChain f f' wa wb wc)) := peI (pe_chain ho ho' ha hb hc hm) (can_chain hr hr')
theorem dTchain {op op' : CmpOp} {r r' : R2} {f f' : D → D → (D → Prop) → Prop} {a b c : Expr} {pos : Pos} {wa wb wc : WL} (ho : OpR X (compareOp op) r) (ho' : OpR X (compareOp op') r') (hr : SR K r f) (hr' : SR K r' f') (ha : PE X a (cL K W wa)) (hb : PE X b (cL K W wb)) (hc : PE X c (cL K W wc))
    (hm : lastMarks [op, op'] [b, c] = false := by with_unfolding_all rfl) : PT X (.Compare a [op, op'] [b, c] pos) (cT K W (wTb (wChain f f' wa wb wc))) :=
  ptI (pt_chain ho ho' ha hb hc hm) fun σ H Q q => can_chain hr hr' σ H _ (can_tb σ H Q q)

/-! subscripts -/
theorem ixN_len {α β : Type} {xs : List α} {ys : List β} {i : Int} (h : xs.length = ys.length) : ixN xs.length i = ixN ys.length i := by rw [h]
theorem dpA_at {G : Hp} {vs : List V} {ds : List D} {i : Int} {d : D} (h : DpAll K G vs ds) (hd : atI ds i = some d) : ∃ v, atI vs i = some v ∧ Dp K G v d := by
  unfold atI at hd ⊢
  rw [dpA_len h]
  cases q : ixN ds.length i with
  | none => rw [q] at hd; cases hd
  | some j =>
    rw [q] at hd
    exact dpA_get h hd
def fIx (d e : D) (k : D → Prop) : Prop := match d, e with
  | .list ds, .int i => ∃ x, atI ds i = some x ∧ k x
  | .tuple ds, .int i => ∃ x, atI ds i = some x ∧ k x
  | .str z, .int i => z.length ≤ sizeLine ∧ ∃ c, atI z.cps.toList i = some c ∧ k (.str ⟨#[c]⟩)
  | _, _ => False
theorem sr_ix : SR K (rIx K) fIx := by
  intro S H x y d e Q R lv hx hy hf q
  unfold fIx at hf
  split at hf
  · obtain ⟨c, hc, hf⟩ := hf
    obtain ⟨a, vs, rfl, h1, h2⟩ := hx.lst
    cases hy.int
    obtain ⟨v, h3, h4⟩ := dpA_at h2 hc
    exact .inl ⟨a, vs, _, v, rfl, rfl, h1, h3, q _ H _ (Ex.refl _) h4 hf⟩
  · obtain ⟨c, hc, hf⟩ := hf
    obtain ⟨a, vs, rfl, h1, h2⟩ := hx.tup
    cases hy.int
    obtain ⟨v, h3, h4⟩ := dpA_at h2 hc
    exact .inr (.inl ⟨a, vs, _, v, rfl, rfl, h1, h3, q _ H _ (Ex.refl _) h4 hf⟩)
  · obtain ⟨hz, c, hc, hf⟩ := hf
    cases hx.str; cases hy.int
    exact .inr (.inr ⟨_, _, c, rfl, rfl, hz, hc, q _ H _ (Ex.refl _) (.str _) hf⟩)
  · exact hf.elim

/-! slices -/
def wpNo : WO := fun ρ R _ => R none ρ
def wpAt (w : WE) : WO := fun ρ R E => w ρ (fun d ρ' => ∃ i, d = .int i ∧ R (some i) ρ') E
theorem dpNo : PO X none (cO K W wpNo) := poI po_none fun σ H Q ⟨θ, π, α, ρ, R, E, hR, hw, hq, he⟩ => hq α H none ρ hR (Stp.refl ..) hw
theorem dpAt {e : Expr} {w : WE} (h : PE X e (cE K W w)) : PO X (some e) (cO K W (wpAt w)) := poI (po_some h) fun σ H Q ⟨θ, π, α, ρ, R, E, hR, hw, hq, he⟩ =>
  ⟨θ, π, α, ρ, _, E, hR, hw, fun α1 v H1 d ρ1 R1 s1 p1 w1 => by
    obtain ⟨i, rfl, w1⟩ := w1
    exact ⟨i, dp_int p1, hq α1 H1 _ ρ1 R1 s1 w1⟩, he⟩
def cutG {α : Type} (xs : List α) (lo hi : Option Int) : List α := (xs.drop (HT.sIx xs.length 0 lo)).take (HT.sIx xs.length xs.length hi - HT.sIx xs.length 0 lo)
theorem dpA_drop {G : Hp} : ∀ {vs : List V} {ds : List D} (n : Nat), DpAll K G vs ds → DpAll K G (vs.drop n) (ds.drop n)
  | _, _, 0, h => h
  | _, _, _ + 1, .nil => .nil
  | _, _, n + 1, .cons _ hs => dpA_drop n hs
theorem dpA_take {G : Hp} : ∀ {vs : List V} {ds : List D} (n : Nat), DpAll K G vs ds → DpAll K G (vs.take n) (ds.take n)
  | _, _, 0, _ => .nil
  | _, _, _ + 1, .nil => .nil
  | _, _, n + 1, .cons h hs => .cons h (dpA_take n hs)
theorem dpA_cut {G : Hp} {vs : List V} {ds : List D} {lo hi : Option Int} (h : DpAll K G vs ds) : DpAll K G (cutV vs lo hi) (cutG ds lo hi) := by
  unfold cutV cutG
  rw [dpA_len h]
  exact dpA_take _ (dpA_drop _ h)
/-- a list's slice, new -/
def wSlL (w : WL) (wl wh : WO) : WA := fun ρ R E => w ρ (fun L ρ1 => wl ρ1 (fun lo ρ2 => wh ρ2 (fun hi ρ3 => ∃ ds, L ρ3 (.list ds) ∧ R (cutG ds lo hi) ρ3) E) E) E
theorem dSlL {e : Expr} {lo hi : Option Expr} {p2 pos : Pos} {w : WL} {wl wh : WO} (h : PE X e (cL X.K W w)) (hl : PO X lo (cO X.K W wl)) (hh : PO X hi (cO X.K W wh)) : PE X (.Subscript e (.Slice lo hi none p2) pos) (cF X.K W (wSlL w wl wh)) :=
  peI (pe_slice sl_list h hl hh) fun σ H Q => by
    rintro ⟨θ, π, α, ρ, R, E, hR, hw, hq, he⟩
    refine ⟨θ, π, α, ρ, _, E, hR, hw, fun α1 v1 H1 L1 ρ1 R1 s1 l1 w1 => ?_, he⟩
    refine ⟨θ, π, α1, ρ1, _, E, R1, w1, fun α2 H2 lo ρ2 R2 s2 w2 => ?_, he.step s1⟩
    refine ⟨θ, π, α2, ρ2, _, E, R2, w2, fun α3 H3 hi ρ3 R3 s3 w3 => ?_, he.step (s1.trans s2)⟩
    obtain ⟨ds, hd, w3⟩ := w3
    obtain ⟨a, vs, rfl, h1, h2⟩ := (l1 α3 H3 ρ3 R3 (s2.trans s3) _ hd).lst
    refine ⟨a, vs, rfl, h1, fun p hp => ?_⟩
    have e := hid_new (θ := θ) (α := α3) (o := .lst (cutV vs lo hi)) hp
    exact hq α3 p _ _ _ ρ3 (R3.hideNew hp) ⟨by rw [e]; exact ((s1.trans s2).trans s3).1, fun b hb => ((R3.stpNew hp).2 b hb).trans (((s1.trans s2).trans s3).2 b hb)⟩ (fun z => R3.lv p z hp) upd_same (by rw [e]; exact dpA_cut h2) w3

/-! built-in functions -/
def wB1 (f : D → (D → Prop) → Prop) (w : WL) : WE := wUn f w
def wB2 (f : D → D → (D → Prop) → Prop) (wa wb : WL) : WE := wOp f wa wb
theorem dB1 {r : List V → Hp → VK → Prop} {f : D → (D → Prop) → Prop} {e a : Expr} {w : WL} (h : ∀ ta, PE X a ta → PE X e (tCB r (tCons ta tNil))) (hr : SU K (fun x => r [x]) f) (ha : PE X a (cL K W w)) : PE X e (cE K W (wB1 f w)) :=
  peI (h _ ha) fun σ H Q q => can_un hr σ H Q q
theorem dB2 {r : List V → Hp → VK → Prop} {f : D → D → (D → Prop) → Prop} {e a b : Expr} {wa wb : WL} (h : ∀ ta tb, PE X a ta → PE X b tb → PE X e (tCB r (tCons ta (tCons tb tNil)))) (hr : SR K (fun x y => r [x, y]) f) (ha : PE X a (cL K W wa)) (hb : PE X b (cL K W wb)) : PE X e (cE K W (wB2 f wa wb)) :=
  peI (h _ _ ha hb) fun σ H Q q => can_op hr σ H Q q
def fAbs (d : D) (k : D → Prop) : Prop := match d with
  | .int i => k (.int (if i < 0 then -i else i))
  | _ => False
theorem su_abs : SU K (fun x H Q => ∃ i, [x] = [V.int i] ∧ Q (.int (if i < 0 then -i else i)) H) fAbs := by
  intro S H x d Q R lv hx hf q
  unfold fAbs at hf
  split at hf
  · cases hx.int; exact ⟨_, rfl, q _ H _ (Ex.refl _) (.int _) hf⟩
  · exact hf.elim
def fInt (d : D) (k : D → Prop) : Prop := match d with
  | .int i => k (.int i)
  | .bool b => k (.int (if b then 1 else 0))
  | _ => False
theorem su_int : SU K (fun x H Q => (∃ i, [x] = [V.int i] ∧ Q (.int i) H) ∨ ∃ k, [x] = [V.bl k] ∧ Q (.int (if k then 1 else 0)) H) fInt := by
  intro S H x d Q R lv hx hf q
  unfold fInt at hf
  split at hf
  · cases hx.int; exact .inl ⟨_, rfl, q _ H _ (Ex.refl _) (.int _) hf⟩
  · cases hx.bl; exact .inr ⟨_, rfl, q _ H _ (Ex.refl _) (.int _) hf⟩
  · exact hf.elim
def fLen (d : D) (k : D → Prop) : Prop := match d with
  | .str x => x.length ≤ sizeLine ∧ k (.int x.length)
  | .list ds => k (.int ds.length)
  | .tuple ds => k (.int ds.length)
  | _ => False
theorem su_len : SU K (fun x H Q => ∃ y n, [x] = [y] ∧ LenV K y H n ∧ Q (.int n) H) fLen := by
  intro S H x d Q R lv hx hf q
  unfold fLen at hf
  split at hf
  · cases hx.str; exact ⟨_, _, rfl, ⟨hf.1, rfl⟩, q _ H _ (Ex.refl _) (.int _) hf.2⟩
  · obtain ⟨a, vs, rfl, h1, h2⟩ := hx.lst
    exact ⟨_, _, rfl, .inl ⟨vs, h1, rfl⟩, q _ H _ (Ex.refl _) (by rw [dpA_len h2]; exact .int _) hf⟩
  · obtain ⟨a, vs, rfl, h1, h2⟩ := hx.tup
    exact ⟨_, _, rfl, .inr ⟨vs, h1, rfl⟩, q _ H _ (Ex.refl _) (by rw [dpA_len h2]; exact .int _) hf⟩
  · exact hf.elim
def fGcd (d e : D) (k : D → Prop) : Prop := match d, e with
  | .int a, .int b => k (.int ((Nat.gcd a.natAbs b.natAbs : Nat) : Int))
  | _, _ => False
theorem sr_gcd : SR K (fun x y => rGcd [x, y]) fGcd := by
  intro S H x y d e Q R lv hx hy hf q
  unfold fGcd at hf
  split at hf
  · cases hx.int; cases hy.int; exact ⟨_, _, rfl, q _ H _ (Ex.refl _) (.int _) hf⟩
  · exact hf.elim
/-- isinstance(x, T) -/
def tyN : D → String
  | .none => "NoneType" | .bool _ => "bool" | .int _ => "int" | .str _ => "str" | .list _ => "list" | .tuple _ => "tuple" | .dict _ => "dict"
theorem tyx_of {x : V} {d : D} (h : Dp K H x d) : TyX K H x (.type (tyN d)) := by
  cases h with
  | non => exact .base .non
  | bl b => exact .base (.bl b)
  | int i => exact .base (.int i)
  | str z => exact .base (.str z)
  | lst h hs =>
    rcases h with (h | ⟨o, h⟩) | ⟨o, its, n, h, hc, _⟩
    · exact .base (.lst h)
    · exact .base (.frz h)
    · exact .kList h hc
  | tup h hs =>
    rcases h with (h | ⟨o, h⟩) | ⟨o, its, n, h, hc, _⟩
    · exact .base (.tup h)
    · exact .fTuple h
    · exact .kTuple h hc
def isK (n : String) (d : D) : Bool := match d with
  | .int _ => n == "int"
  | .bool _ => n == "bool" || n == "int"
  | .str _ => n == "str"
  | .list _ => n == "list"
  | .tuple _ => n == "tuple"
  | _ => false
def wIsi (n : String) (w : WL) : WE := fun ρ R E => w ρ (fun L ρ1 => ∃ d, L ρ1 d ∧ R (.bool (isK n d)) ρ1) E
theorem dIsi {e a c : Expr} {n : String} {w : WL} (h : ∀ ta tb, PE X a ta → PE X c tb → PE X e (tCB (rIsi X.K) (tCons ta (tCons tb tNil)))) (ha : PE X a (cL X.K W w)) (hc : PE X c (tC (.ty n)))
    (hn : kitB "NoneType" n = some false ∧ kitB "bool" n = some (n == "bool" || n == "int") ∧ kitB "int" n = some (n == "int") ∧ kitB "str" n = some (n == "str") ∧ kitB "list" n = some (n == "list") ∧ kitB "tuple" n = some (n == "tuple")) : PE X e (cE X.K W (wIsi n w)) :=
  peI (h _ _ ha hc) fun σ H Q => by
    rintro ⟨θ, π, α, ρ, R, E, hR, hw, hq, he⟩
    refine ⟨θ, π, α, ρ, _, E, hR, hw, fun α1 v1 H1 L1 ρ1 R1 s1 l1 w1 => ?_, he⟩
    obtain ⟨d, hd, w1⟩ := w1
    have hx := (l1 α1 H1 ρ1 R1 (Stp.refl ..) d hd).full
    have ty := tyx_of hx
    obtain ⟨k1, k2, k3, k4, k5, k6⟩ := hn
    have fin : ∀ b, isK n d = b → PySem.W.kitOne X.K (.type (tyN d)) (.type n) = some b →
        tCons (fun σ H Q => Q v1 H) (tCons (tC (.ty n)) tNil) σ H1 (fun vs H2 => rIsi X.K vs H2 Q) := fun b hb hk =>
      ⟨v1, .ty n, _, .type n, b, rfl, .ty n, ty, hk, hq α1 _ H1 _ ρ1 R1 s1 (by rw [hb]; exact .bl b) w1⟩
    cases d with
    | none => exact fin false rfl (kit_ty k1)
    | bool b => exact fin _ rfl (kit_ty k2)
    | int i => exact fin _ rfl (kit_ty k3)
    | str i => exact fin _ rfl (kit_ty k4)
    | list i => exact fin _ rfl (kit_ty k5)
    | tuple i => exact fin _ rfl (kit_ty k6)
    | dict i => cases hx
end
end Den

set_option maxHeartbeats 2000000
namespace Den
open PySem PySem.Spec PyProof.Rows HotX
section
variable {prog : Program} {w : World} {A : Around} {E : Value → Shared → Prop} {s : Shared}
theorem next_list_hot {it l x1 : Addr} {i : Nat} {items : Array Value} {Q : Option Value → Shared → Prop} (hot : HotAt A x1 s.heap)
    (hit : s.heap.IsListIter it l i) (hl : s.heap.IsList l items) (hx : items[i]? = none)
    (hQ : ∀ h', (∀ b o, b ≠ it → s.heap.get? b = some o → h'.get? b = some o) → Q none { s with heap := h' }) : wpAny (model prog w) A (pyNext (.ref it)) Q E s := by
  obtain ⟨o, ho, hc, hd⟩ := id hit
  obtain ⟨ol, hol, _, nl, hdl⟩ := hl
  obtain ⟨hh, o1, vs1, h1, d1, c1⟩ := hot
  have hne : x1 ≠ it := fun z => by
    subst z
    rw [ho] at h1; cases h1
    rw [hd] at d1; cases d1
    simp at c1
  unfold pyNext
  refine wpAny_bind (wpAny_attempt (wpAny_callSpecial?_slot (name := Str.ofString "__next__") hit.typeIs slot_listiter_next
    (wpAny_call_entry slot_listiter_next hit.typeIs entry_listiter_next ?_ (args_listiter_next _))))
  show wpAny _ _ (field (.ref it) 0 >>= _) _ _ s
  refine wpAny_bind (wpAny_field ho hd (x := .ref l) rfl ?_)
  show wpAny _ _ (if (Value.ref l == Value.none) = true then _ else _) _ _ s
  rw [if_neg (show ¬ ((Value.ref l == Value.none) = true) from Bool.false_ne_true)]
  show wpAny _ _ (field (.ref it) 1 >>= _) _ _ s
  refine wpAny_bind (wpAny_field ho hd (x := .int i 0) rfl ?_)
  show wpAny _ _ (seqItems? (.ref l) >>= _) _ _ s
  refine wpAny_bind (wpAny_seqItems hol hdl ?_)
  simp only [Int.toNat_natCast, hx]
  refine wpAny_bind (wpAny_rule (wpAny_bind (wpAny_setField ho hd (by simp) ?_)))
  show wpAny _ _ (newExc (.type "StopIteration") [] >>= _) _ _ _
  refine wpAny_bind ?_
  simp only [newExc, newTuple]
  refine wpAny_bind (wpAny_newObj_type ?_ (by size_fits))
  refine wpAny_bind (m := firstArgMember _ _) (wpAny_of_eq (a := Value.none) (by first | rfl | (simp only [firstArgMember]; rfl)) ?_)
  refine wpAny_newObj_type ?_ (by size_fits)
  have h1' := (Heap.get?_update_other s.heap (Obj.mapFields (·.setIfInBounds 0 Value.none)) (Ne.symm hne)).trans h1
  refine raiseNew_hot ⟨hh, o1, vs1, Heap.get?_push_of_some _ (Heap.get?_push_of_some _ h1'), d1, c1⟩ (Nat.ne_of_lt (Heap.lt_size (Heap.get?_push_of_some _ h1'))) (Heap.get?_push_size _ rfl) rfl (by first | (simp; done) | (simp; omega) | (simp only [Array.size_append]; simp; omega)) ?_
  refine wpAny_bind (wpAny_isInstance (T := "StopIteration") (b := true) ⟨_, Heap.get?_update_self _ (Heap.get?_push_size _ rfl) rfl, rfl⟩ isSubtype_stop ?_)
  refine wpAny_pure (hQ _ fun b o hb e => ?_)
  have e' := (Heap.get?_update_other s.heap (Obj.mapFields (·.setIfInBounds 0 Value.none)) (Ne.symm hb)).trans e
  rw [Heap.get?_update_other _ _ (Nat.ne_of_gt (Heap.lt_size (Heap.get?_push_of_some _ e')))]
  exact Heap.get?_push_of_some _ (Heap.get?_push_of_some _ e')
theorem next_tup_hot {it l x1 : Addr} {i : Nat} {items : Array Value} {Q : Option Value → Shared → Prop} (hot : HotAt A x1 s.heap)
    (hit : IsTupIter s.heap it l i) (hl : IsTup s.heap l items) (hx : items[i]? = none)
    (hQ : ∀ h', (∀ b o, b ≠ it → s.heap.get? b = some o → h'.get? b = some o) → Q none { s with heap := h' }) : wpAny (model prog w) A (pyNext (.ref it)) Q E s := by
  obtain ⟨o, ho, hc, hd⟩ := id hit
  obtain ⟨ol, hol, _, nl, hdl⟩ := hl
  obtain ⟨hh, o1, vs1, h1, d1, c1⟩ := hot
  have hne : x1 ≠ it := fun z => by
    subst z
    rw [ho] at h1; cases h1
    rw [hd] at d1; cases d1
    simp at c1
  unfold pyNext
  refine wpAny_bind (wpAny_attempt (wpAny_callSpecial?_slot (name := Str.ofString "__next__") hit.typeIs slot_tupleiter_next
    (wpAny_call_entry slot_tupleiter_next hit.typeIs entry_tupleiter_next ?_ (args_tupleiter_next _))))
  show wpAny _ _ (field (.ref it) 0 >>= _) _ _ s
  refine wpAny_bind (wpAny_field ho hd (x := .ref l) rfl ?_)
  show wpAny _ _ (if (Value.ref l == Value.none) = true then _ else _) _ _ s
  rw [if_neg (show ¬ ((Value.ref l == Value.none) = true) from Bool.false_ne_true)]
  show wpAny _ _ (field (.ref it) 1 >>= _) _ _ s
  refine wpAny_bind (wpAny_field ho hd (x := .int i 0) rfl ?_)
  show wpAny _ _ (seqItems? (.ref l) >>= _) _ _ s
  refine wpAny_bind (wpAny_seqItems hol hdl ?_)
  simp only [Int.toNat_natCast, hx]
  refine wpAny_bind (wpAny_rule (wpAny_bind (wpAny_setField ho hd (by simp) ?_)))
  show wpAny _ _ (newExc (.type "StopIteration") [] >>= _) _ _ _
  refine wpAny_bind ?_
  simp only [newExc, newTuple]
  refine wpAny_bind (wpAny_newObj_type ?_ (by size_fits))
  refine wpAny_bind (m := firstArgMember _ _) (wpAny_of_eq (a := Value.none) (by first | rfl | (simp only [firstArgMember]; rfl)) ?_)
  refine wpAny_newObj_type ?_ (by size_fits)
  have h1' := (Heap.get?_update_other s.heap (Obj.mapFields (·.setIfInBounds 0 Value.none)) (Ne.symm hne)).trans h1
  refine raiseNew_hot ⟨hh, o1, vs1, Heap.get?_push_of_some _ (Heap.get?_push_of_some _ h1'), d1, c1⟩ (Nat.ne_of_lt (Heap.lt_size (Heap.get?_push_of_some _ h1'))) (Heap.get?_push_size _ rfl) rfl (by first | (simp; done) | (simp; omega) | (simp only [Array.size_append]; simp; omega)) ?_
  refine wpAny_bind (wpAny_isInstance (T := "StopIteration") (b := true) ⟨_, Heap.get?_update_self _ (Heap.get?_push_size _ rfl) rfl, rfl⟩ isSubtype_stop ?_)
  refine wpAny_pure (hQ _ fun b o hb e => ?_)
  have e' := (Heap.get?_update_other s.heap (Obj.mapFields (·.setIfInBounds 0 Value.none)) (Ne.symm hb)).trans e
  rw [Heap.get?_update_other _ _ (Nat.ne_of_gt (Heap.lt_size (Heap.get?_push_of_some _ e')))]
  exact Heap.get?_push_of_some _ (Heap.get?_push_of_some _ e')
theorem unpack_tup_hot {t x1 : Addr} {items : Array Value} {Q : List Value → Shared → Prop} (hot : HotAt A x1 s.heap) (ht : IsTup s.heap t items)
    (hQ : ∀ h', Heap.ExtBut s.heap.objs.size s.heap h' → Q items.toList { s with heap := h' }) : wpAny (model prog w) A (unpackItems (.ref t) items.size none) Q E s := by
  have hlt : t ≠ s.heap.objs.size := by obtain ⟨o, ho, _⟩ := ht; exact Nat.ne_of_lt (Heap.lt_size ho)
  obtain ⟨hh, o1, vs1, h1, d1, c1⟩ := hot
  unfold unpackItems
  refine wpAny_bind ?_
  · unfold notIterableAtAll
    refine wpAny_bind (wpAny_specialOf ht.typeIs slot_tuple_iter.lookup ?_)
    refine wpAny_pure ?_
    simp only [Bool.false_eq_true, if_false]
    refine wpAny_bind (wpAny_holding (iter_tuple ht ?_))
    refine wpAny_bind (wpAny_holding (draw_tuple hlt items.size 0 _ _ ⟨_, Heap.get?_push_size _ rfl, rfl, rfl⟩ (ht.push _) (by omega) fun h₁ hit₁ hs₁ => ?_))
    have hall : List.take items.size (List.drop 0 items.toList) = items.toList := by
      rw [List.drop_zero]; exact List.take_of_length_le (by simp)
    rw [hall]
    rw [if_neg (by simp)]
    have ht₁ : IsTup h₁ t items := (ht.push _).extBut hs₁.extBut hlt
    have h11 : h₁.get? x1 = some o1 := hs₁.extBut x1 o1 (Nat.ne_of_lt (Heap.lt_size h1)) (Heap.get?_push_of_some _ h1)
    refine wpAny_bind (wpAny_holding (next_tup_hot ⟨hh, o1, vs1, h11, d1, c1⟩ hit₁ ht₁ (by simp) fun h₂ he₂ => ?_))
    simp only [Option.isSome_none, Bool.false_eq_true, if_false]
    refine wpAny_pure (hQ h₂ fun b o hb e => he₂ b o hb (hs₁.extBut b o hb (Heap.get?_push_of_some _ e)))
end
end Den
namespace Den
open PySem L2 Evl PySem.Spec PyProof.Rows HotX
/-- an exception is handled, without a context -/
def HotS (X : Cx) : Prop := ∀ (pins : List (Addr × Obj)) (σ : L2.St) (H : Hp) (s : Shared), Inv X pins σ H s → ∃ x1, HotAt X.A x1 s.heap
theorem hotS_of {X : Cx} (h : L2H.HotC X) : HotS X := fun pins σ H s I => h.at I
section
variable {X : Cx}
theorem pg_tupH {es : List Expr} {k : Nat} {t : TGs} {n : Nat} {pos : Pos} (hc : HotS X) (h : PGs X es t)
    (hn : (assignEach es X.env).length = n := by rfl) (hst : (assignEach es X.env).findIdx? (·.1) = none := by rfl) : PG X (.Tuple es k pos) (gTup X.K n t) := by
  refine ⟨fun pins s σ H v u Q I r hw => ?_⟩
  obtain ⟨a, xs, e1, hq, hl, hw⟩ := hw
  subst e1
  cases r
  obtain ⟨its, rv, ht, hz⟩ := I.tuple hq
  obtain ⟨x1, hot⟩ := hc _ _ _ _ I
  have hsz : (assignEach es X.env).length = its.toArray.size := by simp [hn, ← hl, rv.length]
  rw [PyProof.Rows.assign_Tuple]
  refine wpAny_bind (wpAny_standAt ?_)
  unfold unpack
  rw [hsz, hst]
  refine wpAny_bind (wpAny_holding (unpack_tup_hot hot ht fun h' hx => ?_))
  have I1 : Inv X pins σ H { s with heap := h' } := I.kept (t' := s.toks) fun b o e => hx b o (Nat.ne_of_lt (Heap.lt_size e)) e
  exact h.run pins _ σ H xs _ Q I1 (by simpa using rv) hw
structure TurnS (P : Program) (w : World) (K : PySem.W.Frag) (tg : Expr) (J : It) (fp : List Addr) (it : Addr) (tn : Nat → Heap → Prop) : Prop where
  mem : it ∈ fp
  obj : ∀ i h, tn i h → ∀ b ∈ fp, ∃ o, h.get? b = some o ∧ ∀ v, o.data ≠ .cell v
  keep : ∀ i h h', tn i h → (∀ b ∈ fp, ∀ o, h.get? b = some o → h'.get? b = some o) → tn i h'
  item : ∀ (X : Cx), X.prog = P → X.w = w → X.K = K → HotS X → ∀ (i : Nat) (pins : List (Addr × Obj)) (s : Shared) (σ : L2.St) (H : Hp) (E : Value → Shared → Prop), Inv X pins σ H s → (∀ b ∈ fp, FpOk X pins H b) → tn i s.heap → J.go i H →
    wpAny (model P w) X.A (pyNext (.ref it)) (fun r s1 => ∃ u, r = some u ∧
      wpAny (model P w) X.A (letOwnedTupleGo tg (.ref it) u) (fun _ s2 => ∃ x H', Inv X pins σ H' s2 ∧ RelV x u ∧ J.yld i H x H' ∧ tn (i + 1) s2.heap ∧ ∀ b ∈ fp, H' b = none) E s1) E s
  done : ∀ (X : Cx), X.prog = P → X.w = w → X.K = K → HotS X → ∀ (i : Nat) (pins : List (Addr × Obj)) (s : Shared) (σ : L2.St) (H : Hp) (E : Value → Shared → Prop), Inv X pins σ H s → (∀ b ∈ fp, FpOk X pins H b) → tn i s.heap → J.stop i H →
    wpAny (model P w) X.A (pyNext (.ref it)) (fun r s1 => r = none ∧ Inv X pins σ H s1) E s
  self : ∀ (A : Around) (i : Nat) (s : Shared) (Q : Value → Shared → Prop) (E : Value → Shared → Prop), tn i s.heap → Q (.ref it) s → wpAny (model P w) A (pyIter (.ref it)) Q E s
theorem turn_listS {P : Program} {w : World} {K : PySem.W.Frag} {tg : Expr} (a it : Addr) : TurnS P w K tg (Itl K a) [it] it (fun i h => h.IsListIter it a i) where
  mem := by simp
  obj := fun i h st b hb => by
    have e : b = it := by simpa using hb
    subst e
    obtain ⟨o, e, c, d⟩ := st
    exact ⟨o, e, fun v z => by rw [d] at z; cases z⟩
  keep := fun i h h' st k => st.at fun o e => k it (by simp) o e
  item := by
    intro X hP hw hK hc i pins s σ H E I hf st hg
    subst hP hw hK
    obtain ⟨xs, x, hq, hx⟩ := hg
    obtain ⟨its, rv, p, hz⟩ := I.list hq
    obtain ⟨u, hu, ru⟩ := rv.get hx
    obtain ⟨f0, f1, f2, f3, f4, f5⟩ := hf it (by simp)
    refine wpAny_pyNext_list_item st p.isList (x := u) (by simpa using hu) fun h' st' sb => ?_
    have I1 : Inv X pins σ H { s with heap := h' } := I.turned (t' := s.toks) (fun b o hb e => (sb.2 b hb).trans e) f0 f1 f3 f4 f5
    obtain ⟨o, e, c, d⟩ := id st'
    exact ⟨u, rfl, go_of (s := { s with heap := h' }) e c d (by decide) ⟨x, H, I1, ru, ⟨rfl, fun ys hy => by rw [I.list_inj hy hq]; exact hx⟩, st', fun b hb => (hf b hb).1⟩⟩
  done := by
    intro X hP hw hK hc i pins s σ H E I hf st hg
    subst hP hw hK
    obtain ⟨xs, hq, hx⟩ := hg
    obtain ⟨its, rv, p, hz⟩ := I.list hq
    obtain ⟨f0, f1, f2, f3, f4, f5⟩ := hf it (by simp)
    obtain ⟨x1, hot⟩ := hc _ _ _ _ I
    have hl := rv.length
    exact next_list_hot hot st p.isList (by simp; omega) fun h' eb => ⟨rfl, I.turned (t' := s.toks) (fun b o hb e => eb b o hb e) f0 f1 f3 f4 f5⟩
  self := fun _ _ _ _ _ st h => wpAny_pyIter_listiter st h
def PIES (X : Cx) (pins : List (Addr × Obj)) (σ : L2.St) (tg : Expr) (R : It → Hp → Prop) (itv : Value) (s2 : Shared) : Prop :=
  ∃ (it : Addr) (fp : List Addr) (tn : Nat → Heap → Prop) (J : It) (H' : Hp), itv = .ref it ∧ Inv X pins σ H' s2 ∧ TurnS X.prog X.w X.K tg J fp it tn ∧ tn 0 s2.heap ∧ (∀ b ∈ fp, FpOk X pins H' b) ∧ R J H'
structure PIS (X : Cx) (tg iter : Expr) (wi : TI) : Prop where
  run : ∀ (pins : List (Addr × Obj)) (s : Shared) (σ : L2.St) (H : Hp) (R : It → Hp → Prop), Inv X pins σ H s → wi σ H R →
    wpAny (model X.prog X.w) X.A (eval iter X.env) (fun v s1 => wpAny (model X.prog X.w) X.A (pyIter v) (PIES X pins σ tg R) X.xe s1) X.xe s
theorem pi_listS {tg : Expr} {l : Expr} {tl : TE} (hl : PE X l tl) : PIS X tg l (iList X.K tl) := by
  refine ⟨fun pins s σ H R I h => ?_⟩
  refine thn (hl.run pins s σ H _ I h) fun v s1 ⟨x, H1, I1, r1, q1⟩ => ?_
  obtain ⟨a, e, ⟨xs, hq⟩, q⟩ := q1
  subst e
  cases r1
  obtain ⟨its, rv, p, hz⟩ := I1.list hq
  refine wpAny_pyIter_list p.isList ?_
  refine ⟨s1.heap.objs.size, [s1.heap.objs.size], _, _, H1, rfl, I1.kept (t' := s1.toks) fun b o e => Heap.get?_push_of_some _ e, turn_listS a _, ⟨_, Heap.get?_push_size _ rfl, rfl, rfl⟩, fun b hb => ?_, q⟩
  have e : b = s1.heap.objs.size := by simpa using hb
  subst e
  exact I1.fpOk (Nat.le_refl _) (I1.hok.fresh (Nat.le_refl _))
theorem piSI {tg e : Expr} {t t' : TI} (h : PIS X tg e t) (k : ∀ σ H R, t' σ H R → t σ H R) : PIS X tg e t' := ⟨fun pins s σ H Q I q => h.run pins s σ H Q I (k _ _ _ q)⟩
/-- a comprehension within an except suite -/
theorem lc_coreS {pins : List (Addr × Obj)} {s : Shared} {σ : L2.St} {H : Hp} {Q : VK} {pos' : Pos} {use : Option (Value → Sem Unit)} {Qf : Value → Shared → Prop} {elt tg iter : Expr} {ifs : List Expr} {scope : Scope} {own : List (Str × Nat)} {pos : Pos} {wi : TI} {g : TG} {tt : TT} {te : TE}
    (hot : L2H.HotC X) (hN : X.N.Nodup) (I : Inv X pins σ H s) (hi : PIS X tg iter wi) (ok : BlkOk X.N X.env.scope scope own)
    (hg : ∀ (s : Shared) (H : Hp) (C : Addr) (cl : List (Str × Addr)) (fp : List Addr), HotS (X.blk s H scope (compEnvC scope cl C X.env) fp) → PG (X.blk s H scope (compEnvC scope cl C X.env) fp) tg g) (ht : ∀ (s : Shared) (H : Hp) (C : Addr) (cl : List (Str × Addr)) (fp : List Addr), PTs (X.blk s H scope (compEnvC scope cl C X.env) fp) ifs tt)
    (he : ∀ (s : Shared) (H : Hp) (C : Addr) (cl : List (Str × Addr)) (fp : List Addr), PE (X.blk s H scope (compEnvC scope cl C X.env) fp) elt te) (hs : ∀ x, foldedSetIterable iter X.env x = pure x)
    (h : tLc wi g tt te (own.map (·.2)) σ H Q)
    (hRR : ∀ D C s' m H', Inv X pins σ H' s' → Q (.ref D) H' → s'.heap.Ns C m → FpOk X pins H' C → compPost (model X.prog X.w) X.A X.xe use Qf (.ref D) C (.ok .next) s') :
    wpAny (model X.prog X.w) X.A (comprehension (.ListComp elt [⟨tg, iter, ifs, 0⟩] scope pos) scope X.env pos' (newList []) false (eval iter X.env) use) Qf X.xe s := by
  have hfree : ∀ y ∈ scope.names, y.2 = .free → ∃ c, X.env.cells.lookup y.1 = some c := fun y hy e => by
    rcases ok.free y hy e with k | k
    · exact I.ok.has _ (.inl k)
    · exact I.ok.has _ (.inr k)
  refine wpAny_comprehension_free (use := use) rfl hs (closure_ok hfree) ok.kind (fun y hy e => by rw [ok.uniq y hy, e])
    (thn (hi.run pins s σ H _ I h) fun xv s1 hx => thn hx fun itv s2 h2 => ?_)
  obtain ⟨it, fp, tn, J, H2, e, I2, T, st2, f2, q⟩ := h2
  subst e
  refine wpAny_newObj_type (newEnv_comp ?_) (by show 0 ≤ sizeLine; decide)
  generalize hD : s2.heap.objs.size = D
  have hDn : H2 D = none := I2.hok.fresh (Nat.le_of_eq hD)
  obtain ⟨W, ⟨m0, w0⟩, turn⟩ := q D hDn
  generalize hs3 : ({ s2 with heap := s2.heap.push { cls := .type "list", data := .seq ([] : List Value).toArray } } : Shared) = s3
  have I3 : Inv X pins σ (upd H2 D (.lst [])) s3 := by
    rw [← hs3]
    refine I2.laid (t' := s2.toks) (fun b o e => Heap.get?_push_of_some _ e) (Nat.le_of_eq hD) ⟨Nat.zero_le _, [], 0, .nil, ?_⟩
    rw [← hD]
    exact Heap.get?_push_size _ rfl
  have h3 : s3.heap = s2.heap.push { cls := .type "list", data := .seq ([] : List Value).toArray } := by rw [← hs3]
  have sz : ∀ b ∈ fp, b < s2.heap.objs.size := fun b hb => by
    obtain ⟨o, e, _⟩ := T.obj _ _ st2 b hb
    exact Heap.lt_size e
  have f3 : ∀ b ∈ fp, FpOk X pins (upd H2 D (.lst [])) b ∧ b < s3.heap.objs.size := fun b hb => by
    have hlt := sz b hb
    refine ⟨⟨?_, (f2 b hb).2⟩, by rw [h3, Heap.size_push]; exact Nat.lt_succ_of_lt hlt⟩
    rw [upd_ne (by rw [← hD]; exact Nat.ne_of_lt hlt)]
    exact (f2 b hb).1
  have st3 : tn 0 s3.heap := T.keep _ _ _ st2 fun b _ o e => by rw [h3]; exact Heap.get?_push_of_some _ e
  have I4 := block_start I3 ok hN f3
  -- the handled exception is kept in the block
  obtain ⟨px, ⟨hhd, v1, ev1, cv1⟩, hpx⟩ := hot
  have P1 := I3.pin px (List.mem_append_left _ hpx)
  have hotB : HotS (X.blk s3 (upd H2 D (.lst [])) scope (compEnvC scope (cellsFrom (s3.heap.objs.size + 1) scope.names (cloFrom X.env.cells scope.names [])) s3.heap.objs.size X.env) fp) := fun pins' σ' H' s' I' => by
    refine ⟨px.1, hhd, px.2, v1, ?_, ev1, cv1⟩
    refine I'.base.keep px.1 px.2 P1.1 P1.2.1 (fun hm => ?_) fun hm => ?_
    · exact (List.mem_cons.mp (I3.stkSub px.1 hm)).elim P1.2.2.1 P1.2.2.2.1
    · exact (f3 px.1 hm).1.2.2.2.2.2 px (List.mem_append_left _ hpx) rfl
  have pg := hg s3 (upd H2 D (.lst [])) s3.heap.objs.size (cellsFrom (s3.heap.objs.size + 1) scope.names (cloFrom X.env.cells scope.names [])) fp hotB
  have pt := ht s3 (upd H2 D (.lst [])) s3.heap.objs.size (cellsFrom (s3.heap.objs.size + 1) scope.names (cloFrom X.env.cells scope.names [])) fp
  have pe := he s3 (upd H2 D (.lst [])) s3.heap.objs.size (cellsFrom (s3.heap.objs.size + 1) scope.names (cloFrom X.env.cells scope.names [])) fp
  show codeAny _ _ (.compStart (.ListComp elt [⟨tg, iter, ifs, 0⟩] scope pos) 0 (.ref it) (.ref D) (compEnvC scope (cellsFrom (s3.heap.objs.size + 1) scope.names (cloFrom X.env.cells scope.names [])) s3.heap.objs.size X.env)) (compPost (model X.prog X.w) X.A X.xe use Qf (.ref D) s3.heap.objs.size) { s3 with heap := pushCells (s3.heap.push { cls := .type "dict", data := .dict #[] }) scope.names }
  have nfp : ∀ b ∈ fp, (upd H2 D (.lst [])) b = none := fun b hb => (f3 b hb).1.1
  generalize hce : compEnvC scope (cellsFrom (s3.heap.objs.size + 1) scope.names (cloFrom X.env.cells scope.names [])) s3.heap.objs.size X.env = ce at I4 pg pt pe hotB ⊢
  have cL : ce.locals = s3.heap.objs.size := by subst hce; rfl
  generalize hH3 : upd H2 D (.lst []) = H3 at I3 I4 pg pt pe w0 nfp f3 hotB
  generalize hs4 : ({ s3 with heap := pushCells (s3.heap.push { cls := .type "dict", data := .dict #[] }) scope.names } : Shared) = s4 at I4 ⊢
  have st4 : tn 0 s4.heap := T.keep _ _ _ st3 fun b _ o e => by rw [← hs4]; exact pushCells_keeps _ _ _ _ (Heap.get?_push_of_some _ e)
  have stat : ∀ {σ' : L2.St} {H' : Hp} {s' : Shared}, Inv (X.blk s3 H3 scope ce fp) [] σ' H' s' → (∀ b ∈ fp, H' b = none) → ∀ b ∈ fp, FpOk (X.blk s3 H3 scope ce fp) [] H' b := fun {σ' H' s'} I' hn b hb =>
    ⟨hn b hb, (I'.ok.exf b hb).1, I'.ok.exfs b hb, .inl hb, fun x c e => (I'.ok.exf b hb).2 x c e, fun p hp => absurd (show p ∈ ([] : List (Addr × Obj)) ++ [] from hp) (by simp)⟩
  have loop : codeAny (model X.prog X.w) X.A (.compLoop (.ListComp elt [⟨tg, iter, ifs, 0⟩] scope pos) 0 (.ref it) (.ref D) ce) (compPost (model X.prog X.w) X.A X.xe use Qf (.ref D) s3.heap.objs.size) s4 := by
    refine compLoop_any (fun n s' => ∃ i H', Inv (X.blk s3 H3 scope ce fp) [] (wipe σ (own.map (·.2))) H' s' ∧ tn i s'.heap ∧ (∀ b ∈ fp, H' b = none) ∧ W i n H') ?_ m0 ⟨0, H3, I4, st4, nfp, w0⟩
    rintro n s5 ⟨i, H5, I5, st5, n5, w5⟩
    rcases turn i n H5 w5 with ⟨stop, qq⟩ | ⟨go, Nx, hNx, step⟩
    · have td := T.done (X.blk s3 H3 scope ce fp) rfl rfl rfl hotB i [] s5 _ H5 (fun _ _ => False) I5 (stat I5 n5) st5 stop
      refine thnF td fun r s6 ⟨hr, I6⟩ => ?_
      subst hr
      have I7 : Inv X pins σ H5 s6 := I3.call' (ch := fp) I6.os I6.base I6.hok I6.bare fun b hb => ⟨(f3 b hb).1.2.2.2.1, (f3 b hb).1.2.1, (f3 b hb).1.2.2.2.2.1, (f3 b hb).1.2.2.2.2.2⟩
      have nC : H5 s3.heap.objs.size = none := by
        have z : H5 ce.locals = none := I6.free
        rw [cL] at z
        exact z
      obtain ⟨m, hn, _⟩ := I6.loc
      have hn : s6.heap.Ns ce.locals m := hn
      rw [cL] at hn
      exact hRR D s3.heap.objs.size s6 m H5 I7 qq hn (I3.fpOk (Nat.le_refl _) nC)
    · have ti := T.item (X.blk s3 H3 scope ce fp) rfl rfl rfl hotB i [] s5 _ H5 (fun _ _ => False) I5 (stat I5 n5) st5 go
      refine thnF ti fun r s6 ⟨u, hr, h6⟩ => ?_
      subst hr
      refine thnF h6 fun _ s7 ⟨x, H7, I7, r7, y7, st7, n7⟩ => ?_
      have I7' := I7.pinned (stat I7 n7) (T.obj _ _ st7)
      refine thnF (pg.run _ s7 _ H7 x u _ I7' r7 (step x H7 y7)) fun _ s8 ⟨σ8, H8, I8, hw8, q8⟩ => ?_
      refine thnF (pt.run _ s8 σ8 H8 _ I8 q8) fun b s9 ⟨H9, I9, q9⟩ => ?_
      have fin : ∀ {s' : Shared} {H' : Hp}, Inv (X.blk s3 H3 scope ce fp) ([] ++ pinsAt fp s7.heap) σ8 H' s' → Nx H' → ∃ m, m < n ∧ ∃ i H', Inv (X.blk s3 H3 scope ce fp) [] (wipe σ (own.map (·.2))) H' s' ∧ tn i s'.heap ∧ (∀ b ∈ fp, H' b = none) ∧ W i m H' := fun {s' H'} I' nx => by
        obtain ⟨m', hm, w'⟩ := hNx H' nx
        have pin' : ∀ b ∈ fp, ∀ o, s7.heap.get? b = some o → s'.heap.get? b = some o ∧ H' b = none := fun b hb o e =>
          let z := I'.pin (b, o) (List.mem_append_right _ (List.mem_append_right _ (mem_pinsAt hb e)))
          ⟨z.1, z.2.1⟩
        have hl : (wipe σ (own.map (·.2))).length = σ8.length := by rw [← hw8, wipe_length]
        refine ⟨m', hm, i + 1, H', (I'.unpinned (pins := [])).weak hl (fun j v e => ?_), T.keep _ _ _ st7 fun b hb o e => (pin' b hb o e).1, fun b hb => ?_, w'⟩
        · rw [← hw8] at e
          exact (wipe_some e).1
        · obtain ⟨o, e, _⟩ := T.obj _ _ st7 b hb
          exact (pin' b hb o e).2
      cases b with
      | false =>
        simp only [Bool.false_eq_true, if_false] at q9 ⊢
        exact fin I9 q9
      | true =>
        simp only [if_true] at q9 ⊢
        refine thnF (pe.run _ s9 σ8 H9 _ I9 q9) fun z s10 ⟨yv, H10, I10, r10, acc, hD10, hz10, nx⟩ => ?_
        exact app_ok (X := X.blk s3 H3 scope ce fp) I10 hD10 hz10 r10 fun s11 I11 => fin I11 nx
  exact codeAny_compStart_list loop (T.self X.A 0 _ _ _ st4 loop)
theorem pe_lcS {elt tg iter : Expr} {ifs : List Expr} {scope : Scope} {own : List (Str × Nat)} {pos : Pos} {wi : TI} {g : TG} {tt : TT} {te : TE}
    (hot : L2H.HotC X) (hN : X.N.Nodup) (hi : PIS X tg iter wi) (ok : BlkOk X.N X.env.scope scope own)
    (hg : ∀ (s : Shared) (H : Hp) (C : Addr) (cl : List (Str × Addr)) (fp : List Addr), HotS (X.blk s H scope (compEnvC scope cl C X.env) fp) → PG (X.blk s H scope (compEnvC scope cl C X.env) fp) tg g) (ht : ∀ (s : Shared) (H : Hp) (C : Addr) (cl : List (Str × Addr)) (fp : List Addr), PTs (X.blk s H scope (compEnvC scope cl C X.env) fp) ifs tt)
    (he : ∀ (s : Shared) (H : Hp) (C : Addr) (cl : List (Str × Addr)) (fp : List Addr), PE (X.blk s H scope (compEnvC scope cl C X.env) fp) elt te) (hs : ∀ x, foldedSetIterable iter X.env x = pure x := by intro _; rfl) :
    PE X (.ListComp elt [⟨tg, iter, ifs, 0⟩] scope pos) (tLc wi g tt te (own.map (·.2))) := by
  refine ⟨fun pins s σ H Q I h => ?_⟩
  rw [eval_ListComp]
  refine lc_coreS hot hN I hi ok hg ht he hs h fun D C s' m H' I' q hn f => ⟨m, hn, fun h'' sb => ?_⟩
  obtain ⟨f0, f1, f2, f3, f4, f5⟩ := f
  exact ⟨.ref D, H', I'.turned (t' := s'.toks) (fun b o hb e => (sb.2 b hb).trans e) f0 f1 f3 f4 f5, rfl, q⟩
theorem ps_setLcS {i : Nat} {y : Str} {py : Pos} {elt tg iter : Expr} {ifs : List Expr} {scope : Scope} {own : List (Str × Nat)} {pos spos : Pos} {wi : TI} {g : TG} {tt : TT} {te : TE} (hot : L2H.HotC X) (hN : X.N.Nodup) (hy : X.N[i]? = some y) (hyl : X.env.scope.names.lookup y = some .local)
    (hsw : swapsWith (.ListComp elt [⟨tg, iter, ifs, 0⟩] scope pos) (some (.Name y py)) spos.line X.env = pure true) (hi : PIS X tg iter wi) (ok : BlkOk X.N X.env.scope scope own)
    (hg : ∀ (s : Shared) (H : Hp) (C : Addr) (cl : List (Str × Addr)) (fp : List Addr), HotS (X.blk s H scope (compEnvC scope cl C X.env) fp) → PG (X.blk s H scope (compEnvC scope cl C X.env) fp) tg g) (ht : ∀ (s : Shared) (H : Hp) (C : Addr) (cl : List (Str × Addr)) (fp : List Addr), PTs (X.blk s H scope (compEnvC scope cl C X.env) fp) ifs tt)
    (he : ∀ (s : Shared) (H : Hp) (C : Addr) (cl : List (Str × Addr)) (fp : List Addr), PE (X.blk s H scope (compEnvC scope cl C X.env) fp) elt te) (hs : ∀ x, foldedSetIterable iter X.env x = pure x := by intro _; rfl) :
    PS X (.Assign [.Name y py] (.ListComp elt [⟨tg, iter, ifs, 0⟩] scope pos) spos) (tAsg (tLc wi g tt te (own.map (·.2))) (gName i)) := by
  refine ⟨fun pins s σ H D I h => ?_⟩
  rw [exec_Assign_Name_used _ _ _ _ hsw]
  refine wpAny_bind (wpAny_standAt (wpAny_bind ?_))
  show wpAny _ X.A (do let _ ← comprehension (.ListComp elt [⟨tg, iter, ifs, 0⟩] scope pos) scope X.env (firstIterPos [⟨tg, iter, ifs, 0⟩] pos) (newList []) false (eval iter X.env) (some (assign (.Name y py) X.env))) _ _ s
  have h : tLc wi g tt te (own.map (·.2)) σ H (fun x H1 => gName i x σ H1 D.nx) := h
  refine wpAny_bind (thn (lc_coreS (Qf := fun _ s' => SP X pins D .next s') hot hN I hi ok hg ht he hs h fun L C s' m H' I' q hn f => ?_) fun _ s' hq => wpAny_pure (wpAny_pure hq))
  show wpAny _ _ (assign (.Name y py) X.env (.ref L)) _ _ _
  refine wpAny_assign_Name (store_ok2 (v := V.ref L) I' hN hy (.inl hyl) rfl (fun s2 I2 ⟨a, sb, ha⟩ => ?_) (.inr hyl))
  obtain ⟨f0, f1, f2, f3, f4, f5⟩ := f
  have haC : C ≠ a := by
    rcases ha with z | z
    · rw [z]; exact f1
    · exact fun e => f4 y a z e.symm
  refine ⟨m, hn.sameBut sb haC, fun h3 sb3 => ?_⟩
  exact ⟨_, H', I2.turned (t' := s2.toks) (fun b o hb e => (sb3.2 b hb).trans e) f0 f1 f3 f4 f5, q⟩
end
end Den

namespace Den
open PySem L2 Evl PySem.Spec PyProof.Rows HotX
open Classical
section
variable {K : PySem.W.Frag} {W : WX} {X : Cx} {θ : Addr → Prop} {π α : Nat → Option Addr} {σ σ2 : L2.St} {H H1 : Hp} {ρ : En} {p : Addr} {o : HO} {n : Nat}

theorem diLS {tg e : Expr} {w : WE} (h : PIS X tg e (iList K (cE K W w))) : PIS X tg e (cI K W (wiL w)) := piSI h fun σ H Q ⟨θ, π, α, ρ, R, E, hR, hw, hq, he⟩ =>
  ⟨θ, π, α, ρ, _, E, hR, hw, fun α1 v H1 d ρ1 R1 s1 p1 w1 => by
    obtain ⟨ds, rfl, w1⟩ := w1
    cases p1 with
    | lst h1 hs => exact ⟨_, rfl, ⟨_, ex_l hidS_ex h1⟩, hq α1 _ H1 ds ρ1 R1 s1 (walks_list h1 hs) w1⟩, he⟩

/-! isinstance of the exception that is handled -/
theorem call_isP {a D : Addr} {oe : Obj} (C : ExcC X.K D) (hp : (a, oe) ∈ X.pn) (hz : Zc (.ref D) none oe) (hf : ∃ vs, oe.data = .fields vs) : CallR X (.builtin "isinstance") (rIsE X.K D a) := by
  intro pins s σ H xs us Q I r h
  obtain ⟨c, cv, b, rfl, hcv, e, q⟩ := h
  cases r with
  | cons rx rr =>
    cases rr with
    | cons rt rr =>
      cases rr
      cases rx
      have ec := hcv _ rt
      subst ec
      obtain ⟨hget, _⟩ := I.pin (a, oe) (List.mem_append.mpr (.inl hp))
      obtain ⟨vs, hv⟩ := hf
      have J : PySem.W.InstAt s.heap a oe D none := by
        obtain ⟨oc, od, oda, osl⟩ := oe
        obtain ⟨h1, h2⟩ := hz
        dsimp only at h1 h2 hv
        subst h1 h2 hv
        exact ⟨hget, rfl, rfl, trivial⟩
      exact PySem.W.kia_one (PySem.W.handS_kitx_exc C.hg C.hk C.hs C.hd C.ha C.hn C.ht C.hm) I.kIn J e (fun z => nomatch z) fun tk => ⟨.bl b, H, I.kept (t' := tk) fun _ _ z => z, rfl, q⟩
def wIsX (i : Nat) (a : Addr) (b : Bool) : WE := fun ρ R E => ρ[i]? = some (.ex a) ∧ R (.bool b) ρ
theorem dIsX {e : Expr} {i : Nat} {a D : Addr} {b : Bool} {c : V} {cv : Value} (h : PE X e (tCB (rIsE X.K D a) (tCons (tVar i) (tCons (tC c) tNil)))) (hc : ∀ u, RelV c u → u = cv) (hk : PySem.W.kitOne X.K (.ref D) cv = some b) : PE X e (cE X.K W (wIsX i a b)) :=
  peI h fun σ H Q ⟨θ, π, α, ρ, R, E, hR, hw, hq, he⟩ =>
    ⟨.ref a, hR.sl i _ hw.1, c, cv, b, rfl, hc, hk, hq α _ H _ ρ hR (Stp.refl ..) (.bl b) hw.2⟩

/-! the def that tells an exception's name -/
structure FnT (P : Program) (w : World) (K : PySem.W.Frag) (mg : Str → Option Value) (base : Heap) (k : Nat) (f : Addr) (fd : FuncData) (ps : List Str) (c : Addr) (t : Str) : Prop where
  run : ∀ (A : Around) (outer : List Env) (s : Shared) (H : Hp) (args : Args) (p : Addr × Obj) (Q : VK), L2H.RoomH k A → L2H.Hot1 A p → L2H.PinOk outer H s p → Env0 P w K mg base A outer s H → L2N.Zn (.ref c) none p.2 →
    BindsTo s fd args (ps.zip [.ref p.1]) → (∀ H', Ex H H' → Q (.str t) H') → codeAny (model P w) A (.call (.ref f) args) (CR CX0 outer P w H s Q E0) s
/-- the context of its body -/
abbrev cxT (P : Program) (w : World) (K : PySem.W.Frag) (mg : Str → Option Value) (base : Heap) (N : List Str) (qual : Str) (scope : Scope) (f : Addr) (cd : Value) (A : Around) (outer : List Env) (s : Shared) (H : Hp) (p : Addr × Obj) : Cx := L2H.cxH CX0 P w K mg base N qual scope f cd A outer s H E0 p
theorem fnT {P : Program} {w : World} {mg : Str → Option Value} {base : Heap} {k : Nat} {x qual y : Str} {st : Stmt} {f c : Addr} {fd : FuncData} {N : List Str} {t : Str} {wb : Addr → WS} (F : Fun K x qual st f fd) (S : FnScope (y :: N) [y] (defScope st))
    (hb : ∀ (cdv : Value) (A : Around) (outer : List Env) (s : Shared) (H : Hp) (p : Addr × Obj), L2H.Hot1 A p → L2H.RoomH k (A.deeper (envOfC qual (defScope st) s.heap.objs.size f cdv)) → L2N.Zn (.ref c) none p.2 →
      PSs (cxT P w K mg base (y :: N) qual (defScope st) f cdv A outer s H p) (defBody st) (cS K WNo (wb p.1)))
    (hw : ∀ a, wb a { nx := fun _ => False, rt := fun d _ => d = .str t } (.ex a :: N.map fun _ => .no)) : FnT P w K mg base (k + 1) f fd [y] c t := by
  obtain ⟨oc, od, kV, doc, pm, an, cdv, ct, osl, rfl, lk, hcd⟩ := F.ex
  refine ⟨fun A outer s H args p Q hr hot hpin e0 hz hbt hQ => ?_⟩
  have KX : K.In s.heap := e0.mod.kin.keeps fun b o e => (e0.bs b o e).1
  have lim : s.heap.NoLimit := e0.mod.nolimit.keeps fun b o e => (e0.bs b o e).1
  have r : Vals [V.ref p.1] [Value.ref p.1] := .cons rfl .nil
  have hkind : ∀ z ∈ [y].zip [Value.ref p.1], (defScope st).names.lookup z.1 = some .local ∨ ((defScope st).names.lookup z.1 = some .cell ∧ ((cellsFrom (s.heap.objs.size + 1) (defScope st).names []).lookup z.1).isSome = true) := fun ⟨n, v⟩ hy => by
    rcases S.par n (List.of_mem_zip hy).1 with q | q
    · exact .inl q
    · exact .inr ⟨q, PySem.W.cellsFrom_some _ _ _ (.inl q)⟩
  refine codeAny_call_function hr.depth (KX _ _ lk) rfl S.co S.gen rfl (PySem.W.codeRec_of KX hcd) (hbt _ _ _ _ ?_)
  refine wpAny_newFunctionEnv_cells S.kind hkind fun env he s1 x => ?_
  subst he
  refine ⟨lim.keeps x.toInCall.keep, codeAny_func ?_⟩
  have ht := hb cdv A outer s H p hot (hr.deeper _) hz
  have I : Inv (cxT P w K mg base (y :: N) qual (defScope st) f cdv A outer s H p) [] (L2.start (y :: N) [.ref p.1]) H s1 := L2H.inv_startH S hpin e0 rfl r x
  have hRel : Rel K (fun _ => False) (fun _ => none) (fun _ => none) (L2.start (y :: N) [.ref p.1]) H (.ex p.1 :: N.map fun _ => .no) := by
    refine Rel.mk (by simp [L2.start]) (fun _ _ _ h => nomatch h) (fun _ _ h => nomatch h) (fun _ h => False.elim h) (fun _ _ h => nomatch h) (fun _ _ h => nomatch h) (fun i s q => ?_)
    cases i with
    | zero =>
      have e : Sl.ex p.1 = s := Option.some.inj q
      subst e
      rfl
    | succ i =>
      have q : (N.map fun _ => Sl.no)[i]? = some s := q
      rw [List.getElem?_map] at q
      cases z : N[i]? with
      | none => rw [z] at q; cases q
      | some y => rw [z] at q; cases q; trivial
  refine wpAny_mono (ht.run [] s1 (L2.start (y :: N) [.ref p.1]) H { nx := fun _ _ => False, rt := Q } I ⟨_, _, _, _, _, hRel, hw p.1, ⟨fun _ _ _ _ _ _ h => h.elim, fun _ _ _ _ _ _ h => h.elim, fun _ _ _ _ _ _ h => h.elim, fun α' σ' H' v d ρ' r' s' dp h => ?_, fun _ _ _ _ _ _ _ _ _ _ _ _ h => h.elim, fun _ _ _ _ _ _ _ h => h.elim⟩⟩) (fun fl s' hs => ?_) fun e s' hs => hs
  · subst h
    cases dp
    refine hQ H' fun b o e => ?_
    have z := s'.1 b o (by rw [hidS_in (fun z => by rcases z with z | ⟨_, z⟩; exact z; cases z)]; exact e)
    exact hidS_ex b o z
  have fin : ∀ {σ' : L2.St} {H' : Hp} {v : V} {u : Value}, Inv (cxT P w K mg base (y :: N) qual (defScope st) f cdv A outer s H p) [] σ' H' s' → RelV v u → Q v H' → CE outer P w H s Q u s' :=
    fun {σ' H' v u} J rv q => ⟨v, H', J.os, J.bare, J.base, J.hok, rv, q⟩
  cases fl with
  | ret u =>
    obtain ⟨v, σ', H', J, rv, q⟩ := hs
    exact fin J rv q
  | next => obtain ⟨_, _, _, q⟩ := hs; exact False.elim q
  | brk => obtain ⟨_, _, _, q⟩ := hs; exact False.elim q
  | cont => obtain ⟨_, _, _, q⟩ := hs; exact False.elim q
def wTold (i : Nat) (a : Addr) (t : Str) : WE := fun ρ R E => ρ[i]? = some (.ex a) ∧ R (.str t) ρ
theorem dTold {k i : Nat} {f a c : Addr} {fd : FuncData} {y : Str} {t : Str} {oe : Obj} {x z : Str} {q q2 pos : Pos} (F : FnT X.prog X.w X.K X.mg X.base k f fd [y] c t) (hr : L2H.RoomH k X.A) (hp : (a, oe) ∈ X.pn) (hh : X.A.handled = some (.ref a)) (hz : L2N.Zn (.ref c) none oe) (hf : ∃ vs, oe.data = .fields vs)
    (hg : Gl X x) (hm : X.mg x = some (.ref f)) (hk : PySem.W.keepIn X.K (.ref f) = true) (hb : Binds X.K fd [y] []) (hv : PE X (.Name z q2) (tVar i)) (hdb : (x == ("__debug__" : Str)) = false := by decide) (he : starEach [.Name z q2] X.env = [(false, eval (.Name z q2) X.env)] := by rfl) :
    PE X (.Call (.Name x q) [.Name z q2] [] pos) (cE X.K W (wTold i a t)) := by
  refine ⟨fun pins s σ H Q I h => ?_⟩
  obtain ⟨θ, π, α, ρ, R, E, hR, ⟨hw1, hw2⟩, hq, hex⟩ := h
  refine wpAny_Call_Name_kw (ld_glob I hg hm ?_ hdb)
  have ha : PA X [.Name z q2] (tCons (tVar i) tNil) := pa_cons hv pa_nil
  refine PySem.W.callWith_K (h₀ := X.base) I.ok.mod.kin hk (thn (ha.run pos pins s σ H (fun vs H' => vs = [.ref a] ∧ H' = H) I ⟨.ref a, hR.sl i _ hw1, rfl, rfl⟩) fun us s1 ⟨vs, H1, I1, r, e1, e2⟩ => ⟨I1.kIn, ?_⟩) he rfl
  subst e1 e2
  have eu : us = [.ref a] := by
    cases r with
    | cons rx rr => cases rr; cases rx; rfl
  subst eu
  have P1 := I1.pin (a, oe) (List.mem_append_left _ hp)
  obtain ⟨fv, hfv⟩ := hf
  have hot : L2H.Hot1 X.A (a, oe) := ⟨hh, fv, hfv, hz.2.2 fv hfv⟩
  have hpin : L2H.PinOk X.stack H1 s1 (a, oe) := ⟨P1.1, P1.2.1, fun hm => (List.mem_cons.mp (I1.stkSub a hm)).elim P1.2.2.1 P1.2.2.2.1, P1.2.2.2.2⟩
  have b := hb s1 [.ref a] I1.kIn rfl
  refine wpAny_call (codeAny_mono (F.run X.A X.stack s1 H1 ⟨[.ref a], []⟩ (a, oe) Q hr hot hpin I1.env0 hz b fun H' ex => hq α _ H' _ ρ (hR.ext ex) (hR.stp ex) (.str t) hw2) fun r s' hq => ?_)
  cases r with
  | error e => exact hq.elim
  | ok fl =>
    cases fl with
    | ret u => exact I1.after hq
    | next => exact False.elim hq
    | brk => exact False.elim hq
    | cont => exact False.elim hq

/-! a suite by the exception's class -/
def wSuite (nm : Addr → Option Str) (w : Addr → Str → WS) : Addr → Addr → WS := fun a c B ρ => ∃ t, nm c = some t ∧ w a t B ρ
theorem suite_by {st : List Stmt} {a : Addr} {oe : Obj} {cls : Value} {d : Option Addr} {nm : Addr → Option Str} {w : Addr → Str → WS} (hz : L2N.Zn cls d oe)
    (h : ∀ c t, nm c = some t → L2N.Zn (.ref c) none oe → PSs X st (cS K WNo (w a t))) : PSs X st (fun D σ H => ∃ c, cls = .ref c ∧ d = none ∧ cS K WNo (wSuite nm w a c) D σ H) := by
  refine ⟨fun pins s σ H D I q => ?_⟩
  obtain ⟨c, rfl, rfl, θ, π, α, ρ, B, hR, ⟨t, ht, hw⟩, hf⟩ := q
  exact (h c t ht hz).run pins s σ H D I ⟨θ, π, α, ρ, B, hR, hw, hf⟩
def catOf (nm : Addr → Option Str) : Addr → Option Bool := fun c => (nm c).map fun _ => true
theorem dTryAs {x n : Str} {cv : Value} {i : Nat} {body suite : List Stmt} {b₀ : Stmt} {np pos pos' : Pos} {cat : Addr → Option Bool} {wb : WS} {ws : Addr → Addr → WS} (hcat : ∀ c b, cat c = some b → PySem.W.exmOne X.K (.ref c) cv = some b)
    (h1 : X.stack = X.env :: X.outer) (h2 : X.env.frame = some X.env.locals) (nd : X.N.Nodup) (hn : X.N[i]? = some n) (hk : X.env.kindOf n = some .local) (hx : Names X x cv) (tk : L2N.Takes X W)
    (hb : ∀ (W2 : WX) pn xe, L2N.Takes (X.tr pn xe) W2 → PassesOwn (model X.prog X.w) X.A X.env xe → PSs (X.tr pn xe) body (cS X.K W2 wb))
    (hs : ∀ a oe cls d pn, L2N.Zn cls d oe → (∃ vs, oe.data = .fields vs) → PSs (X.suite a ((a, oe) :: pn)) (b₀ :: suite) (fun D σ H => ∃ c, cls = .ref c ∧ d = none ∧ cS X.K WNo (ws a c) D σ H)) :
    PS X (.Try body [.ExceptHandler (some (.Name x np)) (some n) (b₀ :: suite) pos'] [] [] pos) (cS X.K W (wTry cat i wb ws)) :=
  dTry hcat (L2N.ps_try_as (tb := fun W' => cS X.K W' wb) (ts := fun a cls d => fun D σ H => ∃ c, cls = .ref c ∧ d = none ∧ cS X.K WNo (ws a c) D σ H) h1 h2 nd hn hk hx tk hb hs)
theorem markH {j k : Nat} {A : Around} {v : Option Value} (h : Room k A) (hj : j ≤ k) : L2H.RoomH j (A.mark v) := ⟨(L2H.roomH_of (h.mono hj)).dp, (L2H.roomH_of (h.mono hj)).un⟩
end
end Den

namespace Den
open PySem L2 Evl PySem.Spec PyProof.Rows
open Classical
section
variable {K : PySem.W.Frag} {W : WX} {X : Cx} {θ : Addr → Prop} {π α : Nat → Option Addr} {σ σ2 : L2.St} {H H1 : Hp} {ρ : En} {p : Addr} {o : HO} {n : Nat}
theorem dGi {x : Str} {pos : Pos} {i : Int} (hg : Gl X x) (hm : ∃ t, X.mg x = some (.int i t)) (hd : (x == ("__debug__" : Str)) = false := by decide) : PE X (.Name x pos) (cE K W (wC (.int i))) := by
  obtain ⟨t, hm⟩ := hm
  exact dC (pe_glob (v := .int i) hg hm ⟨_, rfl⟩ hd) fun _ => .int _
theorem dGs {x : Str} {pos : Pos} {i : Str} (hg : Gl X x) (hm : ∃ t, X.mg x = some (.str i t)) (hd : (x == ("__debug__" : Str)) = false := by decide) : PE X (.Name x pos) (cE K W (wC (.str i))) := by
  obtain ⟨t, hm⟩ := hm
  exact dC (pe_glob (v := .str i) hg hm ⟨_, rfl⟩ hd) fun _ => .str _
theorem dI {i : Int} {j : Nat} {pos : Pos} : PE X (.Constant (.int i) j pos) (cE K W (wC (.int i))) := dC pe_int fun _ => .int _
theorem dB {i : Bool} {j : Nat} {pos : Pos} : PE X (.Constant (.bool i) j pos) (cE K W (wC (.bool i))) := dC pe_bl fun _ => .bl _
theorem dZ {j : Nat} {pos : Pos} : PE X (.Constant .none j pos) (cE K W (wC .none)) := dC pe_non fun _ => .non
theorem dX {x : Str} {j : Nat} {pos : Pos} : PE X (.Constant (.str x) j pos) (cE K W (wC (.str x))) := dC pe_str fun _ => .str _
theorem can_fe {w : WA} (σ : L2.St) (H : Hp) (Q : VK) (h : cE K W (wFE w) σ H Q) : cF K W w σ H Q := by
  obtain ⟨θ, π, α, ρ, R, E, hR, hw, hq, he⟩ := h
  refine ⟨θ, π, α, ρ, _, E, hR, hw, fun α1 p vs H1 ds ρ1 R1 s1 np h1 p1 w1 => ?_, he⟩
  obtain ⟨R2, hx⟩ := R1.unhide (vs := vs) np
  have hnp : ¬ Sof θ α1 p := fun z => by
    rcases z with z | ⟨i, z⟩
    · exact np z
    · exact R1.ap i p z (.inr rfl)
  exact hq α1 (.ref p) H1 _ ρ1 R2 ⟨s1.1.trans hx, s1.2⟩ (.lst (.inl (.inl (by rw [hidS_in hnp]; exact h1))) (dpA_mono hx p1)) w1
section
variable {vs : List Nat} {wi : WI} {wg : WG} {wt : WT} {we : WE} {s : Stmt} {g : TG} {e : Expr}
theorem dLcF (h : PE X e (tLc (cI K W wi) (cGv K W vs wg) (cT K W wt) (cE K W we) vs)) : PE X e (cF K W (wLc vs wi wg wt we)) := peI h can_lc
theorem dLcSF (h : PS X s (tAsg (tLc (cI K W wi) (cGv K W vs wg) (cT K W wt) (cE K W we) vs) g)) : PS X s (tAsg (cF K W (wLc vs wi wg wt we)) g) := psI h fun D σ H q => can_lc σ H _ q
theorem dLcSE (h : PS X s (tAsg (tLc (cI K W wi) (cGv K W vs wg) (cT K W wt) (cE K W we) vs) g)) : PS X s (tAsg (cE K W (wFE (wLc vs wi wg wt we))) g) := psI (dLcSF h) fun D σ H q => can_fe σ H _ q
end
/-- over a list, a tuple -/
def iLT (K : PySem.W.Frag) (tl : TE) : TI := fun σ H R => tl σ H fun x H1 => ∃ a, x = .ref a ∧ (((∃ xs, SqL K H1 a xs) ∧ R (Itl K a) H1) ∨ ((∃ xs, SqT K H1 a xs) ∧ R (Itt K a) H1))
theorem pi_lt {tg l : Expr} {tl : TE} (hl : PE X l tl) : PI X tg l (iLT X.K tl) := by
  refine ⟨fun pins s σ H R I h => ?_⟩
  refine thn (hl.run pins s σ H _ I h) fun v s1 ⟨x, H1, I1, r1, q1⟩ => ?_
  obtain ⟨a, e, q1⟩ := q1
  subst e
  cases r1
  rcases q1 with ⟨⟨xs, hq⟩, q⟩ | ⟨⟨xs, hq⟩, q⟩
  · obtain ⟨its, rv, p, hz⟩ := I1.list hq
    refine wpAny_pyIter_list p.isList ?_
    refine ⟨s1.heap.objs.size, [s1.heap.objs.size], _, _, H1, rfl, I1.kept (t' := s1.toks) fun b o e => Heap.get?_push_of_some _ e, turn_list a _, ⟨_, Heap.get?_push_size _ rfl, rfl, rfl⟩, fun b hb => ?_, q⟩
    have e : b = s1.heap.objs.size := by simpa using hb
    subst e
    exact I1.fpOk (Nat.le_refl _) (I1.hok.fresh (Nat.le_refl _))
  · obtain ⟨its, rv, p, hz⟩ := I1.tuple hq
    refine wpAny_pyIter_tuple (show s1.heap.IsTuple a its.toArray from p) ?_
    refine ⟨s1.heap.objs.size, [s1.heap.objs.size], _, _, H1, rfl, I1.kept (t' := s1.toks) fun b o e => Heap.get?_push_of_some _ e, turn_tuple a _, ⟨_, Heap.get?_push_size _ rfl, rfl, rfl⟩, fun b hb => ?_, q⟩
    have e : b = s1.heap.objs.size := by simpa using hb
    subst e
    exact I1.fpOk (Nat.le_refl _) (I1.hok.fresh (Nat.le_refl _))
def wiA (w : WE) : WI := fun ρ R E => w ρ (fun d ρ' => match d with
  | .list ds => R ds ρ'
  | .tuple ds => R ds ρ'
  | _ => False) E
theorem diA {tg e : Expr} {w : WE} (h : PI X tg e (iLT K (cE K W w))) : PI X tg e (cI K W (wiA w)) := piI h fun σ H Q ⟨θ, π, α, ρ, R, E, hR, hw, hq, he⟩ =>
  ⟨θ, π, α, ρ, _, E, hR, hw, fun α1 v H1 d ρ1 R1 s1 p1 w1 => by
    split at w1
    · cases p1 with
      | lst h1 hs => exact ⟨_, rfl, .inl ⟨⟨_, ex_l hidS_ex h1⟩, hq α1 _ H1 _ ρ1 R1 s1 (walks_list h1 hs) w1⟩⟩
    · cases p1 with
      | tup h1 hs => exact ⟨_, rfl, .inr ⟨⟨_, ex_t hidS_ex h1⟩, hq α1 _ H1 _ ρ1 R1 s1 (walks_tup h1 hs) w1⟩⟩
    · exact w1.elim, he⟩
end
end Den

namespace Den
open PySem L2 Evl PySem.Spec PyProof.Rows
open Classical
theorem kit_int : kitB "NoneType" "int" = some false ∧ kitB "bool" "int" = some (("int" : String) == "bool" || ("int" : String) == "int") ∧ kitB "int" "int" = some (("int" : String) == "int") ∧ kitB "str" "int" = some (("int" : String) == "str") ∧ kitB "list" "int" = some (("int" : String) == "list") ∧ kitB "tuple" "int" = some (("int" : String) == "tuple") := by decide +kernel
theorem kit_bool : kitB "NoneType" "bool" = some false ∧ kitB "bool" "bool" = some (("bool" : String) == "bool" || ("bool" : String) == "int") ∧ kitB "int" "bool" = some (("bool" : String) == "int") ∧ kitB "str" "bool" = some (("bool" : String) == "str") ∧ kitB "list" "bool" = some (("bool" : String) == "list") ∧ kitB "tuple" "bool" = some (("bool" : String) == "tuple") := by decide +kernel
theorem kit_str : kitB "NoneType" "str" = some false ∧ kitB "bool" "str" = some (("str" : String) == "bool" || ("str" : String) == "int") ∧ kitB "int" "str" = some (("str" : String) == "int") ∧ kitB "str" "str" = some (("str" : String) == "str") ∧ kitB "list" "str" = some (("str" : String) == "list") ∧ kitB "tuple" "str" = some (("str" : String) == "tuple") := by decide +kernel
theorem kit_list : kitB "NoneType" "list" = some false ∧ kitB "bool" "list" = some (("list" : String) == "bool" || ("list" : String) == "int") ∧ kitB "int" "list" = some (("list" : String) == "int") ∧ kitB "str" "list" = some (("list" : String) == "str") ∧ kitB "list" "list" = some (("list" : String) == "list") ∧ kitB "tuple" "list" = some (("list" : String) == "tuple") := by decide +kernel
theorem kit_tuple : kitB "NoneType" "tuple" = some false ∧ kitB "bool" "tuple" = some (("tuple" : String) == "bool" || ("tuple" : String) == "int") ∧ kitB "int" "tuple" = some (("tuple" : String) == "int") ∧ kitB "str" "tuple" = some (("tuple" : String) == "str") ∧ kitB "list" "tuple" = some (("tuple" : String) == "list") ∧ kitB "tuple" "tuple" = some (("tuple" : String) == "tuple") := by decide +kernel
/-- the law: any ints, at most 63, and it gives True -/
def SLaw : WF := fun ps R _ => ∃ ns : List Int, ns.length ≤ 63 ∧ ps = [.va (.list (ns.map PyData.int))] ∧ R (.bool true) [.no]
def spLaw (K : PySem.W.Frag) : Sp := fun vs H Q _ => ∃ (a : Addr) (ns : List Int), vs = [.ref a] ∧ SqL K H a (ns.map V.int) ∧ ns.length ≤ 63 ∧ ∀ H', Q (.bl true) H'
theorem spLaw_imp {K : PySem.W.Frag} {vs : List V} {H : Hp} {Q : VK} {E : XK} (h : spLaw K vs H Q E) : toSp K 1 SLaw vs H Q E := by
  obtain ⟨a, ns, rfl, hs, hl, k⟩ := h
  have e : hidS (Sof (fun _ => False) fun _ => none) H = H := funext fun b => hidS_in (fun z => by rcases z with z | ⟨_, z⟩; exact z; cases z)
  refine ⟨fun _ => False, fun _ => none, [.va (.list (ns.map PyData.int))], fun d _ => d = .bool true, NoE, rfl, Rel.mk rfl (fun _ _ _ h => nomatch h) (fun _ _ h => nomatch h) (fun _ h => False.elim h) (fun _ _ h => nomatch h) (fun _ _ h => nomatch h) (fun i s q => ?_), ⟨ns, hl, rfl, rfl⟩, fun v H' d os _ _ _ dp hd => ?_, fun _ _ _ _ _ _ z => z.elim⟩
  · cases i with
    | zero =>
      have q : Sl.va (.list (ns.map PyData.int)) = s := Option.some.inj q
      subst q
      exact ⟨.ref a, rfl, by rw [e]; exact .lst hs (dpA_ints ns)⟩
    | succ i => simp at q
  · subst hd
    cases dp
    exact k H'
end Den

namespace Den
open PySem L2 Evl PySem.Spec PyProof.Rows
section
variable {nx : En → Prop} {rt : D → En → Prop} {rf : List D → En → Prop} {bk ct : En → Prop} {rs : Addr → En → Prop} {B : Bx} {ρ ρ' : En} {R : RC} {E : EC} {T : Bool → En → Prop} {A : List D → En → Prop} {M : List Ar → En → Prop} {i j : Nat} {d e : D} {w wa wb wc : WE} {ws wz : WS} {ls la lb lc : WL} {wt ta tb : WT} {ar : WA} {wm : WM} {wi : WI} {wg : WG} {P Q : Prop} {k : D → Prop}
theorem s_next (h : nx ρ) : wNext ⟨nx, rt, rf, bk, ct, rs⟩ ρ := h
theorem s_seq (h : ws ⟨wz ⟨nx, rt, rf, bk, ct, rs⟩, rt, rf, bk, ct, rs⟩ ρ) : wSeq ws wz ⟨nx, rt, rf, bk, ct, rs⟩ ρ := h
theorem s_set (h : w ρ (fun d ρ' => asgV i (.va d) ρ' nx) rs) : wSet i w ⟨nx, rt, rf, bk, ct, rs⟩ ρ := h
theorem s_setO (h : ar ρ (fun d ρ' => asgV i (.ow d) ρ' nx) rs) : wSetO i ar ⟨nx, rt, rf, bk, ct, rs⟩ ρ := h
theorem s_asgn (h : w ρ (fun d ρ' => wg d ρ' nx rs) rs) : wAsg w wg ⟨nx, rt, rf, bk, ct, rs⟩ ρ := h
theorem s_ret (h : w ρ rt rs) : wRet w ⟨nx, rt, rf, bk, ct, rs⟩ ρ := h
theorem s_retN (h : rt .none ρ) : wRetN ⟨nx, rt, rf, bk, ct, rs⟩ ρ := h
theorem s_retF (h : ar ρ rf rs) : wRetF ar ⟨nx, rt, rf, bk, ct, rs⟩ ρ := h
theorem s_drop (h : w ρ (fun _ ρ' => nx ρ') rs) : wDrop w ⟨nx, rt, rf, bk, ct, rs⟩ ρ := h
theorem s_ifs (h : wt ρ (fun c ρ' => if c = true then ws ⟨nx, rt, rf, bk, ct, rs⟩ ρ' else wz ⟨nx, rt, rf, bk, ct, rs⟩ ρ') rs) : wIfS wt ws wz ⟨nx, rt, rf, bk, ct, rs⟩ ρ := h
theorem s_break (h : bk ρ) : wBreak ⟨nx, rt, rf, bk, ct, rs⟩ ρ := h
theorem s_cont (h : ct ρ) : wCont ⟨nx, rt, rf, bk, ct, rs⟩ ρ := h
theorem s_raise {c : Addr} (h : rs c ρ) : wRaise c ⟨nx, rt, rf, bk, ct, rs⟩ ρ := h
/-- ρ at i is not a lent list -/
def nio : Option Sl → Bool
  | some (.io _) => false
  | none => false
  | _ => true
theorem s_asg {s : Sl} (ρ' : En) (h1 : nio ρ[i]? = true) (e : ρ.set i s = ρ') (h : nx ρ') : asgV i s ρ nx := by
  unfold asgV
  rw [← e] at h
  cases q : ρ[i]? with
  | none => rw [q] at h1; cases h1
  | some x =>
    cases x with
    | io ds => rw [q] at h1; cases h1
    | no => exact h
    | va d => exact h
    | ow ds => exact h
    | ex a => exact h
theorem s_app (h : (∃ k, ownd ρ j k) ∧ w ρ (fun d ρ' => ownd ρ' j fun ds f => ds.length < sizeLine ∧ nx (f (ds ++ [d]))) rs) : wApp j w ⟨nx, rt, rf, bk, ct, rs⟩ ρ := h
theorem s_put (h : w ρ (fun d ρ1 => (∃ k, ownd ρ1 j k) ∧ ls ρ1 (fun L ρ2 => ∃ (z : Int), L ρ2 (.int z) ∧ ownd ρ2 j fun ds f => ∃ m, ixN ds.length z = some m ∧ nx (f (ds.set m d))) rs) rs) : wPut j w ls ⟨nx, rt, rf, bk, ct, rs⟩ ρ := h
theorem s_owd {k : List D → (List D → En) → Prop} (ds : List D) (h : ρ[j]? = some (.ow ds)) (q : k ds fun es => ρ.set j (.ow es)) : ownd ρ j k := by unfold ownd; rw [h]; exact q
theorem s_oio {k : List D → (List D → En) → Prop} (ds : List D) (h : ρ[j]? = some (.io ds)) (q : k ds fun es => ρ.set j (.io es)) : ownd ρ j k := by unfold ownd; rw [h]; exact q
theorem s_unp {is : List Nat} (h : ls ρ (fun L ρ1 => ∃ ds, L ρ1 (.list ds) ∧ asgAll is ds ρ1 nx) rs) : wUnp is ls ⟨nx, rt, rf, bk, ct, rs⟩ ρ := h
theorem s_unpT {is : List Nat} (h : ls ρ (fun L ρ1 => ∃ ds, L ρ1 (.tuple ds) ∧ asgAll is ds ρ1 nx) rs) : wUnpT is ls ⟨nx, rt, rf, bk, ct, rs⟩ ρ := h
theorem s_all0 (h : nx ρ) : asgAll [] [] ρ nx := h
theorem s_alls {is : List Nat} {ds : List D} (h : asgV i (.va d) ρ fun ρ' => asgAll is ds ρ' nx) : asgAll (i :: is) (d :: ds) ρ nx := h
theorem s_gname (h : asgV i (.va d) ρ nx) : wgName i d ρ nx rs := h
theorem s_gtup {is : List Nat} {ds : List D} (h : asgAll is ds ρ nx) : wgTup is (.tuple ds) ρ nx rs := ⟨_, rfl, h⟩
theorem s_glst {is : List Nat} {ds : List D} (h : asgAll is ds ρ nx) : wgLst is (.list ds) ρ nx rs := ⟨_, rfl, h⟩
theorem s_for (h : wi ρ (fun ds ρ1 => ∃ Inv : Nat → En → Prop, Inv 0 ρ1 ∧
  (∀ i d ρ', ds[i]? = some d → Inv i ρ' → wg d ρ' (fun ρ2 => ws ⟨Inv (i + 1), rt, rf, nx, Inv (i + 1), rs⟩ ρ2) rs) ∧ ∀ ρ', Inv ds.length ρ' → nx ρ') rs) : wFor wi wg ws ⟨nx, rt, rf, bk, ct, rs⟩ ρ := h
def catK (o : Option Bool) (T F : Prop) : Prop := match o with
  | some true => T
  | some false => F
  | none => False
theorem catK_t {o : Option Bool} {T F : Prop} (e : o = some true) (h : T) : catK o T F := by subst e; exact h
theorem catK_f {o : Option Bool} {T F : Prop} (e : o = some false) (h : F) : catK o T F := by subst e; exact h
theorem s_try {cat : Addr → Option Bool} {wx : Addr → Addr → WS} (h : ws ⟨nx, rt, rf, bk, ct, fun c ρ' => catK (cat c) (∀ a, asgV i (.ex a) ρ' fun ρ2 => wx a c ⟨fun ρ => asgV i .no ρ nx, rt, rf, fun ρ => asgV i .no ρ bk, fun ρ => asgV i .no ρ ct, NoE⟩ ρ2) (rs c ρ')⟩ ρ) : wTry cat i ws wx ⟨nx, rt, rf, bk, ct, rs⟩ ρ := h
theorem s_suite {nm : Addr → Option Str} {wx : Addr → Str → WS} {a c : Addr} {t : Str} (e : nm c = some t) (h : wx a t B ρ) : wSuite nm wx a c B ρ := ⟨t, e, h⟩
theorem s_told {a : Addr} {t : Str} (e : ρ[i]? = some (.ex a)) (h : R (.str t) ρ) : wTold i a t ρ R E := ⟨e, h⟩
theorem s_isX {a : Addr} {b : Bool} (e : ρ[i]? = some (.ex a)) (h : R (.bool b) ρ) : wIsX i a b ρ R E := ⟨e, h⟩
theorem s_L {L : (En → D → Prop) → En → Prop} (h : w ρ (fun d ρ' => L (fun _ d' => d' = d) ρ') E) : wL w ρ L E := h
theorem s_N (d : D) {L : (En → D → Prop) → En → Prop} (e : rd ρ j = some d) (h : L (fun ρ' d => rd ρ' j = some d) ρ) : wN j ρ L E := ⟨⟨d, e⟩, h⟩
theorem s_C (h : R d ρ) : wC d ρ R E := h
theorem s_Va (d : D) (e : ρ[j]? = some (.va d)) (h : R d ρ) : wV j ρ R E := by unfold wV; rw [e]; exact h
theorem s_Vo (ds : List D) (e : ρ[j]? = some (.ow ds)) (h : R (.list ds) (ρ.set j (.va (.list ds)))) : wV j ρ R E := by unfold wV; rw [e]; exact h
theorem s_VF (ds : List D) (e : ρ[j]? = some (.ow ds)) (h : A ds (ρ.set j .no)) : wVF j ρ A E := by unfold wVF; rw [e]; exact h
theorem s_op {f : D → D → (D → Prop) → Prop} (h : la ρ (fun La ρ1 => lb ρ1 (fun Lb ρ2 => ∃ d e, La ρ2 d ∧ Lb ρ2 e ∧ f d e (fun z => R z ρ2)) E) E) : wOp f la lb ρ R E := h
theorem s_un {f : D → (D → Prop) → Prop} (h : la ρ (fun La ρ1 => ∃ d, La ρ1 d ∧ f d (fun z => R z ρ1)) E) : wUn f la ρ R E := h
theorem s_B1 {f : D → (D → Prop) → Prop} (h : la ρ (fun La ρ1 => ∃ d, La ρ1 d ∧ f d (fun z => R z ρ1)) E) : wB1 f la ρ R E := h
theorem s_B2 {f : D → D → (D → Prop) → Prop} (h : la ρ (fun La ρ1 => lb ρ1 (fun Lb ρ2 => ∃ d e, La ρ2 d ∧ Lb ρ2 e ∧ f d e (fun z => R z ρ2)) E) E) : wB2 f la lb ρ R E := h
theorem s_isi {n : String} (h : la ρ (fun L ρ1 => ∃ d, L ρ1 d ∧ R (.bool (isK n d)) ρ1) E) : wIsi n la ρ R E := h
theorem s_chain {f f' : D → D → (D → Prop) → Prop} (h : la ρ (fun La ρ1 => lb ρ1 (fun Lb ρ2 => ∃ d e, La ρ2 d ∧ Lb ρ2 e ∧ f d e (fun z => ∃ k, z = .bool k ∧
  if k = true then lc ρ2 (fun Lc ρ3 => ∃ e' g, Lb ρ3 e' ∧ Lc ρ3 g ∧ f' e' g (fun z => R z ρ3)) E else R (.bool false) ρ2)) E) E) : wChain f f' la lb lc ρ R E := h
theorem s_Tb (h : w ρ (fun d ρ' => ∃ b, d = .bool b ∧ T b ρ') E) : wTb w ρ T E := h
theorem s_And (h : ta ρ (fun b ρ1 => if b = true then tb ρ1 T E else T false ρ1) E) : wAnd ta tb ρ T E := h
theorem s_Or (h : ta ρ (fun b ρ1 => if b = true then T true ρ1 else tb ρ1 T E) E) : wOr ta tb ρ T E := h
theorem s_Not (h : ta ρ (fun b ρ1 => T (!b) ρ1) E) : wNot ta ρ T E := h
theorem s_AndV (h : wa ρ (fun d ρ1 => ∃ b, d = .bool b ∧ if b = true then wb ρ1 R E else R (.bool false) ρ1) E) : wAndV wa wb ρ R E := h
theorem s_OrV (h : wa ρ (fun d ρ1 => ∃ b, d = .bool b ∧ if b = true then R (.bool true) ρ1 else wb ρ1 R E) E) : wOrV wa wb ρ R E := h
theorem s_NotV (h : wa ρ (fun d ρ1 => ∃ b, d = .bool b ∧ R (.bool (!b)) ρ1) E) : wNotV wa ρ R E := h
theorem s_If (h : wt ρ (fun b ρ1 => if b = true then wa ρ1 R E else wb ρ1 R E) E) : wIf wt wa wb ρ R E := h
theorem s_aNil (h : A [] ρ) : waNil ρ A E := h
theorem s_aCons (h : w ρ (fun d ρ1 => ar ρ1 (fun ds ρ2 => A (d :: ds) ρ2) E) E) : waCons w ar ρ A E := h
theorem s_Tup (h : ar ρ (fun ds ρ' => R (.tuple ds) ρ') E) : wTup ar ρ R E := h
theorem s_FE (h : ar ρ (fun ds ρ' => R (.list ds) ρ') E) : wFE ar ρ R E := h
theorem s_mNil (h : M [] ρ) : wmNil ρ M E := h
theorem s_mV (h : w ρ (fun d ρ1 => wm ρ1 (fun as ρ2 => M (.v d :: as) ρ2) E) E) : wmV w wm ρ M E := h
theorem s_mIo (d : D) (e : rd ρ j = some d) (h : wm ρ (fun as ρ2 => M (.io j :: as) ρ2) E) : wmIo j wm ρ M E := ⟨⟨d, e⟩, h⟩
theorem s_call {S : WF} (h : wm ρ (fun as ρ2 => ∃ ps, pars ρ2 as = some ps ∧ (ios as).Nodup ∧ S ps (fun d os => R d (upds ρ2 as os)) (fun c os => E c (upds ρ2 as os))) E) : wCall S wm ρ R E := h
theorem s_call0 {S : WF} (h : wm ρ (fun as ρ2 => ∃ ps, pars ρ2 as = some ps ∧ (ios as).Nodup ∧ S ps (fun d os => R d (upds ρ2 as os)) NoE) E) : wCall0 S wm ρ R E := h
theorem s_callF {S : WFF} (h : wm ρ (fun as ρ2 => ∃ ps, pars ρ2 as = some ps ∧ (ios as).Nodup ∧ S ps (fun d os => A d (upds ρ2 as os)) (fun c os => E c (upds ρ2 as os))) E) : wCallF S wm ρ A E := h
theorem s_args {as : List Ar} {G : List Sl → Prop} (ps : List Sl) (e : pars ρ as = some ps) (n : (ios as).Nodup) (h : G ps) : ∃ ps, pars ρ as = some ps ∧ (ios as).Nodup ∧ G ps := ⟨ps, e, n, h⟩
theorem s_iAl {ds : List D} (h : A ds ρ) : (match (PyData.list ds), ρ with
  | .list ds, ρ' => A ds ρ'
  | .tuple ds, ρ' => A ds ρ'
  | _, _ => False) := h
theorem s_iA {G : List D → En → Prop} (h : w ρ (fun d ρ' => match d with
  | .list ds => G ds ρ'
  | .tuple ds => G ds ρ'
  | _ => False) E) : wiA w ρ G E := h
theorem s_iL {G : List D → En → Prop} (h : w ρ (fun d ρ' => ∃ ds, d = .list ds ∧ G ds ρ') E) : wiL w ρ G E := h
theorem s_iT {G : List D → En → Prop} (h : w ρ (fun d ρ' => ∃ ds, d = .tuple ds ∧ G ds ρ') E) : wiT w ρ G E := h
theorem s_iR1 {G : List D → En → Prop} (h : ar ρ (fun ds ρ' => ∃ n : Int, ds = [.int n] ∧ (-(2 ^ 62) ≤ n ∧ n < 2 ^ 62) ∧ G (rng 0 n.toNat) ρ') E) : wiR1 ar ρ G E := h
theorem s_iR1e {n : Int} {G : List D → Prop} (h : G (rng 0 n.toNat)) (g : -(2 ^ 62) ≤ n ∧ n < 2 ^ 62) : ∃ m : Int, ([.int n] : List D) = [.int m] ∧ (-(2 ^ 62) ≤ m ∧ m < 2 ^ 62) ∧ G (rng 0 m.toNat) := ⟨n, rfl, g, h⟩
theorem s_pNo {G : Option Int → En → Prop} (h : G none ρ) : wpNo ρ G E := h
theorem s_pAt {G : Option Int → En → Prop} (h : w ρ (fun d ρ' => ∃ i, d = .int i ∧ G (some i) ρ') E) : wpAt w ρ G E := h
theorem s_slL {wl wh : WO} (h : ls ρ (fun L ρ1 => wl ρ1 (fun lo ρ2 => wh ρ2 (fun hi ρ3 => ∃ ds, L ρ3 (.list ds) ∧ A (cutG ds lo hi) ρ3) E) E) E) : wSlL ls wl wh ρ A E := h
theorem s_Yes (h : T true ρ) : wYes ρ T E := h
/-- the values -/
theorem s_i {g : Int → Int → D} {a b : Int} (h : k (g a b)) : f2i g (.int a) (.int b) k := h
theorem s_I {C : Int → Int → Prop} {g : Int → Int → D} {a b : Int} (h : k (g a b)) (c : C a b) : f2I C g (.int a) (.int b) k := ⟨c, h⟩
theorem s_powl {a b : Int} (r : Int) (c : CPow a b) (e : a ^ b.toNat = r) (h : k (.int r)) : f2I CPow (fun i j => .int (i ^ j.toNat)) (.int a) (.int b) k := ⟨c, by show k (.int (a ^ b.toNat)); rw [e]; exact h⟩
theorem s_addi {a b : Int} (h : k (.int (a + b))) : fAdd (.int a) (.int b) k := h
theorem s_addl {a b : List D} (h : k (.list (a ++ b))) (c : a.length + b.length ≤ sizeLine) : fAdd (.list a) (.list b) k := ⟨c, h⟩
theorem s_addt {a b : List D} (h : k (.tuple (a ++ b))) (c : a.length + b.length ≤ sizeLine) : fAdd (.tuple a) (.tuple b) k := ⟨c, h⟩
theorem s_adds {a b : Str} (h : k (.str (a ++ b))) (c : a.length + b.length ≤ sizeLine) : fAdd (.str a) (.str b) k := ⟨c, h⟩
theorem s_neg {a : Int} (h : k (.int (-a))) : fNeg (.int a) k := h
theorem s_eqi {a b : Int} (h : k (.bool (decide (a = b)))) : fEq (.int a) (.int b) k := h
theorem s_nei {a b : Int} (h : k (.bool (!decide (a = b)))) : fNe (.int a) (.int b) k := h
theorem s_eqs {a b : Str} (h : k (.bool (decide (a = b)))) : fEq (.str a) (.str b) k := h
theorem s_nes {a b : Str} (h : k (.bool (!decide (a = b)))) : fNe (.str a) (.str b) k := h
theorem s_isB {a b : Bool} (h : k (.bool (decide (a = b)))) : fIsB (.bool a) (.bool b) k := h
theorem s_notB {a b : Bool} (h : k (.bool (!decide (a = b)))) : fNotB (.bool a) (.bool b) k := h
theorem s_ixl {ds : List D} {z : Int} (x : D) (e : atI ds z = some x) (h : k x) : fIx (.list ds) (.int z) k := ⟨x, e, h⟩
theorem s_ixt {ds : List D} {z : Int} (x : D) (e : atI ds z = some x) (h : k x) : fIx (.tuple ds) (.int z) k := ⟨x, e, h⟩
theorem s_abs {a : Int} (h : k (.int (if a < 0 then -a else a))) : fAbs (.int a) k := h
theorem s_int {a : Int} (h : k (.int a)) : fInt (.int a) k := h
theorem s_lenl {ds : List D} (h : k (.int ds.length)) : fLen (.list ds) k := h
theorem s_lent {ds : List D} (h : k (.int ds.length)) : fLen (.tuple ds) k := h
theorem s_gcd {a b : Int} (h : k (.int ((Nat.gcd a.natAbs b.natAbs : Nat) : Int))) : fGcd (.int a) (.int b) k := h
/-- ways -/
theorem s_ift {c : Bool} (e : c = true) (h : P) : if c = true then P else Q := by rw [if_pos e]; exact h
theorem s_iff {c : Bool} (e : c = false) (h : Q) : if c = true then P else Q := by rw [e]; exact h
theorem s_ifd {p : Prop} [Decidable p] (h1 : p → P) (h2 : ¬p → Q) : if decide p = true then P else Q := by
  by_cases h : p
  · rw [if_pos (decide_eq_true h)]; exact h1 h
  · rw [decide_eq_false h]; exact h2 h
theorem s_ifn {p : Prop} [Decidable p] (h1 : ¬p → P) (h2 : p → Q) : if (!decide p) = true then P else Q := by
  by_cases h : p
  · rw [decide_eq_true h]; exact h2 h
  · rw [decide_eq_false h]; exact h1 h
theorem s_ifb {c : Bool} (h1 : c = true → P) (h2 : c = false → Q) : if c = true then P else Q := by
  cases c
  · exact h2 rfl
  · exact h1 rfl
/-- calls: what comes back -/
theorem up_v {as : List Ar} {s : Sl} {os : List Sl} : upds ρ (.v d :: as) (s :: os) = upds ρ as os := rfl
theorem up_nil : upds ρ [] [] = ρ := rfl
theorem s_fr0 (h : nx ρ) : forRun wg ws ⟨nx, rt, rf, bk, ct, rs⟩ [] ρ := h
theorem s_frs {ds : List D} (h : wg d ρ (fun ρ2 => ws ⟨forRun wg ws ⟨nx, rt, rf, bk, ct, rs⟩ ds, rt, rf, nx, forRun wg ws ⟨nx, rt, rf, bk, ct, rs⟩ ds, rs⟩ ρ2) rs) : forRun wg ws ⟨nx, rt, rf, bk, ct, rs⟩ (d :: ds) ρ := h
theorem s_run {ds : List D} (bk ct : En → Prop) (es : List D) (e : ds = es) (h : forRun wg ws ⟨nx, rt, rf, bk, ct, rs⟩ es ρ) : ∃ Inv : Nat → En → Prop, Inv 0 ρ ∧
  (∀ i d ρ', ds[i]? = some d → Inv i ρ' → wg d ρ' (fun ρ2 => ws ⟨Inv (i + 1), rt, rf, nx, Inv (i + 1), rs⟩ ρ2) rs) ∧ ∀ ρ', Inv ds.length ρ' → nx ρ' := by
  subst e
  exact for_run (B := ⟨nx, rt, rf, bk, ct, rs⟩) h
theorem s_inv {ds : List D} (Inv : Nat → En → Prop) (h0 : Inv 0 ρ) (h : ∀ i d ρ', ds[i]? = some d → Inv i ρ' → wg d ρ' (fun ρ2 => ws ⟨Inv (i + 1), rt, rf, nx, Inv (i + 1), rs⟩ ρ2) rs) (hn : ∀ ρ', Inv ds.length ρ' → nx ρ') : ∃ Inv : Nat → En → Prop, Inv 0 ρ ∧
  (∀ i d ρ', ds[i]? = some d → Inv i ρ' → wg d ρ' (fun ρ2 => ws ⟨Inv (i + 1), rt, rf, nx, Inv (i + 1), rs⟩ ρ2) rs) ∧ ∀ ρ', Inv ds.length ρ' → nx ρ' := ⟨Inv, h0, h, hn⟩
theorem s_cut {ds : List D} (Z : En → Prop) (hz : ∀ ρ', Z ρ' → nx ρ') (h : (∀ ρ', Z ρ' → nx ρ') → ∃ Inv : Nat → En → Prop, Inv 0 ρ ∧
  (∀ i d ρ', ds[i]? = some d → Inv i ρ' → wg d ρ' (fun ρ2 => ws ⟨Inv (i + 1), rt, rf, nx, Inv (i + 1), rs⟩ ρ2) rs) ∧ ∀ ρ', Inv ds.length ρ' → nx ρ') : ∃ Inv : Nat → En → Prop, Inv 0 ρ ∧
  (∀ i d ρ', ds[i]? = some d → Inv i ρ' → wg d ρ' (fun ρ2 => ws ⟨Inv (i + 1), rt, rf, nx, Inv (i + 1), rs⟩ ρ2) rs) ∧ ∀ ρ', Inv ds.length ρ' → nx ρ' := h hz
theorem s_lc {vs : List Nat} (h : wi ρ (fun ds ρ1 => ∃ Inv : Nat → List D → En → Prop, Inv 0 [] ρ1 ∧
  (∀ i d acc ρ', ds[i]? = some d → Inv i acc ρ' → okw ρ' vs ∧ wg d (wipeE ρ' vs) (fun ρ2 => wt ρ2 (fun b ρ3 =>
    if b = true then w ρ3 (fun y ρ4 => acc.length < sizeLine ∧ okw ρ4 vs ∧ Inv (i + 1) (acc ++ [y]) (back ρ' vs ρ4)) NoE else okw ρ3 vs ∧ Inv (i + 1) acc (back ρ' vs ρ3)) NoE) NoE) ∧
  ∀ acc ρ', Inv ds.length acc ρ' → A acc ρ') E) : wLc vs wi wg wt w ρ A E := h
theorem s_lr {vs : List Nat} {ds : List D} (h : lcRun vs wg wt w A ds [] ρ) : ∃ Inv : Nat → List D → En → Prop, Inv 0 [] ρ ∧
  (∀ i d acc ρ', ds[i]? = some d → Inv i acc ρ' → okw ρ' vs ∧ wg d (wipeE ρ' vs) (fun ρ2 => wt ρ2 (fun b ρ3 =>
    if b = true then w ρ3 (fun y ρ4 => acc.length < sizeLine ∧ okw ρ4 vs ∧ Inv (i + 1) (acc ++ [y]) (back ρ' vs ρ4)) NoE else okw ρ3 vs ∧ Inv (i + 1) acc (back ρ' vs ρ3)) NoE) NoE) ∧
  ∀ acc ρ', Inv ds.length acc ρ' → A acc ρ' := lc_run h
theorem s_lr0 {vs : List Nat} {acc : List D} (h : A acc ρ) : lcRun vs wg wt w A [] acc ρ := h
theorem s_lrs {vs : List Nat} {ds acc : List D} (o : okw ρ vs) (h : wg d (wipeE ρ vs) (fun ρ2 => wt ρ2 (fun b ρ3 =>
    if b = true then w ρ3 (fun y ρ4 => acc.length < sizeLine ∧ okw ρ4 vs ∧ lcRun vs wg wt w A ds (acc ++ [y]) (back ρ vs ρ4)) NoE else okw ρ3 vs ∧ lcRun vs wg wt w A ds acc (back ρ vs ρ3)) NoE) NoE) : lcRun vs wg wt w A (d :: ds) acc ρ := ⟨o, h⟩
end
end Den
namespace Lw
open PySem L2 Den Evl PySem.Spec PyProof.Rows
def top (i : Nat) : Stmt := PySem.Challenge.pw_lotshown_k00_fractions.main.body.getD i (.Pass ⟨0, 0, 0, 0⟩)
abbrev sis_number : Stmt := top 9
abbrev Nis_number : List Str := ["value", "least", "most"]
abbrev Pis_number : List Str := ["value", "least", "most"]
theorem scis_number : FnScope Nis_number Pis_number (defScope sis_number) := ⟨rfl, rfl, rfl, by decide +kernel, rfl, by decide +kernel, by decide +kernel⟩
abbrev smade : Stmt := top 13
abbrev Nmade : List Str := ["part", "whole", "divisor"]
abbrev Pmade : List Str := ["part", "whole"]
theorem scmade : FnScope Nmade Pmade (defScope smade) := ⟨rfl, rfl, rfl, by decide +kernel, rfl, by decide +kernel, by decide +kernel⟩
abbrev sless : Stmt := top 18
abbrev Nless : List Str := ["one", "other"]
abbrev Pless : List Str := ["one", "other"]
theorem scless : FnScope Nless Pless (defScope sless) := ⟨rfl, rfl, rfl, by decide +kernel, rfl, by decide +kernel, by decide +kernel⟩
abbrev s_law_open : Stmt := top 20
abbrev N_law_open : List Str := ["script", "cells", "cell"]
abbrev P_law_open : List Str := ["script"]
theorem sc_law_open : FnScope N_law_open P_law_open (defScope s_law_open) := ⟨rfl, rfl, rfl, by decide +kernel, rfl, by decide +kernel, by decide +kernel⟩
abbrev s_law_mixed : Stmt := top 21
abbrev N_law_mixed : List Str := ["cell", "turn", "number"]
abbrev P_law_mixed : List Str := ["cell", "turn"]
theorem sc_law_mixed : FnScope N_law_mixed P_law_mixed (defScope s_law_mixed) := ⟨rfl, rfl, rfl, by decide +kernel, rfl, by decide +kernel, by decide +kernel⟩
abbrev s_law_told : Stmt := top 24
abbrev N_law_told : List Str := ["error", "kinds", "names", "name", "true"]
abbrev P_law_told : List Str := ["error"]
theorem sc_law_told : FnScope N_law_told P_law_told (defScope s_law_told) := ⟨rfl, rfl, rfl, by decide +kernel, rfl, by decide +kernel, by decide +kernel⟩
abbrev s_law_lowest : Stmt := top 26
abbrev N_law_lowest : List Str := ["part", "whole", "one", "other", "k", "sign", "rest"]
abbrev P_law_lowest : List Str := ["part", "whole"]
theorem sc_law_lowest : FnScope N_law_lowest P_law_lowest (defScope s_law_lowest) := ⟨rfl, rfl, rfl, by decide +kernel, rfl, by decide +kernel, by decide +kernel⟩
abbrev s_law_is : Stmt := top 27
abbrev N_law_is : List Str := ["value", "due", "one"]
abbrev P_law_is : List Str := ["value", "due"]
theorem sc_law_is : FnScope N_law_is P_law_is (defScope s_law_is) := ⟨rfl, rfl, rfl, by decide +kernel, rfl, by decide +kernel, by decide +kernel⟩
abbrev sis_fraction : Stmt := top 12
abbrev Nis_fraction : List Str := ["value", "part", "whole"]
abbrev Pis_fraction : List Str := ["value"]
theorem scis_fraction : FnScope Nis_fraction Pis_fraction (defScope sis_fraction) := ⟨rfl, rfl, rfl, by decide +kernel, rfl, by decide +kernel, by decide +kernel⟩
abbrev splus : Stmt := top 14
abbrev Nplus : List Str := ["one", "other"]
abbrev Pplus : List Str := ["one", "other"]
theorem scplus : FnScope Nplus Pplus (defScope splus) := ⟨rfl, rfl, rfl, by decide +kernel, rfl, by decide +kernel, by decide +kernel⟩
abbrev sminus : Stmt := top 15
abbrev Nminus : List Str := ["one", "other"]
abbrev Pminus : List Str := ["one", "other"]
theorem scminus : FnScope Nminus Pminus (defScope sminus) := ⟨rfl, rfl, rfl, by decide +kernel, rfl, by decide +kernel, by decide +kernel⟩
abbrev stimes : Stmt := top 16
abbrev Ntimes : List Str := ["one", "other"]
abbrev Ptimes : List Str := ["one", "other"]
theorem sctimes : FnScope Ntimes Ptimes (defScope stimes) := ⟨rfl, rfl, rfl, by decide +kernel, rfl, by decide +kernel, by decide +kernel⟩
abbrev sthrough : Stmt := top 17
abbrev Nthrough : List Str := ["one", "other"]
abbrev Pthrough : List Str := ["one", "other"]
theorem scthrough : FnScope Nthrough Pthrough (defScope sthrough) := ⟨rfl, rfl, rfl, by decide +kernel, rfl, by decide +kernel, by decide +kernel⟩
abbrev s_law_draw : Stmt := top 22
abbrev N_law_draw : List Str := ["draws", "size", "turn", "left", "cells", "cell"]
abbrev P_law_draw : List Str := ["draws", "size"]
theorem sc_law_draw : FnScope N_law_draw P_law_draw (defScope s_law_draw) := ⟨rfl, rfl, rfl, by decide +kernel, rfl, by decide +kernel, by decide +kernel⟩
abbrev s_law_made : Stmt := top 28
abbrev N_law_made : List Str := ["part", "whole", "error", "value"]
abbrev P_law_made : List Str := ["part", "whole"]
theorem sc_law_made : FnScope N_law_made P_law_made (defScope s_law_made) := ⟨rfl, rfl, rfl, by decide +kernel, rfl, by decide +kernel, by decide +kernel⟩
abbrev s_law_wide : Stmt := top 23
abbrev N_law_wide : List Str := ["draws", "size", "number", "k"]
abbrev P_law_wide : List Str := ["draws", "size"]
theorem sc_law_wide : FnScope N_law_wide P_law_wide (defScope s_law_wide) := ⟨rfl, rfl, rfl, by decide +kernel, rfl, by decide +kernel, by decide +kernel⟩
abbrev s_law_through : Stmt := top 29
abbrev N_law_through : List Str := ["one", "other", "error", "value"]
abbrev P_law_through : List Str := ["one", "other"]
theorem sc_law_through : FnScope N_law_through P_law_through (defScope s_law_through) := ⟨rfl, rfl, rfl, by decide +kernel, rfl, by decide +kernel, by decide +kernel⟩
abbrev s_law_kinds : Stmt := top 31
abbrev N_law_kinds : List Str := ["one", "wrong", "value", "part", "whole"]
abbrev P_law_kinds : List Str := ["one"]
theorem sc_law_kinds : FnScope N_law_kinds P_law_kinds (defScope s_law_kinds) := ⟨rfl, rfl, rfl, by decide +kernel, rfl, by decide +kernel, by decide +kernel⟩
abbrev s_law_number : Stmt := top 25
abbrev N_law_number : List Str := ["draws", "kind", "size", "number"]
abbrev P_law_number : List Str := ["draws"]
theorem sc_law_number : FnScope N_law_number P_law_number (defScope s_law_number) := ⟨rfl, rfl, rfl, by decide +kernel, rfl, by decide +kernel, by decide +kernel⟩
abbrev s_law_sums : Stmt := top 30
abbrev N_law_sums : List Str := ["one", "other", "told", "a", "b", "c", "d"]
abbrev P_law_sums : List Str := ["one", "other"]
theorem sc_law_sums : FnScope N_law_sums P_law_sums (defScope s_law_sums) := ⟨rfl, rfl, rfl, by decide +kernel, rfl, by decide +kernel, by decide +kernel⟩
abbrev slaw : Stmt := top 32
abbrev Nlaw : List Str := ["script", "draws", "turn", "rows", "k", "one", "part", "whole"]
abbrev Plaw : List Str := ["script"]
theorem sclaw : FnScope Nlaw Plaw (defScope slaw) := ⟨rfl, rfl, rfl, by decide +kernel, rfl, by decide +kernel, by decide +kernel⟩
/-- where the classes and the defs stand -/
structure Ad where
  cLotError : Addr
  cOutOfRange : Addr
  cMalformed : Addr
  cNotThere : Addr
  cRefused : Addr
  cTooMuch : Addr
  fis_number : Addr
  dis_number : FuncData
  fmade : Addr
  dmade : FuncData
  fless : Addr
  dless : FuncData
  f_law_open : Addr
  d_law_open : FuncData
  f_law_mixed : Addr
  d_law_mixed : FuncData
  f_law_told : Addr
  d_law_told : FuncData
  f_law_lowest : Addr
  d_law_lowest : FuncData
  f_law_is : Addr
  d_law_is : FuncData
  fis_fraction : Addr
  dis_fraction : FuncData
  fplus : Addr
  dplus : FuncData
  fminus : Addr
  dminus : FuncData
  ftimes : Addr
  dtimes : FuncData
  fthrough : Addr
  dthrough : FuncData
  f_law_draw : Addr
  d_law_draw : FuncData
  f_law_made : Addr
  d_law_made : FuncData
  f_law_wide : Addr
  d_law_wide : FuncData
  f_law_through : Addr
  d_law_through : FuncData
  f_law_kinds : Addr
  d_law_kinds : FuncData
  f_law_number : Addr
  d_law_number : FuncData
  f_law_sums : Addr
  d_law_sums : FuncData
  flaw : Addr
  dlaw : FuncData
structure Txt (K : PySem.W.Frag) (mg : Str → Option Value) (A : Ad) : Prop where
  fis_number : mg "is_number" = some (.ref A.fis_number)
  pis_number : PySem.W.keepIn K (.ref A.fis_number) = true
  ais_number : Binds K A.dis_number Pis_number []
  Fis_number : Fun K "is_number" "is_number" sis_number A.fis_number A.dis_number
  fmade : mg "made" = some (.ref A.fmade)
  pmade : PySem.W.keepIn K (.ref A.fmade) = true
  amade : Binds K A.dmade Pmade []
  Fmade : Fun K "made" "made" smade A.fmade A.dmade
  fless : mg "less" = some (.ref A.fless)
  pless : PySem.W.keepIn K (.ref A.fless) = true
  aless : Binds K A.dless Pless []
  Fless : Fun K "less" "less" sless A.fless A.dless
  f_law_open : mg "_law_open" = some (.ref A.f_law_open)
  p_law_open : PySem.W.keepIn K (.ref A.f_law_open) = true
  a_law_open : Binds K A.d_law_open P_law_open []
  F_law_open : Fun K "_law_open" "_law_open" s_law_open A.f_law_open A.d_law_open
  f_law_mixed : mg "_law_mixed" = some (.ref A.f_law_mixed)
  p_law_mixed : PySem.W.keepIn K (.ref A.f_law_mixed) = true
  a_law_mixed : Binds K A.d_law_mixed P_law_mixed []
  F_law_mixed : Fun K "_law_mixed" "_law_mixed" s_law_mixed A.f_law_mixed A.d_law_mixed
  f_law_told : mg "_law_told" = some (.ref A.f_law_told)
  p_law_told : PySem.W.keepIn K (.ref A.f_law_told) = true
  a_law_told : Binds K A.d_law_told P_law_told []
  F_law_told : Fun K "_law_told" "_law_told" s_law_told A.f_law_told A.d_law_told
  f_law_lowest : mg "_law_lowest" = some (.ref A.f_law_lowest)
  p_law_lowest : PySem.W.keepIn K (.ref A.f_law_lowest) = true
  a_law_lowest : Binds K A.d_law_lowest P_law_lowest []
  F_law_lowest : Fun K "_law_lowest" "_law_lowest" s_law_lowest A.f_law_lowest A.d_law_lowest
  f_law_is : mg "_law_is" = some (.ref A.f_law_is)
  p_law_is : PySem.W.keepIn K (.ref A.f_law_is) = true
  a_law_is : Binds K A.d_law_is P_law_is []
  F_law_is : Fun K "_law_is" "_law_is" s_law_is A.f_law_is A.d_law_is
  fis_fraction : mg "is_fraction" = some (.ref A.fis_fraction)
  pis_fraction : PySem.W.keepIn K (.ref A.fis_fraction) = true
  ais_fraction : Binds K A.dis_fraction Pis_fraction []
  Fis_fraction : Fun K "is_fraction" "is_fraction" sis_fraction A.fis_fraction A.dis_fraction
  fplus : mg "plus" = some (.ref A.fplus)
  pplus : PySem.W.keepIn K (.ref A.fplus) = true
  aplus : Binds K A.dplus Pplus []
  Fplus : Fun K "plus" "plus" splus A.fplus A.dplus
  fminus : mg "minus" = some (.ref A.fminus)
  pminus : PySem.W.keepIn K (.ref A.fminus) = true
  aminus : Binds K A.dminus Pminus []
  Fminus : Fun K "minus" "minus" sminus A.fminus A.dminus
  ftimes : mg "times" = some (.ref A.ftimes)
  ptimes : PySem.W.keepIn K (.ref A.ftimes) = true
  atimes : Binds K A.dtimes Ptimes []
  Ftimes : Fun K "times" "times" stimes A.ftimes A.dtimes
  fthrough : mg "through" = some (.ref A.fthrough)
  pthrough : PySem.W.keepIn K (.ref A.fthrough) = true
  athrough : Binds K A.dthrough Pthrough []
  Fthrough : Fun K "through" "through" sthrough A.fthrough A.dthrough
  f_law_draw : mg "_law_draw" = some (.ref A.f_law_draw)
  p_law_draw : PySem.W.keepIn K (.ref A.f_law_draw) = true
  a_law_draw : Binds K A.d_law_draw P_law_draw []
  F_law_draw : Fun K "_law_draw" "_law_draw" s_law_draw A.f_law_draw A.d_law_draw
  f_law_made : mg "_law_made" = some (.ref A.f_law_made)
  p_law_made : PySem.W.keepIn K (.ref A.f_law_made) = true
  a_law_made : Binds K A.d_law_made P_law_made []
  F_law_made : Fun K "_law_made" "_law_made" s_law_made A.f_law_made A.d_law_made
  f_law_wide : mg "_law_wide" = some (.ref A.f_law_wide)
  p_law_wide : PySem.W.keepIn K (.ref A.f_law_wide) = true
  a_law_wide : Binds K A.d_law_wide P_law_wide []
  F_law_wide : Fun K "_law_wide" "_law_wide" s_law_wide A.f_law_wide A.d_law_wide
  f_law_through : mg "_law_through" = some (.ref A.f_law_through)
  p_law_through : PySem.W.keepIn K (.ref A.f_law_through) = true
  a_law_through : Binds K A.d_law_through P_law_through []
  F_law_through : Fun K "_law_through" "_law_through" s_law_through A.f_law_through A.d_law_through
  f_law_kinds : mg "_law_kinds" = some (.ref A.f_law_kinds)
  p_law_kinds : PySem.W.keepIn K (.ref A.f_law_kinds) = true
  a_law_kinds : Binds K A.d_law_kinds P_law_kinds []
  F_law_kinds : Fun K "_law_kinds" "_law_kinds" s_law_kinds A.f_law_kinds A.d_law_kinds
  f_law_number : mg "_law_number" = some (.ref A.f_law_number)
  p_law_number : PySem.W.keepIn K (.ref A.f_law_number) = true
  a_law_number : Binds K A.d_law_number P_law_number []
  F_law_number : Fun K "_law_number" "_law_number" s_law_number A.f_law_number A.d_law_number
  f_law_sums : mg "_law_sums" = some (.ref A.f_law_sums)
  p_law_sums : PySem.W.keepIn K (.ref A.f_law_sums) = true
  a_law_sums : Binds K A.d_law_sums P_law_sums []
  F_law_sums : Fun K "_law_sums" "_law_sums" s_law_sums A.f_law_sums A.d_law_sums
  flaw : mg "law" = some (.ref A.flaw)
  plaw : PySem.W.keepIn K (.ref A.flaw) = true
  alaw : Binds K A.dlaw Plaw []
  Flaw : Fun K "law" "law" slaw A.flaw A.dlaw
  b_abs : mg "abs" = none
  b_bool : mg "bool" = none
  b_int : mg "int" = none
  b_isinstance : mg "isinstance" = none
  b_len : mg "len" = none
  b_range : mg "range" = none
  b_tuple : mg "tuple" = none
  k_MOST : ∃ t, mg "_MOST" = some (.int 1000000000000000000000000000000000000000000000000000000000000 t)
  g_gcd : mg "gcd" = some (.builtin "math.gcd")
  cLotError : mg "LotError" = some (.ref A.cLotError)
  cOutOfRange : mg "OutOfRange" = some (.ref A.cOutOfRange)
  cMalformed : mg "Malformed" = some (.ref A.cMalformed)
  cNotThere : mg "NotThere" = some (.ref A.cNotThere)
  cRefused : mg "Refused" = some (.ref A.cRefused)
  cTooMuch : mg "TooMuch" = some (.ref A.cTooMuch)
  xOutOfRange : PySem.W.excIn K A.cOutOfRange [.type "ValueError", .type "Exception", .type "BaseException", .type "object"] "ValueError.__new__" = true
  qOutOfRange : PySem.W.keepIn K (.ref A.cOutOfRange) = true
  uOutOfRange : PySem.W.subIn K (.ref A.cOutOfRange) (.type "BaseException") = some true
  tOutOfRange : PySem.W.typeIn K (.ref A.cOutOfRange) = some (.type "type")
  XOutOfRange : ExcC K A.cOutOfRange
  eOutOfRange : PySem.W.exmOne K (.ref A.cOutOfRange) (.ref A.cLotError) = some true
  iOutOfRange_OutOfRange : PySem.W.kitOne K (.ref A.cOutOfRange) (.ref A.cOutOfRange) = some true
  iOutOfRange_Malformed : PySem.W.kitOne K (.ref A.cOutOfRange) (.ref A.cMalformed) = some false
  iOutOfRange_NotThere : PySem.W.kitOne K (.ref A.cOutOfRange) (.ref A.cNotThere) = some false
  iOutOfRange_Refused : PySem.W.kitOne K (.ref A.cOutOfRange) (.ref A.cRefused) = some false
  iOutOfRange_TooMuch : PySem.W.kitOne K (.ref A.cOutOfRange) (.ref A.cTooMuch) = some false
  iOutOfRange_LotError : PySem.W.kitOne K (.ref A.cOutOfRange) (.ref A.cLotError) = some true
/-- the names of the errors that are raised -/
def nm (A : Ad) : Addr → Option Str := fun c => if c = A.cOutOfRange then some "OutOfRange" else none
section
variable {K : PySem.W.Frag} {mg : Str → Option Value} {A : Ad}
theorem hcat (T : Txt K mg A) : ∀ c b, catOf (nm A) c = some b → PySem.W.exmOne K (.ref c) (.ref A.cLotError) = some b := fun c b h => by
  unfold catOf nm at h
  by_cases eOutOfRange : c = A.cOutOfRange
  · rw [eOutOfRange, T.eOutOfRange]
    have : b = true := by
      revert h; split <;> simp_all
    rw [this]
  · exfalso; simp [eOutOfRange] at h
end
end Lw

namespace Lw
open PySem L2 Den Evl PySem.Spec PyProof.Rows
/-- the state of the draws: at most n draws so far -/
def Dr (cs : List Int) (n : Int) (ds : List D) : Prop := ∃ t l : Int, ds = [.int t, .int l, .list (cs.map PyData.int)] ∧ 0 ≤ t ∧ t ≤ n ∧ 0 ≤ l
def Cs (cs : List Int) : Prop := 0 < cs.length ∧ cs.length ≤ 64 ∧ ∀ c ∈ cs, 0 ≤ c
def isNum (d : D) (a b : Int) : Bool := match d with
  | .int i => decide (a ≤ i) && decide (i ≤ b)
  | _ => false
def Sis_number (A : Ad) : WF := fun ps R _ => ∃ (d : D) (a b : Int), ps = [.va d, .va (.int a), .va (.int b)] ∧ R (.bool (isNum d a b)) [.no, .no, .no]
def bigX : Nat := 2 ^ 4000
/-- part over whole in lowest words -/
def lowN (p w : Int) : Int := p.fdiv (if 0 < w then (Nat.gcd p.natAbs w.natAbs : Int) else -(Nat.gcd p.natAbs w.natAbs : Int))
def lowD (p w : Int) : Int := w.fdiv (if 0 < w then (Nat.gcd p.natAbs w.natAbs : Int) else -(Nat.gcd p.natAbs w.natAbs : Int))
def fr (p w : Int) : D := .tuple [.int p, .int w]
def Smade (A : Ad) : WF := fun ps R E => ∃ p w : Int, ps = [.va (.int p), .va (.int w)] ∧ p.natAbs < bigX ∧ w.natAbs < bigX ∧ (w = 0 → E A.cOutOfRange [.no, .no]) ∧ (w ≠ 0 → R (fr (lowN p w) (lowD p w)) [.no, .no])
def Sless (A : Ad) : WF := fun ps R _ => ∃ a b c d : Int, ps = [.va (fr a b), .va (fr c d)] ∧ a.natAbs < bigX ∧ b.natAbs < bigX ∧ c.natAbs < bigX ∧ d.natAbs < bigX ∧ R (.bool (decide (a * d < c * b))) [.no, .no]
def S_law_open (A : Ad) : WFF := fun ps R _ => ∃ ns : List Int, ps = [.va (.list (ns.map PyData.int))] ∧ ns.length ≤ 63 ∧ ∀ cs ds, Cs cs → Dr cs 0 ds → R ds [.no]
def S_law_mixed (A : Ad) : WF := fun ps R _ => ∃ c t : Int, ps = [.va (.int c), .va (.int t)] ∧ 0 ≤ c ∧ 0 ≤ t ∧ t < 2 ^ 40 ∧ ∀ r : Int, 0 ≤ r → R (.int r) [.no, .no]
def S_law_lowest (A : Ad) : WF := fun ps R _ => ∃ p w : Int, ps = [.va (.int p), .va (.int w)] ∧ p.natAbs ≤ 10 ^ 121 ∧ w.natAbs ≤ 10 ^ 121 ∧ w ≠ 0 ∧ R (fr (lowN p w) (lowD p w)) [.no, .no]
def S_law_is (A : Ad) : WF := fun ps R _ => ∃ a b c d : Int, ps = [.va (fr a b), .va (fr c d)] ∧ R (.bool (decide (a = c) && decide (b = d))) [.no, .no]
def isFr (d : D) : Bool := match d with
  | .tuple [a, b] => isNum a (-(10 ^ 60)) (10 ^ 60) && isNum b 1 (10 ^ 60) && (match a, b with | .int p, .int w => decide (Nat.gcd p.natAbs w.natAbs = 1) | _, _ => false)
  | _ => false
def Sis_fraction (A : Ad) : WF := fun ps R _ => ∃ d, ps = [.va d] ∧ R (.bool (isFr d)) [.no]
def S2 (A : Ad) (p w : Int → Int → Int → Int → Int) : WF := fun ps R E => ∃ a b c d : Int, ps = [.va (fr a b), .va (fr c d)] ∧ a.natAbs ≤ 10 ^ 60 ∧ b.natAbs ≤ 10 ^ 60 ∧ c.natAbs ≤ 10 ^ 60 ∧ d.natAbs ≤ 10 ^ 60 ∧ (w a b c d = 0 → E A.cOutOfRange [.no, .no]) ∧ (w a b c d ≠ 0 → R (fr (lowN (p a b c d) (w a b c d)) (lowD (p a b c d) (w a b c d))) [.no, .no])
def Splus (A : Ad) : WF := S2 A (fun a b c d => a * d + c * b) (fun a b c d => b * d)
def Sminus (A : Ad) : WF := S2 A (fun a b c d => a * d - c * b) (fun a b c d => b * d)
def Stimes (A : Ad) : WF := S2 A (fun a b c d => a * c) (fun a b c d => b * d)
def Sthrough (A : Ad) : WF := S2 A (fun a b c d => a * d) (fun a b c d => b * c)
def S_law_draw (A : Ad) : WF := fun ps R _ => ∃ (cs : List Int) (n size : Int) (ds : List D), ps = [.io ds, .va (.int size)] ∧ Cs cs ∧ Dr cs n ds ∧ n < 2 ^ 39 ∧ 0 < size ∧ size ≤ 10 ^ 100 ∧
  ∀ (r : Int) (ds' : List D), 0 ≤ r → r < size → Dr cs (n + 1) ds' → R (.int r) [.io ds', .no]
def S_law_made (A : Ad) : WF := fun ps R _ => ∃ p w : Int, ps = [.va (.int p), .va (.int w)] ∧ p.natAbs ≤ 10 ^ 121 ∧ w.natAbs ≤ 10 ^ 121 ∧ R (.bool true) [.no, .no]
def S_law_wide (A : Ad) : WF := fun ps R _ => ∃ (cs : List Int) (n size : Int) (ds : List D), ps = [.io ds, .va (.int size)] ∧ Cs cs ∧ Dr cs n ds ∧ n < 2 ^ 38 ∧ 0 < size ∧ size ≤ 10 ^ 100 ∧
  ∀ (r : Int) (ds' : List D), 0 ≤ r → r < size → Dr cs (n + 4) ds' → R (.int r) [.io ds', .no]
/-- a fraction in lowest words, as the program means it -/
def Fr (p w : Int) : Prop := p.natAbs ≤ 10 ^ 60 ∧ 1 ≤ w ∧ w ≤ 10 ^ 60 ∧ Nat.gcd p.natAbs w.natAbs = 1
def S_law_through (A : Ad) : WF := fun ps R _ => ∃ a b c d : Int, ps = [.va (fr a b), .va (fr c d)] ∧ Fr a b ∧ Fr c d ∧ R (.bool true) [.no, .no]
def S_law_kinds (A : Ad) : WF := fun ps R _ => ∃ a b : Int, ps = [.va (fr a b)] ∧ Fr a b ∧ R (.bool true) [.no]
def S_law_number (A : Ad) : WF := fun ps R _ => ∃ (cs : List Int) (n : Int) (ds : List D), ps = [.io ds] ∧ Cs cs ∧ Dr cs n ds ∧ n < 2 ^ 37 ∧
  ∀ (r : Int) (ds' : List D), r.natAbs ≤ 10 ^ 60 → Dr cs (n + 7) ds' → R (.int r) [.io ds']
def S_law_sums (A : Ad) : WF := fun ps R _ => ∃ a b c d : Int, ps = [.va (fr a b), .va (fr c d)] ∧ Fr a b ∧ Fr c d ∧ R (.bool true) [.no, .no]
def Slaw (A : Ad) : WF := SLaw
end Lw

namespace Lw
open PySem L2 Den Evl PySem.Spec PyProof.Rows
def wis_number (A : Ad) : WS := wRet (wAndV (wIsi "int" (wN 0)) (wAndV (wNotV (wIsi "bool" (wN 0))) (wChain fLe fLe (wN 1) (wN 0) (wN 2))))
def wmade (A : Ad) : WS := wSeq (wIfS (wTb (wOp fEq (wN 1) (wL (wC (.int 0))))) (wRaise A.cOutOfRange) (wNext)) (wSeq (wSet 2 (wIf (wTb (wOp fGt (wN 1) (wL (wC (.int 0))))) (wB2 fGcd (wN 0) (wN 1)) (wUn fNeg (wL (wB2 fGcd (wN 0) (wN 1)))))) (wRet (wTup (waCons (wOp fDiv (wN 0) (wN 2)) (waCons (wOp fDiv (wN 1) (wN 2)) (waNil))))))
def wless (A : Ad) : WS := wRet (wOp fLt (wL (wOp fMul (wL (wOp fIx (wN 0) (wL (wC (.int 0))))) (wL (wOp fIx (wN 1) (wL (wC (.int 1))))))) (wL (wOp fMul (wL (wOp fIx (wN 1) (wL (wC (.int 0))))) (wL (wOp fIx (wN 0) (wL (wC (.int 1))))))))
def w_law_open (A : Ad) : WS := wSeq (wSet 1 (wFE (wLc [2] (wiA (wFE (wSlL (wN 0) (wpNo) (wpAt (wC (.int 63)))))) (wgName 2) (wYes) (wB1 fAbs (wL (wB1 fInt (wN 2))))))) (wRetF (waCons (wC (.int 0)) (waCons (wC (.int 0)) (waCons (wOp fAdd (wN 1) (wL (wFE (waCons (wC (.int 0)) (waNil))))) (waNil)))))
def w_law_mixed (A : Ad) : WS := wSeq (wSet 2 (wOp fMod (wL (wOp fAdd (wL (wOp fAdd (wL (wOp fMul (wL (wOp fMod (wN 0) (wL (wOp fSub (wL (wOp fPow (wL (wC (.int 2))) (wL (wC (.int 61))))) (wL (wC (.int 1))))))) (wL (wC (.int 2685821657736338717))))) (wL (wOp fMul (wN 1) (wL (wC (.int 1181783497276652981))))))) (wL (wC (.int 41))))) (wL (wOp fPow (wL (wC (.int 2))) (wL (wC (.int 61))))))) (wSeq (wSet 2 (wOp fMod (wL (wOp fMul (wL (wOp fBxor (wN 2) (wL (wOp fShr (wN 2) (wL (wC (.int 30))))))) (wL (wC (.int 4417276706812531889))))) (wL (wOp fPow (wL (wC (.int 2))) (wL (wC (.int 61))))))) (wRet (wOp fMod (wL (wOp fMul (wL (wOp fBxor (wN 2) (wL (wOp fShr (wN 2) (wL (wC (.int 29))))))) (wL (wC (.int 1865811235122147685))))) (wL (wOp fPow (wL (wC (.int 2))) (wL (wC (.int 61))))))))
def w_law_told (a : Addr) (bOutOfRange bMalformed bNotThere bRefused bTooMuch bLotError : Bool) : WS := wSeq (wSet 1 (wFE (waCons (wTup (waCons (wC (.str "OutOfRange")) (waCons (wIsX 0 a bOutOfRange) (waNil)))) (waCons (wTup (waCons (wC (.str "Malformed")) (waCons (wIsX 0 a bMalformed) (waNil)))) (waCons (wTup (waCons (wC (.str "NotThere")) (waCons (wIsX 0 a bNotThere) (waNil)))) (waCons (wTup (waCons (wC (.str "Refused")) (waCons (wIsX 0 a bRefused) (waNil)))) (waCons (wTup (waCons (wC (.str "TooMuch")) (waCons (wIsX 0 a bTooMuch) (waNil)))) (waNil)))))))) (wSeq (wSet 2 (wFE (wLc [3, 4] (wiL (wV 1)) (wgTup [3, 4]) (wTb (wV 4)) (wV 3)))) (wSeq (wIfS (wOr (wTb (wOp fNe (wL (wB1 fLen (wN 2))) (wL (wC (.int 1))))) (wNot (wTb (wIsX 0 a bLotError)))) (wRet (wC (.str "several"))) (wNext)) (wRet (wOp fIx (wN 2) (wL (wC (.int 0)))))))
def w_law_lowest (A : Ad) : WS := wSeq (wSet 2 (wB1 fAbs (wN 0))) (wSeq (wSet 3 (wB1 fAbs (wN 1))) (wSeq (wFor (wiR1 (waCons (wC (.int 1000)) (waNil))) (wgName 4) (wSeq (wIfS (wTb (wOp fEq (wN 3) (wL (wC (.int 0))))) (wBreak) (wNext)) (wSeq (wSet 6 (wOp fMod (wN 2) (wN 3))) (wSeq (wSet 2 (wV 3)) (wSet 3 (wV 6)))))) (wSeq (wSet 5 (wIf (wTb (wOp fLt (wN 1) (wL (wC (.int 0))))) (wUn fNeg (wL (wC (.int 1)))) (wC (.int 1)))) (wRet (wTup (waCons (wOp fDiv (wL (wOp fMul (wN 5) (wN 0))) (wN 2)) (waCons (wOp fDiv (wL (wOp fMul (wN 5) (wN 1))) (wN 2)) (waNil))))))))
def w_law_is (A : Ad) : WS := wSeq (wIfS (wOr (wNot (wTb (wIsi "tuple" (wN 0)))) (wTb (wOp fNe (wL (wB1 fLen (wN 0))) (wL (wC (.int 2)))))) (wRet (wC (.bool false))) (wNext)) (wSeq (wFor (wiA (wV 0)) (wgName 2) (wIfS (wOr (wNot (wTb (wIsi "int" (wN 2)))) (wTb (wIsi "bool" (wN 2)))) (wRet (wC (.bool false))) (wNext))) (wRet (wAndV (wOp fEq (wL (wOp fIx (wN 0) (wL (wC (.int 0))))) (wL (wOp fIx (wN 1) (wL (wC (.int 0)))))) (wOp fEq (wL (wOp fIx (wN 0) (wL (wC (.int 1))))) (wL (wOp fIx (wN 1) (wL (wC (.int 1)))))))))
def wis_fraction (A : Ad) : WS := wSeq (wIfS (wOr (wNot (wTb (wIsi "tuple" (wN 0)))) (wTb (wOp fNe (wL (wB1 fLen (wN 0))) (wL (wC (.int 2)))))) (wRet (wC (.bool false))) (wNext)) (wSeq (wUnpT [1, 2] (wN 0)) (wRet (wAndV (wCall (Sis_number A) (wmV (wV 1) (wmV (wUn fNeg (wL (wC (.int 1000000000000000000000000000000000000000000000000000000000000)))) (wmV (wC (.int 1000000000000000000000000000000000000000000000000000000000000)) (wmNil))))) (wAndV (wCall (Sis_number A) (wmV (wV 2) (wmV (wC (.int 1)) (wmV (wC (.int 1000000000000000000000000000000000000000000000000000000000000)) (wmNil))))) (wOp fEq (wL (wB2 fGcd (wN 1) (wN 2))) (wL (wC (.int 1))))))))
def wplus (A : Ad) : WS := wRet (wCall (Smade A) (wmV (wOp fAdd (wL (wOp fMul (wL (wOp fIx (wN 0) (wL (wC (.int 0))))) (wL (wOp fIx (wN 1) (wL (wC (.int 1))))))) (wL (wOp fMul (wL (wOp fIx (wN 1) (wL (wC (.int 0))))) (wL (wOp fIx (wN 0) (wL (wC (.int 1)))))))) (wmV (wOp fMul (wL (wOp fIx (wN 0) (wL (wC (.int 1))))) (wL (wOp fIx (wN 1) (wL (wC (.int 1)))))) (wmNil))))
def wminus (A : Ad) : WS := wRet (wCall (Smade A) (wmV (wOp fSub (wL (wOp fMul (wL (wOp fIx (wN 0) (wL (wC (.int 0))))) (wL (wOp fIx (wN 1) (wL (wC (.int 1))))))) (wL (wOp fMul (wL (wOp fIx (wN 1) (wL (wC (.int 0))))) (wL (wOp fIx (wN 0) (wL (wC (.int 1)))))))) (wmV (wOp fMul (wL (wOp fIx (wN 0) (wL (wC (.int 1))))) (wL (wOp fIx (wN 1) (wL (wC (.int 1)))))) (wmNil))))
def wtimes (A : Ad) : WS := wRet (wCall (Smade A) (wmV (wOp fMul (wL (wOp fIx (wN 0) (wL (wC (.int 0))))) (wL (wOp fIx (wN 1) (wL (wC (.int 0)))))) (wmV (wOp fMul (wL (wOp fIx (wN 0) (wL (wC (.int 1))))) (wL (wOp fIx (wN 1) (wL (wC (.int 1)))))) (wmNil))))
def wthrough (A : Ad) : WS := wRet (wCall (Smade A) (wmV (wOp fMul (wL (wOp fIx (wN 0) (wL (wC (.int 0))))) (wL (wOp fIx (wN 1) (wL (wC (.int 1)))))) (wmV (wOp fMul (wL (wOp fIx (wN 0) (wL (wC (.int 1))))) (wL (wOp fIx (wN 1) (wL (wC (.int 0)))))) (wmNil))))
def w_law_draw (A : Ad) : WS := wSeq (wUnp [2, 3, 4] (wN 0)) (wSeq (wIfS (wTb (wOp fLt (wN 3) (wN 1))) (wSeq (wSet 5 (wOp fIx (wN 4) (wL (wOp fMod (wN 2) (wL (wB1 fLen (wN 4))))))) (wSeq (wSet 3 (wIf (wAnd (wTb (wOp fLt (wN 2) (wL (wB1 fLen (wN 4))))) (wTb (wOp fGe (wN 5) (wL (wOp fPow (wL (wC (.int 10))) (wL (wC (.int 18)))))))) (wV 5) (wCall (S_law_mixed A) (wmV (wV 5) (wmV (wV 2) (wmNil)))))) (wSet 2 (wOp fAdd (wN 2) (wL (wC (.int 1))))))) (wNext)) (wSeq (wPut 0 (wV 2) (wL (wC (.int 0)))) (wSeq (wPut 0 (wOp fDiv (wN 3) (wN 1)) (wL (wC (.int 1)))) (wRet (wOp fMod (wN 3) (wN 1))))))
def w_law_made (A : Ad) : WS := wSeq (wTry (catOf (nm A)) 2 (wSet 3 (wCall (Smade A) (wmV (wV 0) (wmV (wV 1) (wmNil))))) (wSuite (nm A) fun a t => wRet (wAndV (wOp fEq (wN 1) (wL (wC (.int 0)))) (wOp fEq (wL (wTold 2 a t)) (wL (wC (.str "OutOfRange"))))))) (wRet (wAndV (wOp fNe (wN 1) (wL (wC (.int 0)))) (wCall (S_law_is A) (wmV (wV 3) (wmV (wCall (S_law_lowest A) (wmV (wV 0) (wmV (wV 1) (wmNil)))) (wmNil))))))
def w_law_wide (A : Ad) : WS := wSeq (wSet 2 (wC (.int 0))) (wSeq (wFor (wiR1 (waCons (wC (.int 4)) (waNil))) (wgName 3) (wSet 2 (wOp fAdd (wL (wOp fMul (wN 2) (wL (wOp fPow (wL (wC (.int 10))) (wL (wC (.int 18))))))) (wL (wCall (S_law_draw A) (wmIo 0 (wmV (wOp fPow (wL (wC (.int 10))) (wL (wC (.int 18)))) (wmNil)))))))) (wRet (wOp fMod (wN 2) (wN 1))))
def w_law_through (A : Ad) : WS := wSeq (wTry (catOf (nm A)) 2 (wSet 3 (wCall (Sthrough A) (wmV (wV 0) (wmV (wV 1) (wmNil))))) (wSuite (nm A) fun a t => wRet (wAndV (wOp fEq (wL (wOp fIx (wN 1) (wL (wC (.int 0))))) (wL (wC (.int 0)))) (wOp fEq (wL (wTold 2 a t)) (wL (wC (.str "OutOfRange"))))))) (wRet (wAndV (wOp fNe (wL (wOp fIx (wN 1) (wL (wC (.int 0))))) (wL (wC (.int 0)))) (wCall (S_law_is A) (wmV (wV 3) (wmV (wCall (S_law_lowest A) (wmV (wOp fMul (wL (wOp fIx (wN 0) (wL (wC (.int 0))))) (wL (wOp fIx (wN 1) (wL (wC (.int 1)))))) (wmV (wOp fMul (wL (wOp fIx (wN 0) (wL (wC (.int 1))))) (wL (wOp fIx (wN 1) (wL (wC (.int 0)))))) (wmNil)))) (wmNil))))))
def w_law_kinds (A : Ad) : WS := wSeq (wUnpT [3, 4] (wN 0)) (wSeq (wSet 1 (wFE (waCons (wTup (waCons (wOp fMul (wL (wC (.int 2))) (wN 3)) (waCons (wOp fMul (wL (wC (.int 2))) (wN 4)) (waNil)))) (waCons (wTup (waCons (wV 3) (waCons (wUn fNeg (wN 4)) (waNil)))) (waCons (wTup (waCons (wV 3) (waCons (wC (.int 0)) (waNil)))) (waCons (wFE (waCons (wV 3) (waCons (wV 4) (waNil)))) (waCons (wTup (waCons (wV 3) (waNil))) (waCons (wTup (waCons (wV 3) (waCons (wV 4) (waCons (wC (.int 1)) (waNil))))) (waCons (wV 3) (waCons (wC .none) (waCons (wTup (waCons (wC (.bool true)) (waCons (wV 4) (waNil)))) (waCons (wTup (waCons (wV 3) (waCons (wC (.bool true)) (waNil)))) (waCons (wTup (waCons (wOp fAdd (wL (wOp fPow (wL (wC (.int 10))) (wL (wC (.int 60))))) (wL (wC (.int 1)))) (waCons (wC (.int 1)) (waNil)))) (waCons (wTup (waCons (wOp fSub (wL (wUn fNeg (wL (wOp fPow (wL (wC (.int 10))) (wL (wC (.int 60))))))) (wL (wC (.int 1)))) (waCons (wC (.int 1)) (waNil)))) (waCons (wTup (waCons (wC (.int 1)) (waCons (wOp fAdd (wL (wOp fPow (wL (wC (.int 10))) (wL (wC (.int 60))))) (wL (wC (.int 1)))) (waNil)))) (waCons (wTup (waCons (wC (.str "1")) (waCons (wC (.int 2)) (waNil)))) (waCons (wC (.str "1/2")) (waNil)))))))))))))))))) (wSeq (wFor (wiA (wV 1)) (wgName 2) (wIfS (wTb (wOp fNotB (wL (wCall (Sis_fraction A) (wmV (wV 2) (wmNil)))) (wL (wC (.bool false))))) (wRet (wC (.bool false))) (wNext))) (wRet (wAndV (wOp fIsB (wL (wCall (Sis_fraction A) (wmV (wTup (waCons (wOp fPow (wL (wC (.int 10))) (wL (wC (.int 60)))) (waCons (wC (.int 1)) (waNil)))) (wmNil)))) (wL (wC (.bool true)))) (wOp fIsB (wL (wCall (Sis_fraction A) (wmV (wTup (waCons (wUn fNeg (wL (wC (.int 1)))) (waCons (wOp fPow (wL (wC (.int 10))) (wL (wC (.int 60)))) (waNil)))) (wmNil)))) (wL (wC (.bool true))))))))
def w_law_number (A : Ad) : WS := wSeq (wSet 1 (wCall (S_law_draw A) (wmIo 0 (wmV (wC (.int 4)) (wmNil))))) (wSeq (wSet 2 (wOp fIx (wL (wFE (waCons (wC (.int 7)) (waCons (wC (.int 7)) (waCons (wOp fPow (wL (wC (.int 10))) (wL (wC (.int 6)))) (waCons (wOp fPow (wL (wC (.int 10))) (wL (wC (.int 60)))) (waNil))))))) (wN 1))) (wSeq (wSet 3 (wIf (wTb (wOp fEq (wN 1) (wL (wC (.int 3))))) (wCall (S_law_wide A) (wmIo 0 (wmV (wV 2) (wmNil)))) (wCall (S_law_draw A) (wmIo 0 (wmV (wV 2) (wmNil)))))) (wSeq (wIfS (wAnd (wTb (wOp fEq (wN 1) (wL (wC (.int 3))))) (wTb (wOp fEq (wL (wCall (S_law_draw A) (wmIo 0 (wmV (wC (.int 3)) (wmNil))))) (wL (wC (.int 0)))))) (wSet 3 (wOp fSub (wL (wOp fPow (wL (wC (.int 10))) (wL (wC (.int 60))))) (wL (wOp fMod (wN 3) (wL (wC (.int 5))))))) (wNext)) (wRet (wIf (wTb (wOp fEq (wL (wCall (S_law_draw A) (wmIo 0 (wmV (wC (.int 2)) (wmNil))))) (wL (wC (.int 1))))) (wUn fNeg (wN 3)) (wV 3))))))
def w_law_sums (A : Ad) : WS := wSeq (wUnpT [3, 4] (wN 0)) (wSeq (wUnpT [5, 6] (wN 1)) (wSeq (wIfS (wNot (wTb (wCall (S_law_is A) (wmV (wCall (Splus A) (wmV (wV 0) (wmV (wV 1) (wmNil)))) (wmV (wCall (S_law_lowest A) (wmV (wOp fAdd (wL (wOp fMul (wN 3) (wN 6))) (wL (wOp fMul (wN 5) (wN 4)))) (wmV (wOp fMul (wN 4) (wN 6)) (wmNil)))) (wmNil)))))) (wRet (wC (.bool false))) (wNext)) (wSeq (wIfS (wNot (wTb (wCall (S_law_is A) (wmV (wCall (Sminus A) (wmV (wV 0) (wmV (wV 1) (wmNil)))) (wmV (wCall (S_law_lowest A) (wmV (wOp fSub (wL (wOp fMul (wN 3) (wN 6))) (wL (wOp fMul (wN 5) (wN 4)))) (wmV (wOp fMul (wN 4) (wN 6)) (wmNil)))) (wmNil)))))) (wRet (wC (.bool false))) (wNext)) (wSeq (wIfS (wNot (wTb (wCall (S_law_is A) (wmV (wCall (Stimes A) (wmV (wV 0) (wmV (wV 1) (wmNil)))) (wmV (wCall (S_law_lowest A) (wmV (wOp fMul (wN 3) (wN 5)) (wmV (wOp fMul (wN 4) (wN 6)) (wmNil)))) (wmNil)))))) (wRet (wC (.bool false))) (wNext)) (wSeq (wSet 2 (wCall (Sless A) (wmV (wV 0) (wmV (wV 1) (wmNil))))) (wSeq (wIfS (wOr (wAnd (wTb (wOp fLt (wL (wOp fMul (wN 3) (wN 6))) (wL (wOp fMul (wN 5) (wN 4))))) (wTb (wOp fNotB (wN 2) (wL (wC (.bool true)))))) (wAnd (wTb (wOp fGe (wL (wOp fMul (wN 3) (wN 6))) (wL (wOp fMul (wN 5) (wN 4))))) (wTb (wOp fNotB (wN 2) (wL (wC (.bool false))))))) (wRet (wC (.bool false))) (wNext)) (wRet (wCall (S_law_through A) (wmV (wV 0) (wmV (wV 1) (wmNil)))))))))))
def wlaw (A : Ad) : WS := wSeq (wSetO 1 (wCallF (S_law_open A) (wmV (wV 0) (wmNil)))) (wSeq (wFor (wiR1 (waCons (wOp fAdd (wL (wC (.int 1))) (wL (wCall (S_law_draw A) (wmIo 1 (wmV (wC (.int 3)) (wmNil)))))) (waNil))) (wgName 2) (wSeq (wSetO 3 (waNil)) (wSeq (wFor (wiR1 (waCons (wC (.int 2)) (waNil))) (wgName 4) (wSeq (wSet 6 (wCall (S_law_number A) (wmIo 1 (wmNil)))) (wSeq (wSet 7 (wCall (S_law_number A) (wmIo 1 (wmNil)))) (wSeq (wIfS (wNot (wTb (wCall (S_law_made A) (wmV (wV 6) (wmV (wV 7) (wmNil)))))) (wRet (wC (.bool false))) (wNext)) (wSeq (wIfS (wTb (wOp fEq (wN 7) (wL (wC (.int 0))))) (wSet 7 (wC (.int 1))) (wNext)) (wApp 3 (wCall (S_law_lowest A) (wmV (wV 6) (wmV (wV 7) (wmNil)))))))))) (wSeq (wIfS (wTb (wOp fEq (wL (wCall (S_law_draw A) (wmIo 1 (wmV (wC (.int 5)) (wmNil))))) (wL (wC (.int 0))))) (wPut 3 (wOp fIx (wN 3) (wL (wC (.int 0)))) (wL (wC (.int 1)))) (wNext)) (wSeq (wFor (wiA (wV 3)) (wgName 5) (wIfS (wOr (wTb (wOp fNotB (wL (wCall (Sis_fraction A) (wmV (wV 5) (wmNil)))) (wL (wC (.bool true))))) (wNot (wTb (wCall (S_law_kinds A) (wmV (wV 5) (wmNil)))))) (wRet (wC (.bool false))) (wNext))) (wIfS (wOr (wNot (wTb (wCall (S_law_sums A) (wmV (wOp fIx (wN 3) (wL (wC (.int 0)))) (wmV (wOp fIx (wN 3) (wL (wC (.int 1)))) (wmNil)))))) (wOr (wNot (wTb (wCall (S_law_sums A) (wmV (wOp fIx (wN 3) (wL (wC (.int 1)))) (wmV (wOp fIx (wN 3) (wL (wC (.int 0)))) (wmNil)))))) (wNot (wTb (wCall (S_law_sums A) (wmV (wOp fIx (wN 3) (wL (wC (.int 0)))) (wmV (wTup (waCons (wC (.int 0)) (waCons (wC (.int 1)) (waNil)))) (wmNil)))))))) (wRet (wC (.bool false))) (wNext))))))) (wRet (wC (.bool true))))
section
variable {P : Program} {w : World} {K : PySem.W.Frag} {mg : Str → Option Value} {base : Heap} {A : Ad}
theorem denis_number (T : Txt K mg A) 
    (cdv : Value) (Ar : Around) (outer : List Env) (s : Shared) (H : Hp) (E : XK) (hr : Room 0 (Ar.deeper (envOfC "is_number" (defScope sis_number) s.heap.objs.size A.fis_number cdv))) :
    PSs (cxOf (L2N.CX P w) P w K mg base Nis_number "is_number" (defScope sis_number) A.fis_number cdv Ar outer s H E) (defBody sis_number) (cS K (fun cls d _ H => E cls d H) (wis_number A)) := by
  have nd := scis_number.nd
  exact dsOne (dRet (ps_ret (dAndV (dIsi (fun _ _ ha hb => pe_callB call_isi rfl T.b_isinstance (by decide +kernel) (pa_cons ha (pa_cons hb pa_nil))) (dN (pv 0)) (pe_bltn (v := .ty "int") rfl T.b_int (by decide +kernel) rfl) kit_int) (dAndV (dNotV (dIsi (fun _ _ ha hb => pe_callB call_isi rfl T.b_isinstance (by decide +kernel) (pa_cons ha (pa_cons hb pa_nil))) (dN (pv 0)) (pe_bltn (v := .ty "bool") rfl T.b_bool (by decide +kernel) rfl) kit_bool)) (pe_one (dChain op_le op_le sr_le sr_le (dN (pv 1)) (dN (pv 0)) (dN (pv 2))))))))
theorem denmade (T : Txt K mg A) 
    (cdv : Value) (Ar : Around) (outer : List Env) (s : Shared) (H : Hp) (E : XK) (hr : Room 0 (Ar.deeper (envOfC "made" (defScope smade) s.heap.objs.size A.fmade cdv))) :
    PSs (cxOf (L2N.CX P w) P w K mg base Nmade "made" (defScope smade) A.fmade cdv Ar outer s H E) (defBody smade) (cS K (fun cls d _ H => E cls d H) (wmade A)) := by
  have nd := scmade.nd
  have tk : L2N.Takes (cxOf (L2N.CX P w) P w K mg base Nmade "made" (defScope smade) A.fmade cdv Ar outer s H E) (fun cls d _ H => E cls d H) := L2N.takes_of rfl rfl rfl rfl
  exact dsCons (dIfS (ps_if (dTc (op_eqA hr.units) sr_eq (dN (pv 1)) (dl (dI)) (nomark _)) (dsOne (dRaise (L2N.ps_raise rfl tk (L2N.pmk_own PySem.F.excBase_ValueError T.xOutOfRange T.cOutOfRange T.qOutOfRange (raises_own T.uOutOfRange T.tOutOfRange) rfl)))) (dsNil))) (dsCons (dSet (ps_set (i := 2) nd rfl (by first | exact Or.inl rfl | exact Or.inr rfl) (dIf (dTc op_gt sr_gt (dN (pv 1)) (dl (dI)) (nomark _)) (dB2 (fun _ _ ha hb => pe_callBfun cr_gcd rfl T.g_gcd (pa_cons ha (pa_cons hb pa_nil))) sr_gcd (dN (pv 0)) (dN (pv 1))) (dUn un_neg su_neg (dl (dB2 (fun _ _ ha hb => pe_callBfun cr_gcd rfl T.g_gcd (pa_cons ha (pa_cons hb pa_nil))) sr_gcd (dN (pv 0)) (dN (pv 1)))))))) (dsOne (dRet (ps_ret (dTup (daCons (dOp op_fdivA sr_div (dN (pv 0)) (dN (pv 2))) (daCons (dOp op_fdivA sr_div (dN (pv 1)) (dN (pv 2))) (daNil))))))))
theorem denless (T : Txt K mg A) 
    (cdv : Value) (Ar : Around) (outer : List Env) (s : Shared) (H : Hp) (E : XK) (hr : Room 0 (Ar.deeper (envOfC "less" (defScope sless) s.heap.objs.size A.fless cdv))) :
    PSs (cxOf (L2N.CX P w) P w K mg base Nless "less" (defScope sless) A.fless cdv Ar outer s H E) (defBody sless) (cS K (fun cls d _ H => E cls d H) (wless A)) := by
  have nd := scless.nd
  exact dsOne (dRet (ps_ret (dCmp op_lt sr_lt (dl (dOp op_mulX sr_mul (dl (dIx ix_seq sr_ix (dN (pv 0)) (dl (dI)) (fun _ _ => rfl))) (dl (dIx ix_seq sr_ix (dN (pv 1)) (dl (dI)) (fun _ _ => rfl))))) (dl (dOp op_mulX sr_mul (dl (dIx ix_seq sr_ix (dN (pv 1)) (dl (dI)) (fun _ _ => rfl))) (dl (dIx ix_seq sr_ix (dN (pv 0)) (dl (dI)) (fun _ _ => rfl))))) (nomark _))))
theorem den_law_open (T : Txt K mg A) 
    (cdv : Value) (Ar : Around) (outer : List Env) (s : Shared) (H : Hp) (E : XK) (hr : Room 0 (Ar.deeper (envOfC "_law_open" (defScope s_law_open) s.heap.objs.size A.f_law_open cdv))) :
    PSs (cxOf (L2N.CX P w) P w K mg base N_law_open "_law_open" (defScope s_law_open) A.f_law_open cdv Ar outer s H E) (defBody s_law_open) (cS K (fun cls d _ H => E cls d H) (w_law_open A)) := by
  have nd := sc_law_open.nd
  exact dsCons (dSet (dLcSE (ps_setLc (i := 1) (own := [("cell", 2)]) rfl nd rfl rfl (sw_true rfl rfl rfl (by decide +kernel)) (diA (pi_lt (dFE (dSlL (dN (pv 0)) (dpNo) (dpAt (dI)))))) (blkOk_by (N := N_law_open) (sc := defScope s_law_open) (own := [("cell", 2)]) (by decide +kernel)) (fun _ _ _ _ _ => dgvName (pg_name (i := 2) nd rfl (Or.inl rfl)) (by decide)) (fun _ _ _ _ _ => dYes) (fun _ _ _ _ _ => dB1 (fun _ ha => pe_callB call_abs rfl T.b_abs (by decide +kernel) (pa_cons ha pa_nil)) su_abs (dl (dB1 (fun _ ha => pe_callTy call_int1 rfl T.b_int (by decide +kernel) (pa_cons ha pa_nil)) su_int (dN (pv 2)))))))) (dsOne (dRetF (ps_ret (dLst (daCons (dI) (daCons (dI) (daCons (dOp op_addA sr_add (dN (pv 1)) (dl (dFE (dLst (daCons (dI) (daNil)))))) (daNil))))))))
theorem den_law_mixed (T : Txt K mg A) 
    (cdv : Value) (Ar : Around) (outer : List Env) (s : Shared) (H : Hp) (E : XK) (hr : Room 0 (Ar.deeper (envOfC "_law_mixed" (defScope s_law_mixed) s.heap.objs.size A.f_law_mixed cdv))) :
    PSs (cxOf (L2N.CX P w) P w K mg base N_law_mixed "_law_mixed" (defScope s_law_mixed) A.f_law_mixed cdv Ar outer s H E) (defBody s_law_mixed) (cS K (fun cls d _ H => E cls d H) (w_law_mixed A)) := by
  have nd := sc_law_mixed.nd
  exact dsCons (dSet (ps_set (i := 2) nd rfl (by first | exact Or.inl rfl | exact Or.inr rfl) (dOp op_modN sr_mod (dl (dOp op_addA sr_add (dl (dOp op_addA sr_add (dl (dOp op_mulX sr_mul (dl (dOp op_modN sr_mod (dN (pv 0)) (dl (dOp op_sub sr_sub (dl (dOp op_pow sr_pow (dl (dI)) (dl (dI)))) (dl (dI)))))) (dl (dI)))) (dl (dOp op_mulX sr_mul (dN (pv 1)) (dl (dI)))))) (dl (dI)))) (dl (dOp op_pow sr_pow (dl (dI)) (dl (dI))))))) (dsCons (dSet (ps_set (i := 2) nd rfl (by first | exact Or.inl rfl | exact Or.inr rfl) (dOp op_modN sr_mod (dl (dOp op_mulX sr_mul (dl (dOp op_xor sr_bxor (dN (pv 2)) (dl (dOp op_shr sr_shr (dN (pv 2)) (dl (dI)))))) (dl (dI)))) (dl (dOp op_pow sr_pow (dl (dI)) (dl (dI))))))) (dsOne (dRet (ps_ret (dOp op_modN sr_mod (dl (dOp op_mulX sr_mul (dl (dOp op_xor sr_bxor (dN (pv 2)) (dl (dOp op_shr sr_shr (dN (pv 2)) (dl (dI)))))) (dl (dI)))) (dl (dOp op_pow sr_pow (dl (dI)) (dl (dI)))))))))
theorem den_law_told (T : Txt K mg A) {D : Addr} {bOutOfRange bMalformed bNotThere bRefused bTooMuch bLotError : Bool} (hX : ExcC K D) (hkOutOfRange : PySem.W.kitOne K (.ref D) (.ref A.cOutOfRange) = some bOutOfRange) (hkMalformed : PySem.W.kitOne K (.ref D) (.ref A.cMalformed) = some bMalformed) (hkNotThere : PySem.W.kitOne K (.ref D) (.ref A.cNotThere) = some bNotThere) (hkRefused : PySem.W.kitOne K (.ref D) (.ref A.cRefused) = some bRefused) (hkTooMuch : PySem.W.kitOne K (.ref D) (.ref A.cTooMuch) = some bTooMuch) (hkLotError : PySem.W.kitOne K (.ref D) (.ref A.cLotError) = some bLotError)
    (cdv : Value) (Ar : Around) (outer : List Env) (s : Shared) (H : Hp) (p : Addr × Obj) (ho : L2H.Hot1 Ar p) (hr0 : L2H.RoomH 0 (Ar.deeper (envOfC "_law_told" (defScope s_law_told) s.heap.objs.size A.f_law_told cdv))) (hz : L2N.Zn (.ref D) none p.2) :
    PSs (cxT P w K mg base N_law_told "_law_told" (defScope s_law_told) A.f_law_told cdv Ar outer s H p) (defBody s_law_told) (cS K WNo (w_law_told p.1 bOutOfRange bMalformed bNotThere bRefused bTooMuch bLotError)) := by
  obtain ⟨a, oe⟩ := p
  have hot : L2H.HotC (cxT P w K mg base N_law_told "_law_told" (defScope s_law_told) A.f_law_told cdv Ar outer s H (a, oe)) := ⟨(a, oe), ho, List.mem_cons_self⟩
  have hzf : ∃ vs, oe.data = .fields vs := by obtain ⟨_, vs, e, _⟩ := ho; exact ⟨vs, e⟩
  have hu : (Ar.deeper (envOfC "_law_told" (defScope s_law_told) s.heap.objs.size A.f_law_told cdv)).units + 64 < cLine := by have := hr0.un; omega
  have nd := sc_law_told.nd
  exact dsCons (dSet (ps_set (i := 1) nd rfl (by first | exact Or.inl rfl | exact Or.inr rfl) (dFE (dLst (daCons (dTup (daCons (dX) (daCons (dIsX (pe_callB (call_isP hX (by exact List.mem_cons_self) hz.zc hzf) rfl T.b_isinstance (by decide +kernel) (pa_cons (pv 0) (pa_cons (pe_glob (v := .ref A.cOutOfRange) rfl T.cOutOfRange rfl) pa_nil))) (fun u r => r) hkOutOfRange) (daNil)))) (daCons (dTup (daCons (dX) (daCons (dIsX (pe_callB (call_isP hX (by exact List.mem_cons_self) hz.zc hzf) rfl T.b_isinstance (by decide +kernel) (pa_cons (pv 0) (pa_cons (pe_glob (v := .ref A.cMalformed) rfl T.cMalformed rfl) pa_nil))) (fun u r => r) hkMalformed) (daNil)))) (daCons (dTup (daCons (dX) (daCons (dIsX (pe_callB (call_isP hX (by exact List.mem_cons_self) hz.zc hzf) rfl T.b_isinstance (by decide +kernel) (pa_cons (pv 0) (pa_cons (pe_glob (v := .ref A.cNotThere) rfl T.cNotThere rfl) pa_nil))) (fun u r => r) hkNotThere) (daNil)))) (daCons (dTup (daCons (dX) (daCons (dIsX (pe_callB (call_isP hX (by exact List.mem_cons_self) hz.zc hzf) rfl T.b_isinstance (by decide +kernel) (pa_cons (pv 0) (pa_cons (pe_glob (v := .ref A.cRefused) rfl T.cRefused rfl) pa_nil))) (fun u r => r) hkRefused) (daNil)))) (daCons (dTup (daCons (dX) (daCons (dIsX (pe_callB (call_isP hX (by exact List.mem_cons_self) hz.zc hzf) rfl T.b_isinstance (by decide +kernel) (pa_cons (pv 0) (pa_cons (pe_glob (v := .ref A.cTooMuch) rfl T.cTooMuch rfl) pa_nil))) (fun u r => r) hkTooMuch) (daNil)))) (daNil)))))))))) (dsCons (dSet (dLcSE (ps_setLcS (i := 2) (own := [("name", 3), ("true", 4)]) hot nd rfl rfl (sw_true rfl rfl rfl (by decide +kernel)) (diLS (pi_listS (dV (pv 1)))) (blkOk_by (N := N_law_told) (sc := defScope s_law_told) (own := [("name", 3), ("true", 4)]) (by decide +kernel)) (fun _ _ _ _ _ hhot => dgvTup (is := [3, 4]) (pg_tupH hhot (pgs_cons (pg_name (i := 3) nd rfl (Or.inl rfl)) (pgs_cons (pg_name (i := 4) nd rfl (Or.inl rfl)) (pgs_nil)))) (by decide)) (fun _ _ _ _ _ => pts_one (dTv (dV (pv 4)))) (fun _ _ _ _ _ => dV (pv 3))))) (dsCons (dIfS (ps_if (PW.pt (dOr (dTc (op_neA hu) sr_ne (dl (dB1 (fun _ ha => pe_callB call_len rfl T.b_len (by decide +kernel) (pa_cons ha pa_nil)) su_len (dN (pv 2)))) (dl (dI)) (nomark _)) (pw_or1 (dNot (dTv (dIsX (pe_callB (call_isP hX (by exact List.mem_cons_self) hz.zc hzf) rfl T.b_isinstance (by decide +kernel) (pa_cons (pv 0) (pa_cons (pe_glob (v := .ref A.cLotError) rfl T.cLotError rfl) pa_nil))) (fun u r => r) hkLotError)))))) (dsOne (dRet (ps_ret (dX)))) (dsNil))) (dsOne (dRet (ps_ret (dIx ix_seq sr_ix (dN (pv 2)) (dl (dI)) (fun _ _ => rfl)))))))
theorem den_law_lowest (T : Txt K mg A) 
    (cdv : Value) (Ar : Around) (outer : List Env) (s : Shared) (H : Hp) (E : XK) (hr : Room 0 (Ar.deeper (envOfC "_law_lowest" (defScope s_law_lowest) s.heap.objs.size A.f_law_lowest cdv))) :
    PSs (cxOf (L2N.CX P w) P w K mg base N_law_lowest "_law_lowest" (defScope s_law_lowest) A.f_law_lowest cdv Ar outer s H E) (defBody s_law_lowest) (cS K (fun cls d _ H => E cls d H) (w_law_lowest A)) := by
  have nd := sc_law_lowest.nd
  have po : PassesOwn (model P w) (Ar.deeper (envOfC "_law_lowest" (defScope s_law_lowest) s.heap.objs.size A.f_law_lowest cdv)) (envOfC "_law_lowest" (defScope s_law_lowest) s.heap.objs.size A.f_law_lowest cdv) (cxOf (L2N.CX P w) P w K mg base N_law_lowest "_law_lowest" (defScope s_law_lowest) A.f_law_lowest cdv Ar outer s H E).xe := passes_of (X := cxOf (L2N.CX P w) P w K mg base N_law_lowest "_law_lowest" (defScope s_law_lowest) A.f_law_lowest cdv Ar outer s H E) rfl
  exact dsCons (dSet (ps_set (i := 2) nd rfl (by first | exact Or.inl rfl | exact Or.inr rfl) (dB1 (fun _ ha => pe_callB call_abs rfl T.b_abs (by decide +kernel) (pa_cons ha pa_nil)) su_abs (dN (pv 0))))) (dsCons (dSet (ps_set (i := 3) nd rfl (by first | exact Or.inl rfl | exact Or.inr rfl) (dB1 (fun _ ha => pe_callB call_abs rfl T.b_abs (by decide +kernel) (pa_cons ha pa_nil)) su_abs (dN (pv 1))))) (dsCons (dFor (ps_for po rfl (diR1 (pi_range1 rfl T.b_range (daCons (dI) (daNil)))) (dgName (pg_name (i := 4) nd rfl (by first | exact Or.inl rfl | exact Or.inr rfl))) (dsCons (dIfS (ps_if (dTc (op_eqA hr.units) sr_eq (dN (pv 3)) (dl (dI)) (nomark _)) (dsOne (dBreak)) (dsNil))) (dsCons (dSet (ps_set (i := 6) nd rfl (by first | exact Or.inl rfl | exact Or.inr rfl) (dOp op_modN sr_mod (dN (pv 2)) (dN (pv 3))))) (dsCons (dSet (ps_set (i := 2) nd rfl (by first | exact Or.inl rfl | exact Or.inr rfl) (dV (pv 3)))) (dsOne (dSet (ps_set (i := 3) nd rfl (by first | exact Or.inl rfl | exact Or.inr rfl) (dV (pv 6)))))))))) (dsCons (dSet (ps_set (i := 5) nd rfl (by first | exact Or.inl rfl | exact Or.inr rfl) (dIf (dTc op_lt sr_lt (dN (pv 1)) (dl (dI)) (nomark _)) (dUn un_neg su_neg (dl (dI))) (dI)))) (dsOne (dRet (ps_ret (dTup (daCons (dOp op_fdivA sr_div (dl (dOp op_mulX sr_mul (dN (pv 5)) (dN (pv 0)))) (dN (pv 2))) (daCons (dOp op_fdivA sr_div (dl (dOp op_mulX sr_mul (dN (pv 5)) (dN (pv 1)))) (dN (pv 2))) (daNil))))))))))
theorem den_law_is (T : Txt K mg A) 
    (cdv : Value) (Ar : Around) (outer : List Env) (s : Shared) (H : Hp) (E : XK) (hr : Room 0 (Ar.deeper (envOfC "_law_is" (defScope s_law_is) s.heap.objs.size A.f_law_is cdv))) :
    PSs (cxOf (L2N.CX P w) P w K mg base N_law_is "_law_is" (defScope s_law_is) A.f_law_is cdv Ar outer s H E) (defBody s_law_is) (cS K (fun cls d _ H => E cls d H) (w_law_is A)) := by
  have nd := sc_law_is.nd
  have po : PassesOwn (model P w) (Ar.deeper (envOfC "_law_is" (defScope s_law_is) s.heap.objs.size A.f_law_is cdv)) (envOfC "_law_is" (defScope s_law_is) s.heap.objs.size A.f_law_is cdv) (cxOf (L2N.CX P w) P w K mg base N_law_is "_law_is" (defScope s_law_is) A.f_law_is cdv Ar outer s H E).xe := passes_of (X := cxOf (L2N.CX P w) P w K mg base N_law_is "_law_is" (defScope s_law_is) A.f_law_is cdv Ar outer s H E) rfl
  exact dsCons (dIfS (ps_if (PW.pt (dOr (dNot (dTv (dIsi (fun _ _ ha hb => pe_callB call_isi rfl T.b_isinstance (by decide +kernel) (pa_cons ha (pa_cons hb pa_nil))) (dN (pv 0)) (pe_bltn (v := .ty "tuple") rfl T.b_tuple (by decide +kernel) rfl) kit_tuple))) (pw_or1 (dTc (op_neA hr.units) sr_ne (dl (dB1 (fun _ ha => pe_callB call_len rfl T.b_len (by decide +kernel) (pa_cons ha pa_nil)) su_len (dN (pv 0)))) (dl (dI)) (nomark _))))) (dsOne (dRet (ps_ret (dB)))) (dsNil))) (dsCons (dFor (ps_for po rfl (diA (pi_lt (dV (pv 0)))) (dgName (pg_name (i := 2) nd rfl (by first | exact Or.inl rfl | exact Or.inr rfl))) (dsOne (dIfS (ps_if (PW.pt (dOr (dNot (dTv (dIsi (fun _ _ ha hb => pe_callB call_isi rfl T.b_isinstance (by decide +kernel) (pa_cons ha (pa_cons hb pa_nil))) (dN (pv 2)) (pe_bltn (v := .ty "int") rfl T.b_int (by decide +kernel) rfl) kit_int))) (pw_or1 (dTv (dIsi (fun _ _ ha hb => pe_callB call_isi rfl T.b_isinstance (by decide +kernel) (pa_cons ha (pa_cons hb pa_nil))) (dN (pv 2)) (pe_bltn (v := .ty "bool") rfl T.b_bool (by decide +kernel) rfl) kit_bool))))) (dsOne (dRet (ps_ret (dB)))) (dsNil)))))) (dsOne (dRet (ps_ret (dAndV (dCmp (op_eqA hr.units) sr_eq (dl (dIx ix_seq sr_ix (dN (pv 0)) (dl (dI)) (fun _ _ => rfl))) (dl (dIx ix_seq sr_ix (dN (pv 1)) (dl (dI)) (fun _ _ => rfl))) (nomark _)) (pe_one (dCmp (op_eqA hr.units) sr_eq (dl (dIx ix_seq sr_ix (dN (pv 0)) (dl (dI)) (fun _ _ => rfl))) (dl (dIx ix_seq sr_ix (dN (pv 1)) (dl (dI)) (fun _ _ => rfl))) (nomark _))))))))
theorem denis_fraction (T : Txt K mg A) (Fis_number : FnOk P w K mg base (L2N.CX P w) 1 A.fis_number A.dis_number Pis_number (toSp K 3 (Sis_number A)))
    (cdv : Value) (Ar : Around) (outer : List Env) (s : Shared) (H : Hp) (E : XK) (hr : Room 1 (Ar.deeper (envOfC "is_fraction" (defScope sis_fraction) s.heap.objs.size A.fis_fraction cdv))) :
    PSs (cxOf (L2N.CX P w) P w K mg base Nis_fraction "is_fraction" (defScope sis_fraction) A.fis_fraction cdv Ar outer s H E) (defBody sis_fraction) (cS K (fun cls d _ H => E cls d H) (wis_fraction A)) := by
  have nd := scis_fraction.nd
  have tk : L2N.Takes (cxOf (L2N.CX P w) P w K mg base Nis_fraction "is_fraction" (defScope sis_fraction) A.fis_fraction cdv Ar outer s H E) (fun cls d _ H => E cls d H) := L2N.takes_of rfl rfl rfl rfl
  exact dsCons (dIfS (ps_if (PW.pt (dOr (dNot (dTv (dIsi (fun _ _ ha hb => pe_callB call_isi rfl T.b_isinstance (by decide +kernel) (pa_cons ha (pa_cons hb pa_nil))) (dN (pv 0)) (pe_bltn (v := .ty "tuple") rfl T.b_tuple (by decide +kernel) rfl) kit_tuple))) (pw_or1 (dTc (op_neA hr.units) sr_ne (dl (dB1 (fun _ ha => pe_callB call_len rfl T.b_len (by decide +kernel) (pa_cons ha pa_nil)) su_len (dN (pv 0)))) (dl (dI)) (nomark _))))) (dsOne (dRet (ps_ret (dB)))) (dsNil))) (dsCons (dUnpT (is := [1, 2]) (ps_asg (dN (pv 0)) (pg_tup rfl (pgs_cons (pg_name (i := 1) nd rfl (by first | exact Or.inl rfl | exact Or.inr rfl)) (pgs_cons (pg_name (i := 2) nd rfl (by first | exact Or.inl rfl | exact Or.inr rfl)) (pgs_nil)))))) (dsOne (dRet (ps_ret (dAndV (dCall Fis_number (hr.mono (by decide)) rfl T.fis_number T.pis_number T.ais_number tk (dmV (dV (pv 1)) (dmV (dUn un_neg su_neg (dl (dGi rfl T.k_MOST))) (dmV (dGi rfl T.k_MOST) (dmNil))))) (dAndV (dCall Fis_number (hr.mono (by decide)) rfl T.fis_number T.pis_number T.ais_number tk (dmV (dV (pv 2)) (dmV (dI) (dmV (dGi rfl T.k_MOST) (dmNil))))) (pe_one (dCmp (op_eqA hr.units) sr_eq (dl (dB2 (fun _ _ ha hb => pe_callBfun cr_gcd rfl T.g_gcd (pa_cons ha (pa_cons hb pa_nil))) sr_gcd (dN (pv 1)) (dN (pv 2)))) (dl (dI)) (nomark _)))))))))
theorem denplus (T : Txt K mg A) (Fmade : FnOk P w K mg base (L2N.CX P w) 1 A.fmade A.dmade Pmade (toSp K 2 (Smade A)))
    (cdv : Value) (Ar : Around) (outer : List Env) (s : Shared) (H : Hp) (E : XK) (hr : Room 1 (Ar.deeper (envOfC "plus" (defScope splus) s.heap.objs.size A.fplus cdv))) :
    PSs (cxOf (L2N.CX P w) P w K mg base Nplus "plus" (defScope splus) A.fplus cdv Ar outer s H E) (defBody splus) (cS K (fun cls d _ H => E cls d H) (wplus A)) := by
  have nd := scplus.nd
  have tk : L2N.Takes (cxOf (L2N.CX P w) P w K mg base Nplus "plus" (defScope splus) A.fplus cdv Ar outer s H E) (fun cls d _ H => E cls d H) := L2N.takes_of rfl rfl rfl rfl
  exact dsOne (dRet (ps_ret (dCall Fmade (hr.mono (by decide)) rfl T.fmade T.pmade T.amade tk (dmV (dOp op_addA sr_add (dl (dOp op_mulX sr_mul (dl (dIx ix_seq sr_ix (dN (pv 0)) (dl (dI)) (fun _ _ => rfl))) (dl (dIx ix_seq sr_ix (dN (pv 1)) (dl (dI)) (fun _ _ => rfl))))) (dl (dOp op_mulX sr_mul (dl (dIx ix_seq sr_ix (dN (pv 1)) (dl (dI)) (fun _ _ => rfl))) (dl (dIx ix_seq sr_ix (dN (pv 0)) (dl (dI)) (fun _ _ => rfl)))))) (dmV (dOp op_mulX sr_mul (dl (dIx ix_seq sr_ix (dN (pv 0)) (dl (dI)) (fun _ _ => rfl))) (dl (dIx ix_seq sr_ix (dN (pv 1)) (dl (dI)) (fun _ _ => rfl)))) (dmNil))))))
theorem denminus (T : Txt K mg A) (Fmade : FnOk P w K mg base (L2N.CX P w) 1 A.fmade A.dmade Pmade (toSp K 2 (Smade A)))
    (cdv : Value) (Ar : Around) (outer : List Env) (s : Shared) (H : Hp) (E : XK) (hr : Room 1 (Ar.deeper (envOfC "minus" (defScope sminus) s.heap.objs.size A.fminus cdv))) :
    PSs (cxOf (L2N.CX P w) P w K mg base Nminus "minus" (defScope sminus) A.fminus cdv Ar outer s H E) (defBody sminus) (cS K (fun cls d _ H => E cls d H) (wminus A)) := by
  have nd := scminus.nd
  have tk : L2N.Takes (cxOf (L2N.CX P w) P w K mg base Nminus "minus" (defScope sminus) A.fminus cdv Ar outer s H E) (fun cls d _ H => E cls d H) := L2N.takes_of rfl rfl rfl rfl
  exact dsOne (dRet (ps_ret (dCall Fmade (hr.mono (by decide)) rfl T.fmade T.pmade T.amade tk (dmV (dOp op_sub sr_sub (dl (dOp op_mulX sr_mul (dl (dIx ix_seq sr_ix (dN (pv 0)) (dl (dI)) (fun _ _ => rfl))) (dl (dIx ix_seq sr_ix (dN (pv 1)) (dl (dI)) (fun _ _ => rfl))))) (dl (dOp op_mulX sr_mul (dl (dIx ix_seq sr_ix (dN (pv 1)) (dl (dI)) (fun _ _ => rfl))) (dl (dIx ix_seq sr_ix (dN (pv 0)) (dl (dI)) (fun _ _ => rfl)))))) (dmV (dOp op_mulX sr_mul (dl (dIx ix_seq sr_ix (dN (pv 0)) (dl (dI)) (fun _ _ => rfl))) (dl (dIx ix_seq sr_ix (dN (pv 1)) (dl (dI)) (fun _ _ => rfl)))) (dmNil))))))
theorem dentimes (T : Txt K mg A) (Fmade : FnOk P w K mg base (L2N.CX P w) 1 A.fmade A.dmade Pmade (toSp K 2 (Smade A)))
    (cdv : Value) (Ar : Around) (outer : List Env) (s : Shared) (H : Hp) (E : XK) (hr : Room 1 (Ar.deeper (envOfC "times" (defScope stimes) s.heap.objs.size A.ftimes cdv))) :
    PSs (cxOf (L2N.CX P w) P w K mg base Ntimes "times" (defScope stimes) A.ftimes cdv Ar outer s H E) (defBody stimes) (cS K (fun cls d _ H => E cls d H) (wtimes A)) := by
  have nd := sctimes.nd
  have tk : L2N.Takes (cxOf (L2N.CX P w) P w K mg base Ntimes "times" (defScope stimes) A.ftimes cdv Ar outer s H E) (fun cls d _ H => E cls d H) := L2N.takes_of rfl rfl rfl rfl
  exact dsOne (dRet (ps_ret (dCall Fmade (hr.mono (by decide)) rfl T.fmade T.pmade T.amade tk (dmV (dOp op_mulX sr_mul (dl (dIx ix_seq sr_ix (dN (pv 0)) (dl (dI)) (fun _ _ => rfl))) (dl (dIx ix_seq sr_ix (dN (pv 1)) (dl (dI)) (fun _ _ => rfl)))) (dmV (dOp op_mulX sr_mul (dl (dIx ix_seq sr_ix (dN (pv 0)) (dl (dI)) (fun _ _ => rfl))) (dl (dIx ix_seq sr_ix (dN (pv 1)) (dl (dI)) (fun _ _ => rfl)))) (dmNil))))))
theorem denthrough (T : Txt K mg A) (Fmade : FnOk P w K mg base (L2N.CX P w) 1 A.fmade A.dmade Pmade (toSp K 2 (Smade A)))
    (cdv : Value) (Ar : Around) (outer : List Env) (s : Shared) (H : Hp) (E : XK) (hr : Room 1 (Ar.deeper (envOfC "through" (defScope sthrough) s.heap.objs.size A.fthrough cdv))) :
    PSs (cxOf (L2N.CX P w) P w K mg base Nthrough "through" (defScope sthrough) A.fthrough cdv Ar outer s H E) (defBody sthrough) (cS K (fun cls d _ H => E cls d H) (wthrough A)) := by
  have nd := scthrough.nd
  have tk : L2N.Takes (cxOf (L2N.CX P w) P w K mg base Nthrough "through" (defScope sthrough) A.fthrough cdv Ar outer s H E) (fun cls d _ H => E cls d H) := L2N.takes_of rfl rfl rfl rfl
  exact dsOne (dRet (ps_ret (dCall Fmade (hr.mono (by decide)) rfl T.fmade T.pmade T.amade tk (dmV (dOp op_mulX sr_mul (dl (dIx ix_seq sr_ix (dN (pv 0)) (dl (dI)) (fun _ _ => rfl))) (dl (dIx ix_seq sr_ix (dN (pv 1)) (dl (dI)) (fun _ _ => rfl)))) (dmV (dOp op_mulX sr_mul (dl (dIx ix_seq sr_ix (dN (pv 0)) (dl (dI)) (fun _ _ => rfl))) (dl (dIx ix_seq sr_ix (dN (pv 1)) (dl (dI)) (fun _ _ => rfl)))) (dmNil))))))
theorem den_law_draw (T : Txt K mg A) (F_law_mixed : FnOk P w K mg base (L2N.CX P w) 1 A.f_law_mixed A.d_law_mixed P_law_mixed (toSp K 2 (S_law_mixed A)))
    (cdv : Value) (Ar : Around) (outer : List Env) (s : Shared) (H : Hp) (E : XK) (hr : Room 1 (Ar.deeper (envOfC "_law_draw" (defScope s_law_draw) s.heap.objs.size A.f_law_draw cdv))) :
    PSs (cxOf (L2N.CX P w) P w K mg base N_law_draw "_law_draw" (defScope s_law_draw) A.f_law_draw cdv Ar outer s H E) (defBody s_law_draw) (cS K (fun cls d _ H => E cls d H) (w_law_draw A)) := by
  have nd := sc_law_draw.nd
  have tk : L2N.Takes (cxOf (L2N.CX P w) P w K mg base N_law_draw "_law_draw" (defScope s_law_draw) A.f_law_draw cdv Ar outer s H E) (fun cls d _ H => E cls d H) := L2N.takes_of rfl rfl rfl rfl
  exact dsCons (dUnp (is := [2, 3, 4]) (ps_asg (dN (pv 0)) (pg_lst rfl (pgs_cons (pg_name (i := 2) nd rfl (by first | exact Or.inl rfl | exact Or.inr rfl)) (pgs_cons (pg_name (i := 3) nd rfl (by first | exact Or.inl rfl | exact Or.inr rfl)) (pgs_cons (pg_name (i := 4) nd rfl (by first | exact Or.inl rfl | exact Or.inr rfl)) (pgs_nil))))))) (dsCons (dIfS (ps_if (dTc op_lt sr_lt (dN (pv 3)) (dN (pv 1)) (nomark _)) (dsCons (dSet (ps_set (i := 5) nd rfl (by first | exact Or.inl rfl | exact Or.inr rfl) (dIx ix_seq sr_ix (dN (pv 4)) (dl (dOp op_modN sr_mod (dN (pv 2)) (dl (dB1 (fun _ ha => pe_callB call_len rfl T.b_len (by decide +kernel) (pa_cons ha pa_nil)) su_len (dN (pv 4)))))) (fun _ _ => rfl)))) (dsCons (dSet (ps_set (i := 3) nd rfl (by first | exact Or.inl rfl | exact Or.inr rfl) (dIf (PW.pt (dAnd (dTc op_lt sr_lt (dN (pv 2)) (dl (dB1 (fun _ ha => pe_callB call_len rfl T.b_len (by decide +kernel) (pa_cons ha pa_nil)) su_len (dN (pv 4)))) (nomark _)) (pw_and1 (dTc op_ge sr_ge (dN (pv 5)) (dl (dOp op_pow sr_pow (dl (dI)) (dl (dI)))) (nomark _))))) (dV (pv 5)) (dCall F_law_mixed (hr.mono (by decide)) rfl T.f_law_mixed T.p_law_mixed T.a_law_mixed tk (dmV (dV (pv 5)) (dmV (dV (pv 2)) (dmNil))))))) (dsOne (dSet (ps_set (i := 2) nd rfl (by first | exact Or.inl rfl | exact Or.inr rfl) (dOp op_addA sr_add (dN (pv 2)) (dl (dI)))))))) (dsNil))) (dsCons (dPut (ps_asg (dV (pv 2)) (pg_sub (pv 0) (dl (dI)) set_list))) (dsCons (dPut (ps_asg (dOp op_fdivA sr_div (dN (pv 3)) (dN (pv 1))) (pg_sub (pv 0) (dl (dI)) set_list))) (dsOne (dRet (ps_ret (dOp op_modN sr_mod (dN (pv 3)) (dN (pv 1)))))))))
theorem den_law_made (T : Txt K mg A) (Fmade : FnOk P w K mg base (L2N.CX P w) 1 A.fmade A.dmade Pmade (toSp K 2 (Smade A))) (F_law_told : ∀ c t, nm A c = some t → FnT P w K mg base 1 A.f_law_told A.d_law_told P_law_told c t) (F_law_lowest : FnOk P w K mg base (L2N.CX P w) 1 A.f_law_lowest A.d_law_lowest P_law_lowest (toSp K 2 (S_law_lowest A))) (F_law_is : FnOk P w K mg base (L2N.CX P w) 1 A.f_law_is A.d_law_is P_law_is (toSp K 2 (S_law_is A)))
    (cdv : Value) (Ar : Around) (outer : List Env) (s : Shared) (H : Hp) (E : XK) (hr : Room 1 (Ar.deeper (envOfC "_law_made" (defScope s_law_made) s.heap.objs.size A.f_law_made cdv))) :
    PSs (cxOf (L2N.CX P w) P w K mg base N_law_made "_law_made" (defScope s_law_made) A.f_law_made cdv Ar outer s H E) (defBody s_law_made) (cS K (fun cls d _ H => E cls d H) (w_law_made A)) := by
  have nd := sc_law_made.nd
  have tk : L2N.Takes (cxOf (L2N.CX P w) P w K mg base N_law_made "_law_made" (defScope s_law_made) A.f_law_made cdv Ar outer s H E) (fun cls d _ H => E cls d H) := L2N.takes_of rfl rfl rfl rfl
  exact dsCons (dTryAs (cv := .ref A.cLotError) (hcat T) (i := 2) rfl rfl nd rfl rfl ⟨rfl, by decide, .inl T.cLotError⟩ tk (fun W2 pn xe tk2 po2 => dsOne (dSet (ps_set (i := 3) nd rfl (by first | exact Or.inl rfl | exact Or.inr rfl) (dCall Fmade (hr.mono (by decide)) rfl T.fmade T.pmade T.amade tk2 (dmV (dV (pv 0)) (dmV (dV (pv 1)) (dmNil))))))) (fun a oe cls d pn hz hf => suite_by hz fun c t ht hz => dsOne (dRet (ps_ret (dAndV (dCmp (op_eqA hr.units) sr_eq (dN (pv 1)) (dl (dI)) (nomark _)) (pe_one (dCmp (op_eqA hr.units) sr_eq (dl (dTold (F_law_told c t ht) (markH hr (by decide)) List.mem_cons_self rfl hz hf rfl T.f_law_told T.p_law_told T.a_law_told (pv 2))) (dl (dX)) (nomark _)))))))) (dsOne (dRet (ps_ret (dAndV (dCmp (op_neA hr.units) sr_ne (dN (pv 1)) (dl (dI)) (nomark _)) (pe_one (dCall F_law_is (hr.mono (by decide)) rfl T.f_law_is T.p_law_is T.a_law_is tk (dmV (dV (pv 3)) (dmV (dCall F_law_lowest (hr.mono (by decide)) rfl T.f_law_lowest T.p_law_lowest T.a_law_lowest tk (dmV (dV (pv 0)) (dmV (dV (pv 1)) (dmNil)))) (dmNil)))))))))
theorem den_law_wide (T : Txt K mg A) (F_law_draw : FnOk P w K mg base (L2N.CX P w) 2 A.f_law_draw A.d_law_draw P_law_draw (toSp K 2 (S_law_draw A)))
    (cdv : Value) (Ar : Around) (outer : List Env) (s : Shared) (H : Hp) (E : XK) (hr : Room 2 (Ar.deeper (envOfC "_law_wide" (defScope s_law_wide) s.heap.objs.size A.f_law_wide cdv))) :
    PSs (cxOf (L2N.CX P w) P w K mg base N_law_wide "_law_wide" (defScope s_law_wide) A.f_law_wide cdv Ar outer s H E) (defBody s_law_wide) (cS K (fun cls d _ H => E cls d H) (w_law_wide A)) := by
  have nd := sc_law_wide.nd
  have tk : L2N.Takes (cxOf (L2N.CX P w) P w K mg base N_law_wide "_law_wide" (defScope s_law_wide) A.f_law_wide cdv Ar outer s H E) (fun cls d _ H => E cls d H) := L2N.takes_of rfl rfl rfl rfl
  have po : PassesOwn (model P w) (Ar.deeper (envOfC "_law_wide" (defScope s_law_wide) s.heap.objs.size A.f_law_wide cdv)) (envOfC "_law_wide" (defScope s_law_wide) s.heap.objs.size A.f_law_wide cdv) (cxOf (L2N.CX P w) P w K mg base N_law_wide "_law_wide" (defScope s_law_wide) A.f_law_wide cdv Ar outer s H E).xe := passes_of (X := cxOf (L2N.CX P w) P w K mg base N_law_wide "_law_wide" (defScope s_law_wide) A.f_law_wide cdv Ar outer s H E) rfl
  exact dsCons (dSet (ps_set (i := 2) nd rfl (by first | exact Or.inl rfl | exact Or.inr rfl) (dI))) (dsCons (dFor (ps_for po rfl (diR1 (pi_range1 rfl T.b_range (daCons (dI) (daNil)))) (dgName (pg_name (i := 3) nd rfl (by first | exact Or.inl rfl | exact Or.inr rfl))) (dsOne (dSet (ps_set (i := 2) nd rfl (by first | exact Or.inl rfl | exact Or.inr rfl) (dOp op_addA sr_add (dl (dOp op_mulX sr_mul (dN (pv 2)) (dl (dOp op_pow sr_pow (dl (dI)) (dl (dI)))))) (dl (dCall F_law_draw (hr.mono (by decide)) rfl T.f_law_draw T.p_law_draw T.a_law_draw tk (dmIo (pv 0) (dmV (dOp op_pow sr_pow (dl (dI)) (dl (dI))) (dmNil))))))))))) (dsOne (dRet (ps_ret (dOp op_modN sr_mod (dN (pv 2)) (dN (pv 1)))))))
theorem den_law_through (T : Txt K mg A) (F_law_told : ∀ c t, nm A c = some t → FnT P w K mg base 1 A.f_law_told A.d_law_told P_law_told c t) (F_law_lowest : FnOk P w K mg base (L2N.CX P w) 1 A.f_law_lowest A.d_law_lowest P_law_lowest (toSp K 2 (S_law_lowest A))) (F_law_is : FnOk P w K mg base (L2N.CX P w) 1 A.f_law_is A.d_law_is P_law_is (toSp K 2 (S_law_is A))) (Fthrough : FnOk P w K mg base (L2N.CX P w) 2 A.fthrough A.dthrough Pthrough (toSp K 2 (Sthrough A)))
    (cdv : Value) (Ar : Around) (outer : List Env) (s : Shared) (H : Hp) (E : XK) (hr : Room 2 (Ar.deeper (envOfC "_law_through" (defScope s_law_through) s.heap.objs.size A.f_law_through cdv))) :
    PSs (cxOf (L2N.CX P w) P w K mg base N_law_through "_law_through" (defScope s_law_through) A.f_law_through cdv Ar outer s H E) (defBody s_law_through) (cS K (fun cls d _ H => E cls d H) (w_law_through A)) := by
  have nd := sc_law_through.nd
  have tk : L2N.Takes (cxOf (L2N.CX P w) P w K mg base N_law_through "_law_through" (defScope s_law_through) A.f_law_through cdv Ar outer s H E) (fun cls d _ H => E cls d H) := L2N.takes_of rfl rfl rfl rfl
  exact dsCons (dTryAs (cv := .ref A.cLotError) (hcat T) (i := 2) rfl rfl nd rfl rfl ⟨rfl, by decide, .inl T.cLotError⟩ tk (fun W2 pn xe tk2 po2 => dsOne (dSet (ps_set (i := 3) nd rfl (by first | exact Or.inl rfl | exact Or.inr rfl) (dCall Fthrough (hr.mono (by decide)) rfl T.fthrough T.pthrough T.athrough tk2 (dmV (dV (pv 0)) (dmV (dV (pv 1)) (dmNil))))))) (fun a oe cls d pn hz hf => suite_by hz fun c t ht hz => dsOne (dRet (ps_ret (dAndV (dCmp (op_eqA hr.units) sr_eq (dl (dIx ix_seq sr_ix (dN (pv 1)) (dl (dI)) (fun _ _ => rfl))) (dl (dI)) (nomark _)) (pe_one (dCmp (op_eqA hr.units) sr_eq (dl (dTold (F_law_told c t ht) (markH hr (by decide)) List.mem_cons_self rfl hz hf rfl T.f_law_told T.p_law_told T.a_law_told (pv 2))) (dl (dX)) (nomark _)))))))) (dsOne (dRet (ps_ret (dAndV (dCmp (op_neA hr.units) sr_ne (dl (dIx ix_seq sr_ix (dN (pv 1)) (dl (dI)) (fun _ _ => rfl))) (dl (dI)) (nomark _)) (pe_one (dCall F_law_is (hr.mono (by decide)) rfl T.f_law_is T.p_law_is T.a_law_is tk (dmV (dV (pv 3)) (dmV (dCall F_law_lowest (hr.mono (by decide)) rfl T.f_law_lowest T.p_law_lowest T.a_law_lowest tk (dmV (dOp op_mulX sr_mul (dl (dIx ix_seq sr_ix (dN (pv 0)) (dl (dI)) (fun _ _ => rfl))) (dl (dIx ix_seq sr_ix (dN (pv 1)) (dl (dI)) (fun _ _ => rfl)))) (dmV (dOp op_mulX sr_mul (dl (dIx ix_seq sr_ix (dN (pv 0)) (dl (dI)) (fun _ _ => rfl))) (dl (dIx ix_seq sr_ix (dN (pv 1)) (dl (dI)) (fun _ _ => rfl)))) (dmNil)))) (dmNil)))))))))
theorem den_law_kinds (T : Txt K mg A) (Fis_fraction : FnOk P w K mg base (L2N.CX P w) 2 A.fis_fraction A.dis_fraction Pis_fraction (toSp K 1 (Sis_fraction A)))
    (cdv : Value) (Ar : Around) (outer : List Env) (s : Shared) (H : Hp) (E : XK) (hr : Room 2 (Ar.deeper (envOfC "_law_kinds" (defScope s_law_kinds) s.heap.objs.size A.f_law_kinds cdv))) :
    PSs (cxOf (L2N.CX P w) P w K mg base N_law_kinds "_law_kinds" (defScope s_law_kinds) A.f_law_kinds cdv Ar outer s H E) (defBody s_law_kinds) (cS K (fun cls d _ H => E cls d H) (w_law_kinds A)) := by
  have nd := sc_law_kinds.nd
  have tk : L2N.Takes (cxOf (L2N.CX P w) P w K mg base N_law_kinds "_law_kinds" (defScope s_law_kinds) A.f_law_kinds cdv Ar outer s H E) (fun cls d _ H => E cls d H) := L2N.takes_of rfl rfl rfl rfl
  have po : PassesOwn (model P w) (Ar.deeper (envOfC "_law_kinds" (defScope s_law_kinds) s.heap.objs.size A.f_law_kinds cdv)) (envOfC "_law_kinds" (defScope s_law_kinds) s.heap.objs.size A.f_law_kinds cdv) (cxOf (L2N.CX P w) P w K mg base N_law_kinds "_law_kinds" (defScope s_law_kinds) A.f_law_kinds cdv Ar outer s H E).xe := passes_of (X := cxOf (L2N.CX P w) P w K mg base N_law_kinds "_law_kinds" (defScope s_law_kinds) A.f_law_kinds cdv Ar outer s H E) rfl
  exact dsCons (dUnpT (is := [3, 4]) (ps_asg (dN (pv 0)) (pg_tup rfl (pgs_cons (pg_name (i := 3) nd rfl (by first | exact Or.inl rfl | exact Or.inr rfl)) (pgs_cons (pg_name (i := 4) nd rfl (by first | exact Or.inl rfl | exact Or.inr rfl)) (pgs_nil)))))) (dsCons (dSet (ps_set (i := 1) nd rfl (by first | exact Or.inl rfl | exact Or.inr rfl) (dFE (dLst (daCons (dTup (daCons (dOp op_mulX sr_mul (dl (dI)) (dN (pv 3))) (daCons (dOp op_mulX sr_mul (dl (dI)) (dN (pv 4))) (daNil)))) (daCons (dTup (daCons (dV (pv 3)) (daCons (dUn un_neg su_neg (dN (pv 4))) (daNil)))) (daCons (dTup (daCons (dV (pv 3)) (daCons (dI) (daNil)))) (daCons (dFE (dLst (daCons (dV (pv 3)) (daCons (dV (pv 4)) (daNil))))) (daCons (dTup (daCons (dV (pv 3)) (daNil))) (daCons (dTup (daCons (dV (pv 3)) (daCons (dV (pv 4)) (daCons (dI) (daNil))))) (daCons (dV (pv 3)) (daCons (dZ) (daCons (dTup (daCons (dB) (daCons (dV (pv 4)) (daNil)))) (daCons (dTup (daCons (dV (pv 3)) (daCons (dB) (daNil)))) (daCons (dTup (daCons (dOp op_addA sr_add (dl (dOp op_pow sr_pow (dl (dI)) (dl (dI)))) (dl (dI))) (daCons (dI) (daNil)))) (daCons (dTup (daCons (dOp op_sub sr_sub (dl (dUn un_neg su_neg (dl (dOp op_pow sr_pow (dl (dI)) (dl (dI)))))) (dl (dI))) (daCons (dI) (daNil)))) (daCons (dTup (daCons (dI) (daCons (dOp op_addA sr_add (dl (dOp op_pow sr_pow (dl (dI)) (dl (dI)))) (dl (dI))) (daNil)))) (daCons (dTup (daCons (dX) (daCons (dI) (daNil)))) (daCons (dX) (daNil)))))))))))))))))))) (dsCons (dFor (ps_for po rfl (diA (pi_lt (dV (pv 1)))) (dgName (pg_name (i := 2) nd rfl (by first | exact Or.inl rfl | exact Or.inr rfl))) (dsOne (dIfS (ps_if (dTc op_notBl sr_notB (dl (dCall Fis_fraction (hr.mono (by decide)) rfl T.fis_fraction T.pis_fraction T.ais_fraction tk (dmV (dV (pv 2)) (dmNil)))) (dl (dB)) (nomark _)) (dsOne (dRet (ps_ret (dB)))) (dsNil)))))) (dsOne (dRet (ps_ret (dAndV (dCmp op_isBl sr_isB (dl (dCall Fis_fraction (hr.mono (by decide)) rfl T.fis_fraction T.pis_fraction T.ais_fraction tk (dmV (dTup (daCons (dOp op_pow sr_pow (dl (dI)) (dl (dI))) (daCons (dI) (daNil)))) (dmNil)))) (dl (dB)) (nomark _)) (pe_one (dCmp op_isBl sr_isB (dl (dCall Fis_fraction (hr.mono (by decide)) rfl T.fis_fraction T.pis_fraction T.ais_fraction tk (dmV (dTup (daCons (dUn un_neg su_neg (dl (dI))) (daCons (dOp op_pow sr_pow (dl (dI)) (dl (dI))) (daNil)))) (dmNil)))) (dl (dB)) (nomark _)))))))))
theorem den_law_number (T : Txt K mg A) (F_law_draw : FnOk P w K mg base (L2N.CX P w) 2 A.f_law_draw A.d_law_draw P_law_draw (toSp K 2 (S_law_draw A))) (F_law_wide : FnOk P w K mg base (L2N.CX P w) 3 A.f_law_wide A.d_law_wide P_law_wide (toSp K 2 (S_law_wide A)))
    (cdv : Value) (Ar : Around) (outer : List Env) (s : Shared) (H : Hp) (E : XK) (hr : Room 3 (Ar.deeper (envOfC "_law_number" (defScope s_law_number) s.heap.objs.size A.f_law_number cdv))) :
    PSs (cxOf (L2N.CX P w) P w K mg base N_law_number "_law_number" (defScope s_law_number) A.f_law_number cdv Ar outer s H E) (defBody s_law_number) (cS K (fun cls d _ H => E cls d H) (w_law_number A)) := by
  have nd := sc_law_number.nd
  have tk : L2N.Takes (cxOf (L2N.CX P w) P w K mg base N_law_number "_law_number" (defScope s_law_number) A.f_law_number cdv Ar outer s H E) (fun cls d _ H => E cls d H) := L2N.takes_of rfl rfl rfl rfl
  exact dsCons (dSet (ps_set (i := 1) nd rfl (by first | exact Or.inl rfl | exact Or.inr rfl) (dCall F_law_draw (hr.mono (by decide)) rfl T.f_law_draw T.p_law_draw T.a_law_draw tk (dmIo (pv 0) (dmV (dI) (dmNil)))))) (dsCons (dSet (ps_set (i := 2) nd rfl (by first | exact Or.inl rfl | exact Or.inr rfl) (dIx ix_seq sr_ix (dl (dFE (dLst (daCons (dI) (daCons (dI) (daCons (dOp op_pow sr_pow (dl (dI)) (dl (dI))) (daCons (dOp op_pow sr_pow (dl (dI)) (dl (dI))) (daNil)))))))) (dN (pv 1)) (fun _ _ => rfl)))) (dsCons (dSet (ps_set (i := 3) nd rfl (by first | exact Or.inl rfl | exact Or.inr rfl) (dIf (dTc (op_eqA hr.units) sr_eq (dN (pv 1)) (dl (dI)) (nomark _)) (dCall F_law_wide (hr.mono (by decide)) rfl T.f_law_wide T.p_law_wide T.a_law_wide tk (dmIo (pv 0) (dmV (dV (pv 2)) (dmNil)))) (dCall F_law_draw (hr.mono (by decide)) rfl T.f_law_draw T.p_law_draw T.a_law_draw tk (dmIo (pv 0) (dmV (dV (pv 2)) (dmNil))))))) (dsCons (dIfS (ps_if (PW.pt (dAnd (dTc (op_eqA hr.units) sr_eq (dN (pv 1)) (dl (dI)) (nomark _)) (pw_and1 (dTc (op_eqA hr.units) sr_eq (dl (dCall F_law_draw (hr.mono (by decide)) rfl T.f_law_draw T.p_law_draw T.a_law_draw tk (dmIo (pv 0) (dmV (dI) (dmNil))))) (dl (dI)) (nomark _))))) (dsOne (dSet (ps_set (i := 3) nd rfl (by first | exact Or.inl rfl | exact Or.inr rfl) (dOp op_sub sr_sub (dl (dOp op_pow sr_pow (dl (dI)) (dl (dI)))) (dl (dOp op_modN sr_mod (dN (pv 3)) (dl (dI)))))))) (dsNil))) (dsOne (dRet (ps_ret (dIf (dTc (op_eqA hr.units) sr_eq (dl (dCall F_law_draw (hr.mono (by decide)) rfl T.f_law_draw T.p_law_draw T.a_law_draw tk (dmIo (pv 0) (dmV (dI) (dmNil))))) (dl (dI)) (nomark _)) (dUn un_neg su_neg (dN (pv 3))) (dV (pv 3)))))))))
theorem den_law_sums (T : Txt K mg A) (Fless : FnOk P w K mg base (L2N.CX P w) 1 A.fless A.dless Pless (toSp K 2 (Sless A))) (F_law_lowest : FnOk P w K mg base (L2N.CX P w) 1 A.f_law_lowest A.d_law_lowest P_law_lowest (toSp K 2 (S_law_lowest A))) (F_law_is : FnOk P w K mg base (L2N.CX P w) 1 A.f_law_is A.d_law_is P_law_is (toSp K 2 (S_law_is A))) (Fplus : FnOk P w K mg base (L2N.CX P w) 2 A.fplus A.dplus Pplus (toSp K 2 (Splus A))) (Fminus : FnOk P w K mg base (L2N.CX P w) 2 A.fminus A.dminus Pminus (toSp K 2 (Sminus A))) (Ftimes : FnOk P w K mg base (L2N.CX P w) 2 A.ftimes A.dtimes Ptimes (toSp K 2 (Stimes A))) (F_law_through : FnOk P w K mg base (L2N.CX P w) 3 A.f_law_through A.d_law_through P_law_through (toSp K 2 (S_law_through A)))
    (cdv : Value) (Ar : Around) (outer : List Env) (s : Shared) (H : Hp) (E : XK) (hr : Room 3 (Ar.deeper (envOfC "_law_sums" (defScope s_law_sums) s.heap.objs.size A.f_law_sums cdv))) :
    PSs (cxOf (L2N.CX P w) P w K mg base N_law_sums "_law_sums" (defScope s_law_sums) A.f_law_sums cdv Ar outer s H E) (defBody s_law_sums) (cS K (fun cls d _ H => E cls d H) (w_law_sums A)) := by
  have nd := sc_law_sums.nd
  have tk : L2N.Takes (cxOf (L2N.CX P w) P w K mg base N_law_sums "_law_sums" (defScope s_law_sums) A.f_law_sums cdv Ar outer s H E) (fun cls d _ H => E cls d H) := L2N.takes_of rfl rfl rfl rfl
  exact dsCons (dUnpT (is := [3, 4]) (ps_asg (dN (pv 0)) (pg_tup rfl (pgs_cons (pg_name (i := 3) nd rfl (by first | exact Or.inl rfl | exact Or.inr rfl)) (pgs_cons (pg_name (i := 4) nd rfl (by first | exact Or.inl rfl | exact Or.inr rfl)) (pgs_nil)))))) (dsCons (dUnpT (is := [5, 6]) (ps_asg (dN (pv 1)) (pg_tup rfl (pgs_cons (pg_name (i := 5) nd rfl (by first | exact Or.inl rfl | exact Or.inr rfl)) (pgs_cons (pg_name (i := 6) nd rfl (by first | exact Or.inl rfl | exact Or.inr rfl)) (pgs_nil)))))) (dsCons (dIfS (ps_if (dNot (dTv (dCall F_law_is (hr.mono (by decide)) rfl T.f_law_is T.p_law_is T.a_law_is tk (dmV (dCall Fplus (hr.mono (by decide)) rfl T.fplus T.pplus T.aplus tk (dmV (dV (pv 0)) (dmV (dV (pv 1)) (dmNil)))) (dmV (dCall F_law_lowest (hr.mono (by decide)) rfl T.f_law_lowest T.p_law_lowest T.a_law_lowest tk (dmV (dOp op_addA sr_add (dl (dOp op_mulX sr_mul (dN (pv 3)) (dN (pv 6)))) (dl (dOp op_mulX sr_mul (dN (pv 5)) (dN (pv 4))))) (dmV (dOp op_mulX sr_mul (dN (pv 4)) (dN (pv 6))) (dmNil)))) (dmNil)))))) (dsOne (dRet (ps_ret (dB)))) (dsNil))) (dsCons (dIfS (ps_if (dNot (dTv (dCall F_law_is (hr.mono (by decide)) rfl T.f_law_is T.p_law_is T.a_law_is tk (dmV (dCall Fminus (hr.mono (by decide)) rfl T.fminus T.pminus T.aminus tk (dmV (dV (pv 0)) (dmV (dV (pv 1)) (dmNil)))) (dmV (dCall F_law_lowest (hr.mono (by decide)) rfl T.f_law_lowest T.p_law_lowest T.a_law_lowest tk (dmV (dOp op_sub sr_sub (dl (dOp op_mulX sr_mul (dN (pv 3)) (dN (pv 6)))) (dl (dOp op_mulX sr_mul (dN (pv 5)) (dN (pv 4))))) (dmV (dOp op_mulX sr_mul (dN (pv 4)) (dN (pv 6))) (dmNil)))) (dmNil)))))) (dsOne (dRet (ps_ret (dB)))) (dsNil))) (dsCons (dIfS (ps_if (dNot (dTv (dCall F_law_is (hr.mono (by decide)) rfl T.f_law_is T.p_law_is T.a_law_is tk (dmV (dCall Ftimes (hr.mono (by decide)) rfl T.ftimes T.ptimes T.atimes tk (dmV (dV (pv 0)) (dmV (dV (pv 1)) (dmNil)))) (dmV (dCall F_law_lowest (hr.mono (by decide)) rfl T.f_law_lowest T.p_law_lowest T.a_law_lowest tk (dmV (dOp op_mulX sr_mul (dN (pv 3)) (dN (pv 5))) (dmV (dOp op_mulX sr_mul (dN (pv 4)) (dN (pv 6))) (dmNil)))) (dmNil)))))) (dsOne (dRet (ps_ret (dB)))) (dsNil))) (dsCons (dSet (ps_set (i := 2) nd rfl (by first | exact Or.inl rfl | exact Or.inr rfl) (dCall Fless (hr.mono (by decide)) rfl T.fless T.pless T.aless tk (dmV (dV (pv 0)) (dmV (dV (pv 1)) (dmNil)))))) (dsCons (dIfS (ps_if (PW.pt (dOr (PW.pt (dAnd (dTc op_lt sr_lt (dl (dOp op_mulX sr_mul (dN (pv 3)) (dN (pv 6)))) (dl (dOp op_mulX sr_mul (dN (pv 5)) (dN (pv 4)))) (nomark _)) (pw_and1 (dTc op_notBl sr_notB (dN (pv 2)) (dl (dB)) (nomark _))))) (pw_or1 (PW.pt (dAnd (dTc op_ge sr_ge (dl (dOp op_mulX sr_mul (dN (pv 3)) (dN (pv 6)))) (dl (dOp op_mulX sr_mul (dN (pv 5)) (dN (pv 4)))) (nomark _)) (pw_and1 (dTc op_notBl sr_notB (dN (pv 2)) (dl (dB)) (nomark _)))))))) (dsOne (dRet (ps_ret (dB)))) (dsNil))) (dsOne (dRet (ps_ret (dCall F_law_through (hr.mono (by decide)) rfl T.f_law_through T.p_law_through T.a_law_through tk (dmV (dV (pv 0)) (dmV (dV (pv 1)) (dmNil)))))))))))))
theorem denlaw (T : Txt K mg A) (F_law_open : FnOk P w K mg base (L2N.CX P w) 1 A.f_law_open A.d_law_open P_law_open (toSpF K 1 (S_law_open A))) (F_law_lowest : FnOk P w K mg base (L2N.CX P w) 1 A.f_law_lowest A.d_law_lowest P_law_lowest (toSp K 2 (S_law_lowest A))) (Fis_fraction : FnOk P w K mg base (L2N.CX P w) 2 A.fis_fraction A.dis_fraction Pis_fraction (toSp K 1 (Sis_fraction A))) (F_law_draw : FnOk P w K mg base (L2N.CX P w) 2 A.f_law_draw A.d_law_draw P_law_draw (toSp K 2 (S_law_draw A))) (F_law_made : FnOk P w K mg base (L2N.CX P w) 2 A.f_law_made A.d_law_made P_law_made (toSp K 2 (S_law_made A))) (F_law_kinds : FnOk P w K mg base (L2N.CX P w) 3 A.f_law_kinds A.d_law_kinds P_law_kinds (toSp K 1 (S_law_kinds A))) (F_law_number : FnOk P w K mg base (L2N.CX P w) 4 A.f_law_number A.d_law_number P_law_number (toSp K 1 (S_law_number A))) (F_law_sums : FnOk P w K mg base (L2N.CX P w) 4 A.f_law_sums A.d_law_sums P_law_sums (toSp K 2 (S_law_sums A)))
    (cdv : Value) (Ar : Around) (outer : List Env) (s : Shared) (H : Hp) (E : XK) (hr : Room 4 (Ar.deeper (envOfC "law" (defScope slaw) s.heap.objs.size A.flaw cdv))) :
    PSs (cxOf (L2N.CX P w) P w K mg base Nlaw "law" (defScope slaw) A.flaw cdv Ar outer s H E) (defBody slaw) (cS K (fun cls d _ H => E cls d H) (wlaw A)) := by
  have nd := sclaw.nd
  have tk : L2N.Takes (cxOf (L2N.CX P w) P w K mg base Nlaw "law" (defScope slaw) A.flaw cdv Ar outer s H E) (fun cls d _ H => E cls d H) := L2N.takes_of rfl rfl rfl rfl
  have po : PassesOwn (model P w) (Ar.deeper (envOfC "law" (defScope slaw) s.heap.objs.size A.flaw cdv)) (envOfC "law" (defScope slaw) s.heap.objs.size A.flaw cdv) (cxOf (L2N.CX P w) P w K mg base Nlaw "law" (defScope slaw) A.flaw cdv Ar outer s H E).xe := passes_of (X := cxOf (L2N.CX P w) P w K mg base Nlaw "law" (defScope slaw) A.flaw cdv Ar outer s H E) rfl
  exact dsCons (dSetO (ps_set (i := 1) nd rfl (by first | exact Or.inl rfl | exact Or.inr rfl) (dCallF F_law_open (hr.mono (by decide)) rfl T.f_law_open T.p_law_open T.a_law_open tk (dmV (dV (pv 0)) (dmNil))))) (dsCons (dFor (ps_for po rfl (diR1 (pi_range1 rfl T.b_range (daCons (dOp op_addA sr_add (dl (dI)) (dl (dCall F_law_draw (hr.mono (by decide)) rfl T.f_law_draw T.p_law_draw T.a_law_draw tk (dmIo (pv 1) (dmV (dI) (dmNil)))))) (daNil)))) (dgName (pg_name (i := 2) nd rfl (by first | exact Or.inl rfl | exact Or.inr rfl))) (dsCons (dSetO (ps_set (i := 3) nd rfl (by first | exact Or.inl rfl | exact Or.inr rfl) (dLst (daNil)))) (dsCons (dFor (ps_for po rfl (diR1 (pi_range1 rfl T.b_range (daCons (dI) (daNil)))) (dgName (pg_name (i := 4) nd rfl (by first | exact Or.inl rfl | exact Or.inr rfl))) (dsCons (dSet (ps_set (i := 6) nd rfl (by first | exact Or.inl rfl | exact Or.inr rfl) (dCall F_law_number (hr.mono (by decide)) rfl T.f_law_number T.p_law_number T.a_law_number tk (dmIo (pv 1) (dmNil))))) (dsCons (dSet (ps_set (i := 7) nd rfl (by first | exact Or.inl rfl | exact Or.inr rfl) (dCall F_law_number (hr.mono (by decide)) rfl T.f_law_number T.p_law_number T.a_law_number tk (dmIo (pv 1) (dmNil))))) (dsCons (dIfS (ps_if (dNot (dTv (dCall F_law_made (hr.mono (by decide)) rfl T.f_law_made T.p_law_made T.a_law_made tk (dmV (dV (pv 6)) (dmV (dV (pv 7)) (dmNil)))))) (dsOne (dRet (ps_ret (dB)))) (dsNil))) (dsCons (dIfS (ps_if (dTc (op_eqA hr.units) sr_eq (dN (pv 7)) (dl (dI)) (nomark _)) (dsOne (dSet (ps_set (i := 7) nd rfl (by first | exact Or.inl rfl | exact Or.inr rfl) (dI)))) (dsNil))) (dsOne (dApp (ps_expr (pe_bm PySem.F.plainAttrs_list PySem.F.slot_list_append PySem.F.type_list_append mt_append (pv 3) (pa_cons (dCall F_law_lowest (hr.mono (by decide)) rfl T.f_law_lowest T.p_law_lowest T.a_law_lowest tk (dmV (dV (pv 6)) (dmV (dV (pv 7)) (dmNil)))) pa_nil))))))))))) (dsCons (dIfS (ps_if (dTc (op_eqA hr.units) sr_eq (dl (dCall F_law_draw (hr.mono (by decide)) rfl T.f_law_draw T.p_law_draw T.a_law_draw tk (dmIo (pv 1) (dmV (dI) (dmNil))))) (dl (dI)) (nomark _)) (dsOne (dPut (ps_asg (dIx ix_seq sr_ix (dN (pv 3)) (dl (dI)) (fun _ _ => rfl)) (pg_sub (pv 3) (dl (dI)) set_list)))) (dsNil))) (dsCons (dFor (ps_for po rfl (diA (pi_lt (dV (pv 3)))) (dgName (pg_name (i := 5) nd rfl (by first | exact Or.inl rfl | exact Or.inr rfl))) (dsOne (dIfS (ps_if (PW.pt (dOr (dTc op_notBl sr_notB (dl (dCall Fis_fraction (hr.mono (by decide)) rfl T.fis_fraction T.pis_fraction T.ais_fraction tk (dmV (dV (pv 5)) (dmNil)))) (dl (dB)) (nomark _)) (pw_or1 (dNot (dTv (dCall F_law_kinds (hr.mono (by decide)) rfl T.f_law_kinds T.p_law_kinds T.a_law_kinds tk (dmV (dV (pv 5)) (dmNil)))))))) (dsOne (dRet (ps_ret (dB)))) (dsNil)))))) (dsOne (dIfS (ps_if (PW.pt (dOr (dNot (dTv (dCall F_law_sums (hr.mono (by decide)) rfl T.f_law_sums T.p_law_sums T.a_law_sums tk (dmV (dIx ix_seq sr_ix (dN (pv 3)) (dl (dI)) (fun _ _ => rfl)) (dmV (dIx ix_seq sr_ix (dN (pv 3)) (dl (dI)) (fun _ _ => rfl)) (dmNil)))))) (dOr (dNot (dTv (dCall F_law_sums (hr.mono (by decide)) rfl T.f_law_sums T.p_law_sums T.a_law_sums tk (dmV (dIx ix_seq sr_ix (dN (pv 3)) (dl (dI)) (fun _ _ => rfl)) (dmV (dIx ix_seq sr_ix (dN (pv 3)) (dl (dI)) (fun _ _ => rfl)) (dmNil)))))) (pw_or1 (dNot (dTv (dCall F_law_sums (hr.mono (by decide)) rfl T.f_law_sums T.p_law_sums T.a_law_sums tk (dmV (dIx ix_seq sr_ix (dN (pv 3)) (dl (dI)) (fun _ _ => rfl)) (dmV (dTup (daCons (dI) (daCons (dI) (daNil)))) (dmNil)))))))))) (dsOne (dRet (ps_ret (dB)))) (dsNil)))))))))) (dsOne (dRet (ps_ret (dB)))))
end
end Lw

namespace Lw
open PySem L2 Den Evl PySem.Spec PyProof.Rows
local macro_rules | `(tactic| walk_at "env") => `(tactic| (simp only [upds, setOwn, wipeE, setAll, List.foldr, back, keepVa, List.set_cons_zero, List.set_cons_succ, List.getElem?_cons_zero, List.getElem?_cons_succ]; try with_unfolding_all exact rfl))
local macro_rules | `(tactic| walk_at "lit") => `(tactic| (simp only [Int.reduceToNat, Int.reducePow]; try with_unfolding_all exact rfl))
local macro_rules | `(tactic| walk_at "w1") => `(tactic| first
  | with_reducible refine s_seq ?_
  | with_reducible refine s_set ?_
  | with_reducible refine s_L ?_
  | with_reducible refine s_C ?_
  | with_reducible refine s_op ?_
  | with_reducible refine s_N _ (by with_unfolding_all exact rfl) ?_
  | with_reducible refine s_Va _ (by with_unfolding_all exact rfl) ?_
  | with_reducible refine s_Vo _ (by with_unfolding_all exact rfl) ?_
  | with_reducible refine s_asg _ (by first | with_unfolding_all exact rfl | with_unfolding_all assumption) (by walk_at "env") ?_
  | with_reducible refine s_fr0 ?_
  | with_reducible refine s_lc ?_
  | with_reducible refine s_lr0 ?_
  | with_reducible refine s_lrs (by with_unfolding_all first | exact ⟨trivial, trivial⟩ | exact ⟨trivial, trivial, trivial⟩ | exact ⟨trivial, trivial, trivial, trivial⟩) ?_
  | with_reducible refine s_frs ?_
  | with_reducible refine s_next ?_
  | with_reducible refine s_setO ?_
  | with_reducible refine s_asgn ?_
  | with_reducible refine s_ret ?_
  | with_reducible refine s_retN ?_
  | with_reducible refine s_retF ?_
  | with_reducible refine s_drop ?_
  | with_reducible refine s_ifs ?_
  | with_reducible refine s_break ?_
  | with_reducible refine s_cont ?_
  | with_reducible refine s_raise ?_
  | with_reducible refine s_unp ?_
  | with_reducible refine s_unpT ?_
  | with_reducible refine s_all0 ?_
  | with_reducible refine s_alls ?_
  | with_reducible refine s_gname ?_
  | with_reducible refine s_gtup ?_
  | with_reducible refine s_glst ?_
  | with_reducible refine s_un ?_
  | with_reducible refine s_B1 ?_
  | with_reducible refine s_B2 ?_
  | with_reducible refine s_isi ?_
  | with_reducible refine s_chain ?_
  | with_reducible refine s_Tb ?_
  | with_reducible refine s_And ?_
  | with_reducible refine s_Or ?_
  | with_reducible refine s_Not ?_
  | with_reducible refine s_AndV ?_
  | with_reducible refine s_OrV ?_
  | with_reducible refine s_NotV ?_
  | with_reducible refine s_If ?_
  | with_reducible refine s_aNil ?_
  | with_reducible refine s_aCons ?_
  | with_reducible refine s_Tup ?_
  | with_reducible refine s_FE ?_
  | with_reducible refine s_mNil ?_
  | with_reducible refine s_mV ?_
  | with_reducible refine s_mIo _ (by with_unfolding_all exact rfl) ?_
  | with_reducible refine s_call ?_
  | with_reducible refine s_call0 ?_
  | with_reducible refine s_callF ?_
  | with_reducible refine s_args _ (by with_unfolding_all exact rfl) (by first | with_unfolding_all exact List.nodup_nil | with_unfolding_all exact List.nodup_singleton _ | decide) ?_
  | with_reducible refine s_iA ?_
  | with_reducible refine s_iL ?_
  | with_reducible refine s_iT ?_
  | with_reducible refine s_iR1 ?_
  | with_reducible refine s_iR1e ?_ (by first | decide | omega)
  | with_reducible refine s_iR1e ?_ ?_
  | with_reducible refine s_pNo ?_
  | with_reducible refine s_pAt ?_
  | with_reducible refine s_slL ?_
  | with_reducible refine s_Yes ?_
  | with_reducible refine s_for ?_
  | with_reducible refine s_try ?_
  | with_reducible refine s_told (by with_unfolding_all exact rfl) ?_
  | with_reducible refine s_isX (by with_unfolding_all exact rfl) ?_
  | with_reducible refine s_app ⟨(by with_unfolding_all exact ⟨fun _ _ => True, trivial⟩), ?_⟩
  | with_reducible refine s_put ?_
  | with_reducible refine s_owd _ (by with_unfolding_all exact rfl) ?_
  | with_reducible refine s_oio _ (by with_unfolding_all exact rfl) ?_
  | with_reducible refine s_powl _ (by unfold CPow; decide) (by walk_at "lit") ?_
  | with_reducible refine s_i ?_
  | with_reducible refine s_I ?_ (by walk_at "g")
  | with_reducible refine s_I ?_ ?_
  | with_reducible refine s_addi ?_
  | with_reducible refine s_addl ?_ (by walk_at "g")
  | with_reducible refine s_addl ?_ ?_
  | with_reducible refine s_addt ?_ (by walk_at "g")
  | with_reducible refine s_neg ?_
  | with_reducible refine s_eqi ?_
  | with_reducible refine s_nei ?_
  | with_reducible refine s_eqs ?_
  | with_reducible refine s_nes ?_
  | with_reducible refine s_isB ?_
  | with_reducible refine s_notB ?_
  | with_reducible refine s_ixl _ (by with_unfolding_all exact rfl) ?_
  | with_reducible refine s_ixt _ (by with_unfolding_all exact rfl) ?_
  | with_reducible refine s_abs ?_
  | with_reducible refine s_int ?_
  | with_reducible refine s_lenl ?_
  | with_reducible refine s_lent ?_
  | with_reducible refine s_gcd ?_
  | with_reducible refine s_ift (by with_unfolding_all exact rfl) ?_
  | with_reducible refine s_iff (by with_unfolding_all exact rfl) ?_
  | with_reducible refine And.intro (by with_unfolding_all exact ⟨fun _ _ => True, trivial⟩) ?_
  | with_reducible refine And.intro (by rw [sizeLine_eq]; decide) ?_
  | with_reducible refine And.intro (by decide) ?_
  | with_reducible refine And.intro (by with_unfolding_all first | exact ⟨trivial, trivial⟩ | exact ⟨trivial, trivial, trivial⟩ | exact ⟨trivial, trivial, trivial, trivial⟩) ?_
  | refine ⟨_, _, rfl, rfl, ?_⟩
  | refine ⟨_, rfl, ?_⟩)
local macro_rules | `(tactic| walk_at "st") => `(tactic| (unfold bxOf; simp only [List.replicate, List.cons_append, List.nil_append]))
local macro_rules | `(tactic| walk_at "w") => `(tactic| repeat walk_at "w1")
local macro_rules | `(tactic| walk_at "g") => `(tactic| first | assumption | (show _ ≠ (0 : Int); decide) | (show (0 : Int) ≤ _; decide))
theorem hwis_number (A : Ad) : ∀ pr R E, Sis_number A pr R E → wis_number A (bxOf 3 R E) (pr ++ List.replicate 0 .no) := by
  rintro pr R E ⟨d, a, b, rfl, h⟩
  unfold wis_number
  walk_at "st"
  walk_at "w"
  cases d with
  | int i =>
    walk_at "w"
    refine s_ifd (fun h1 => ?_) fun h1 => ?_
    · walk_at "w"
      have e : isNum (.int i) a b = decide (i ≤ b) := by show (decide (a ≤ i) && decide (i ≤ b)) = _; rw [decide_eq_true h1, Bool.true_and]
      rw [e] at h
      exact h
    · have e : isNum (.int i) a b = false := by show (decide (a ≤ i) && decide (i ≤ b)) = _; rw [decide_eq_false h1, Bool.false_and]
      rw [e] at h
      exact h
  | bool i => walk_at "w"; exact h
  | none => walk_at "w"; exact h
  | str i => walk_at "w"; exact h
  | list i => walk_at "w"; exact h
  | tuple i => walk_at "w"; exact h
  | dict i => walk_at "w"; exact h
theorem bigX_log {i : Int} (h : i.natAbs < bigX) : i.natAbs.log2 < 9000 := by
  by_cases z : i.natAbs = 0
  · rw [z]; decide
  · exact Nat.lt_of_lt_of_le ((Nat.log2_lt z).mpr h) (by decide)
theorem gcd_ne {p w : Int} (h : w ≠ 0) : (Nat.gcd p.natAbs w.natAbs : Int) ≠ 0 := fun z => by
  have z : Nat.gcd p.natAbs w.natAbs = 0 := by omega
  exact h (Int.natAbs_eq_zero.mp (Nat.gcd_eq_zero_iff.mp z).2)
theorem gcd_big {p w : Int} (h : w ≠ 0) (hw : w.natAbs < bigX) : ((Nat.gcd p.natAbs w.natAbs : Nat) : Int).natAbs < bigX := by
  have := Nat.gcd_le_right p.natAbs (Nat.pos_of_ne_zero fun z => h (Int.natAbs_eq_zero.mp z))
  rw [Int.natAbs_natCast]; omega
theorem hwmade (A : Ad) : ∀ pr R E, Smade A pr R E → wmade A (bxOf 2 R E) (pr ++ List.replicate 1 .no) := by
  rintro pr R E ⟨p, w, rfl, hp, hw, h0, h1⟩
  unfold wmade
  walk_at "st"
  walk_at "w"
  refine s_ifd (fun h => ?_) fun h => ?_
  · walk_at "w"; exact h0 h
  · have h1 := h1 h
    have g1 := gcd_ne (p := p) h
    have g2 := bigX_log (gcd_big (p := p) h hw)
    unfold lowN lowD at h1
    walk_at "w"
    refine s_ifd (fun h2 => ?_) fun h2 => ?_
    · rw [if_pos h2] at h1
      walk_at "w"
      · exact h1
      · exact ⟨g1, g2⟩
      · exact ⟨g1, g2⟩
    · rw [if_neg h2] at h1
      walk_at "w"
      · exact h1
      · exact ⟨by omega, by rw [Int.natAbs_neg]; exact g2⟩
      · exact ⟨by omega, by rw [Int.natAbs_neg]; exact g2⟩
theorem mulX {i j : Int} (h : i.natAbs < bigX) (k : j.natAbs < bigX) : CMulX i j := mulx_ok h k (by decide)
theorem hwless (A : Ad) : ∀ pr R E, Sless A pr R E → wless A (bxOf 2 R E) (pr ++ List.replicate 0 .no) := by
  rintro pr R E ⟨a, b, c, d, rfl, ha, hb, hc, hd, h⟩
  unfold wless fr
  walk_at "st"
  walk_at "w"
  · exact h
  · exact mulX hc hb
  · exact mulX ha hd
theorem xor_lt {x y : Int} (hx : 0 ≤ x) (hy : 0 ≤ y) : 0 ≤ Builtin.bitXor x y ∧ Builtin.bitXor x y ≤ x + y := by
  have a := PyProof.Rows.bitAnd_range x hy
  have b := PyProof.Rows.bitAnd_range y hx
  rw [PyProof.Rows.bitAnd_comm] at b
  rw [PyProof.Rows.bitXor_and]
  omega
theorem abs_pow {i : Int} {k : Nat} (h0 : 0 ≤ i) (h : i < 2 ^ k) : i.natAbs < 2 ^ k := by
  have e : ((2 ^ k : Nat) : Int) = 2 ^ k := by simp
  omega
theorem mulB {i j : Int} (k : Nat) (h0 : 0 ≤ i) (h : i < 2 ^ k) (hj : j.natAbs < 2 ^ 64) (hk : k ≤ 100000) : CMulX i j := mulx_ok (abs_pow h0 h) hj (by omega)
theorem mix_b (x : Int) : 0 ≤ x.fmod 2305843009213693952 ∧ x.fmod 2305843009213693952 < 2305843009213693952 := ⟨Int.fmod_nonneg_of_pos _ (by decide), Int.fmod_lt_of_pos _ (by decide)⟩
theorem mix_x (x : Int) (k : Nat) : 0 ≤ Builtin.bitXor (x.fmod 2305843009213693952) (x.fmod 2305843009213693952 / 2 ^ k) ∧ Builtin.bitXor (x.fmod 2305843009213693952) (x.fmod 2305843009213693952 / 2 ^ k) < 2 ^ 62 := by
  have a := mix_b x
  have e : (0 : Int) < 2 ^ k := Int.pow_pos (by decide)
  have b : 0 ≤ x.fmod 2305843009213693952 / 2 ^ k := Int.ediv_nonneg a.1 (by omega)
  have c : x.fmod 2305843009213693952 / 2 ^ k ≤ x.fmod 2305843009213693952 := Int.ediv_le_self _ a.1
  have d := xor_lt a.1 b
  omega
theorem hw_law_mixed (A : Ad) : ∀ pr R E, S_law_mixed A pr R E → w_law_mixed A (bxOf 2 R E) (pr ++ List.replicate 1 .no) := by
  rintro pr R E ⟨c, t, rfl, hc, h0, ht, h⟩
  unfold w_law_mixed
  walk_at "st"
  walk_at "w"
  · exact h _ (mix_b _).1
  · exact mulB 62 (mix_x _ _).1 (mix_x _ _).2 (by decide) (by decide)
  · exact mulB 62 (mix_x _ _).1 (mix_x _ _).2 (by decide) (by decide)
  · exact mulB 40 h0 ht (by decide) (by decide)
  · exact mulB 61 (Int.fmod_nonneg_of_pos _ (by decide)) (Int.lt_of_lt_of_le (Int.fmod_lt_of_pos _ (by decide)) (by decide)) (by decide) (by decide)
theorem hw_law_is (A : Ad) : ∀ pr R E, S_law_is A pr R E → w_law_is A (bxOf 2 R E) (pr ++ List.replicate 1 .no) := by
  rintro pr R E ⟨a, b, c, d, rfl, h⟩
  unfold w_law_is fr
  walk_at "st"
  walk_at "w"
  refine s_run (fun _ => False) (fun _ => False) _ rfl ?_
  walk_at "w"
  refine s_ifd (fun h1 => ?_) fun h1 => ?_
  · walk_at "w"
    rw [decide_eq_true h1, Bool.true_and] at h
    exact h
  · rw [decide_eq_false h1, Bool.false_and] at h
    exact h
theorem hwis_fraction (A : Ad) : ∀ pr R E, Sis_fraction A pr R E → wis_fraction A (bxOf 1 R E) (pr ++ List.replicate 2 .no) := by
  rintro pr R E ⟨d, rfl, h⟩
  unfold wis_fraction
  walk_at "st"
  walk_at "w"
  cases d with
  | int i => walk_at "w"; exact h
  | bool i => walk_at "w"; exact h
  | none => walk_at "w"; exact h
  | str i => walk_at "w"; exact h
  | list i => walk_at "w"; exact h
  | dict i => walk_at "w"; exact h
  | tuple xs =>
    walk_at "w"
    match xs with
    | [] => walk_at "w"; exact h
    | [a] => walk_at "w"; exact h
    | a :: b :: c :: xs =>
      refine s_ift ?_ ?_
      · simp only [List.length_cons, Bool.not_eq_true', decide_eq_false_iff_not]; omega
      · walk_at "w"; exact h
    | [a, b] =>
      walk_at "w"
      refine ⟨_, _, _, rfl, ?_⟩
      walk_at "w"
      by_cases h1 : isNum a (-(10 ^ 60)) (10 ^ 60) = true
      · refine s_ift h1 ?_
        walk_at "w"
        refine ⟨_, _, _, rfl, ?_⟩
        walk_at "w"
        by_cases h2 : isNum b 1 (10 ^ 60) = true
        · refine s_ift h2 ?_
          cases a with
          | int p =>
            cases b with
            | int w =>
              walk_at "w"
              have e : isFr (.tuple [.int p, .int w]) = (isNum (.int p) (-(10 ^ 60)) (10 ^ 60) && isNum (.int w) 1 (10 ^ 60) && decide (Nat.gcd p.natAbs w.natAbs = 1)) := rfl
              rw [e, h1, h2, Bool.true_and, Bool.true_and] at h
              have e2 : decide (((Nat.gcd p.natAbs w.natAbs : Nat) : Int) = 1) = decide (Nat.gcd p.natAbs w.natAbs = 1) := decide_eq_decide.mpr (by omega)
              rw [e2]
              exact h
            | _ => cases h2
          | _ => cases h1
        · refine s_iff (by simpa using h2) ?_
          have e : isFr (.tuple [a, b]) = false := by show (isNum a (-(10 ^ 60)) (10 ^ 60) && isNum b 1 (10 ^ 60) && _) = _; rw [show isNum b 1 (10 ^ 60) = false by simpa using h2, Bool.and_false, Bool.false_and]
          rw [e] at h
          exact h
      · refine s_iff (by simpa using h1) ?_
        have e : isFr (.tuple [a, b]) = false := by show (isNum a (-(10 ^ 60)) (10 ^ 60) && isNum b 1 (10 ^ 60) && _) = _; rw [show isNum a (-(10 ^ 60)) (10 ^ 60) = false by simpa using h1, Bool.false_and, Bool.false_and]
        rw [e] at h
        exact h

theorem atI_ints {cs : List Int} {i : Int} (h0 : 0 ≤ i) (h1 : i < (cs.length : Int)) : ∃ c, c ∈ cs ∧ atI (cs.map PyData.int) i = some (.int c) := by
  have hl : i.toNat < cs.length := by omega
  refine ⟨cs[i.toNat], List.getElem_mem hl, ?_⟩
  unfold atI ixN
  rw [List.length_map, if_pos h0, if_pos h1]
  show (cs.map PyData.int)[i.toNat]? = _
  rw [List.getElem?_map, List.getElem?_eq_getElem hl]
  rfl
theorem log_of {j : Int} (h0 : 0 < j) (h : j ≤ 10 ^ 100) : j.natAbs.log2 < 9000 :=
  bigX_log (Nat.lt_of_le_of_lt (m := 10 ^ 100) (by have : ((10 ^ 100 : Nat) : Int) = 10 ^ 100 := by decide +kernel
                                                   omega) (by decide +kernel))
theorem hw_law_draw (A : Ad) : ∀ pr R E, S_law_draw A pr R E → w_law_draw A (bxOf 2 R E) (pr ++ List.replicate 4 .no) := by
  rintro pr R E ⟨cs, n, size, ds, rfl, ⟨hc1, hc2, hc3⟩, ⟨t, l, rfl, ht0, htn, hl⟩, hn, hs0, hs1, h⟩
  have hne : size ≠ 0 := by omega
  have hlen : (List.map PyData.int cs).length = cs.length := List.length_map _
  have hlog := log_of hs0 hs1
  have hcl : (0 : Int) < ((List.map PyData.int cs).length : Int) := by rw [hlen]; omega
  have hcn : ((List.map PyData.int cs).length : Int) ≠ 0 := by omega
  have ht40 : t < 2 ^ 40 := by omega
  obtain ⟨c, hcm, hca⟩ := atI_ints (cs := cs) (i := t.fmod ((List.map PyData.int cs).length : Int)) (Int.fmod_nonneg_of_pos _ hcl) (by have := Int.fmod_lt_of_pos t hcl; omega)
  have hc0 := hc3 c hcm
  unfold w_law_draw
  walk_at "st"
  walk_at "w"
  refine s_ifd (fun h1 => ?_) fun h1 => ?_
  · walk_at "w"
    refine s_ixl _ hca ?_
    walk_at "w"
    refine s_ifd (fun h2 => ?_) fun h2 => ?_
    · walk_at "w"
      refine s_ifd (fun h3 => ?_) fun h3 => ?_
      · walk_at "w"
        · exact h _ _ (Int.fmod_nonneg_of_pos _ hs0) (Int.fmod_lt_of_pos _ hs0) ⟨t + 1, _, rfl, by omega, by omega, Int.fdiv_nonneg hc0 (by omega)⟩
        · exact ⟨hne, hlog⟩
      · walk_at "w"
        refine ⟨_, _, rfl, hc0, ht0, ht40, fun r hr => ?_⟩
        walk_at "w"
        · exact h _ _ (Int.fmod_nonneg_of_pos _ hs0) (Int.fmod_lt_of_pos _ hs0) ⟨t + 1, _, rfl, by omega, by omega, Int.fdiv_nonneg hr (by omega)⟩
        · exact ⟨hne, hlog⟩
    · walk_at "w"
      refine ⟨_, _, rfl, hc0, ht0, ht40, fun r hr => ?_⟩
      walk_at "w"
      · exact h _ _ (Int.fmod_nonneg_of_pos _ hs0) (Int.fmod_lt_of_pos _ hs0) ⟨t + 1, _, rfl, by omega, by omega, Int.fdiv_nonneg hr (by omega)⟩
      · exact ⟨hne, hlog⟩
  · walk_at "w"
    · exact h _ _ (Int.fmod_nonneg_of_pos _ hs0) (Int.fmod_lt_of_pos _ hs0) ⟨t, _, rfl, by omega, by omega, Int.fdiv_nonneg hl (by omega)⟩
    · exact ⟨hne, hlog⟩
theorem p60 {x : Int} (h : x.natAbs ≤ 10 ^ 60) : x.natAbs < 2 ^ 200 := Nat.lt_of_le_of_lt h (by decide)
theorem mul60 {x y : Int} (h : x.natAbs ≤ 10 ^ 60) (k : y.natAbs ≤ 10 ^ 60) : CMulX x y := mulx_ok (p60 h) (p60 k) (by decide)
theorem le120 {x y : Int} (h : x.natAbs ≤ 10 ^ 60) (k : y.natAbs ≤ 10 ^ 60) : (x * y).natAbs ≤ 10 ^ 120 := by
  rw [Int.natAbs_mul]
  exact Nat.le_trans (Nat.mul_le_mul h k) (by decide +kernel)
theorem le121 {x y : Int} (h : x.natAbs ≤ 10 ^ 60) (k : y.natAbs ≤ 10 ^ 60) : (x * y).natAbs ≤ 10 ^ 121 := Nat.le_trans (le120 h k) (by decide +kernel)
theorem add121 {x y : Int} (h : x.natAbs ≤ 10 ^ 120) (k : y.natAbs ≤ 10 ^ 120) : (x + y).natAbs ≤ 10 ^ 121 := Nat.le_trans (Int.natAbs_add_le _ _) (Nat.le_trans (Nat.add_le_add h k) (by decide +kernel))
theorem sub121 {x y : Int} (h : x.natAbs ≤ 10 ^ 120) (k : y.natAbs ≤ 10 ^ 120) : (x - y).natAbs ≤ 10 ^ 121 := Nat.le_trans (Int.natAbs_sub_le _ _) (Nat.le_trans (Nat.add_le_add h k) (by decide +kernel))
theorem big121 {x : Int} (h : x.natAbs ≤ 10 ^ 121) : x.natAbs < bigX := Nat.lt_of_le_of_lt h (Nat.lt_of_lt_of_le (m := 2 ^ 403) (by decide +kernel) (Nat.pow_le_pow_right (by decide) (by decide)))
theorem hwplus (A : Ad) : ∀ pr R E, Splus A pr R E → wplus A (bxOf 2 R E) (pr ++ List.replicate 0 .no) := by
  rintro pr R E ⟨a, b, c, d, rfl, ha, hb, hc, hd, h0, h1⟩
  unfold wplus fr
  walk_at "st"
  walk_at "w"
  · exact ⟨_, _, rfl, big121 (add121 (le120 ha hd) (le120 hc hb)), big121 (le121 hb hd), h0, h1⟩
  · exact mul60 hb hd
  · exact mul60 hc hb
  · exact mul60 ha hd
theorem hwminus (A : Ad) : ∀ pr R E, Sminus A pr R E → wminus A (bxOf 2 R E) (pr ++ List.replicate 0 .no) := by
  rintro pr R E ⟨a, b, c, d, rfl, ha, hb, hc, hd, h0, h1⟩
  unfold wminus fr
  walk_at "st"
  walk_at "w"
  · exact ⟨_, _, rfl, big121 (sub121 (le120 ha hd) (le120 hc hb)), big121 (le121 hb hd), h0, h1⟩
  · exact mul60 hb hd
  · exact mul60 hc hb
  · exact mul60 ha hd
theorem hwtimes (A : Ad) : ∀ pr R E, Stimes A pr R E → wtimes A (bxOf 2 R E) (pr ++ List.replicate 0 .no) := by
  rintro pr R E ⟨a, b, c, d, rfl, ha, hb, hc, hd, h0, h1⟩
  unfold wtimes fr
  walk_at "st"
  walk_at "w"
  · exact ⟨_, _, rfl, big121 (le121 ha hc), big121 (le121 hb hd), h0, h1⟩
  · exact mul60 hb hd
  · exact mul60 ha hc
theorem hwthrough (A : Ad) : ∀ pr R E, Sthrough A pr R E → wthrough A (bxOf 2 R E) (pr ++ List.replicate 0 .no) := by
  rintro pr R E ⟨a, b, c, d, rfl, ha, hb, hc, hd, h0, h1⟩
  unfold wthrough fr
  walk_at "st"
  walk_at "w"
  · exact ⟨_, _, rfl, big121 (le121 ha hd), big121 (le121 hb hc), h0, h1⟩
  · exact mul60 hb hc
  · exact mul60 ha hd

theorem Dr.up {cs : List Int} {n m : Int} {ds : List D} (h : Dr cs n ds) (k : n ≤ m) : Dr cs m ds := by
  obtain ⟨t, l, e, h0, h1, h2⟩ := h
  exact ⟨t, l, e, h0, by omega, h2⟩
theorem hw_law_wide (A : Ad) : ∀ pr R E, S_law_wide A pr R E → w_law_wide A (bxOf 2 R E) (pr ++ List.replicate 2 .no) := by
  rintro pr R E ⟨cs, n, size, ds, rfl, hcs, hd, hn, hs0, hs1, h⟩
  have hne : size ≠ 0 := by omega
  unfold w_law_wide
  walk_at "st"
  walk_at "w"
  refine s_run (fun _ => False) (fun _ => False) [.int 0, .int 1, .int 2, .int 3] rfl ?_
  walk_at "w"
  · refine ⟨cs, n, _, ds, rfl, hcs, hd, by omega, by decide, by decide, fun r1 d1 a1 b1 c1 => ?_⟩
    walk_at "w"
    · refine ⟨cs, n + 1, _, d1, rfl, hcs, c1, by omega, by decide, by decide, fun r2 d2 a2 b2 c2 => ?_⟩
      walk_at "w"
      · refine ⟨cs, n + 1 + 1, _, d2, rfl, hcs, c2, by omega, by decide, by decide, fun r3 d3 a3 b3 c3 => ?_⟩
        walk_at "w"
        · refine ⟨cs, n + 1 + 1 + 1, _, d3, rfl, hcs, c3, by omega, by decide, by decide, fun r4 d4 a4 b4 c4 => ?_⟩
          walk_at "w"
          exact h _ _ (Int.fmod_nonneg_of_pos _ hs0) (Int.fmod_lt_of_pos _ hs0) (c4.up (by omega))
        · exact mulB 180 (by omega) (by omega) (by decide) (by decide)
      · exact mulB 120 (by omega) (by omega) (by decide) (by decide)
    · exact mulB 60 (by omega) (by omega) (by decide) (by decide)
  · exact mulB 60 (by omega) (by omega) (by decide) (by decide)
theorem n60 {i : Int} (h0 : -(10 ^ 60) ≤ i) (h : i ≤ 10 ^ 60) : i.natAbs ≤ 10 ^ 60 := by
  have : ((10 ^ 60 : Nat) : Int) = 10 ^ 60 := by decide +kernel
  omega
theorem hw_law_number (A : Ad) : ∀ pr R E, S_law_number A pr R E → w_law_number A (bxOf 1 R E) (pr ++ List.replicate 3 .no) := by
  rintro pr R E ⟨cs, n, ds, rfl, hcs, hd, hn, h⟩
  unfold w_law_number
  walk_at "st"
  walk_at "w"
  refine ⟨cs, n, _, ds, rfl, hcs, hd, by omega, by decide, by decide, fun r1 d1 a1 b1 c1 => ?_⟩
  have hr : r1 = 0 ∨ r1 = 1 ∨ r1 = 2 ∨ r1 = 3 := by omega
  rcases hr with rfl | rfl | rfl | rfl
  · walk_at "w"
    refine ⟨cs, n + 1, _, d1, rfl, hcs, c1, by omega, by decide, by decide, fun r2 d2 a2 b2 c2 => ?_⟩
    walk_at "w"
    refine ⟨cs, n + 1 + 1, _, d2, rfl, hcs, c2, by omega, by decide, by decide, fun r3 d3 a3 b3 c3 => ?_⟩
    walk_at "w"
    refine s_ifd (fun h1 => ?_) fun h1 => ?_
    · walk_at "w"; exact h _ _ (n60 (by omega) (by omega)) (c3.up (by omega))
    · walk_at "w"; exact h _ _ (n60 (by omega) (by omega)) (c3.up (by omega))
  · walk_at "w"
    refine ⟨cs, n + 1, _, d1, rfl, hcs, c1, by omega, by decide, by decide, fun r2 d2 a2 b2 c2 => ?_⟩
    walk_at "w"
    refine ⟨cs, n + 1 + 1, _, d2, rfl, hcs, c2, by omega, by decide, by decide, fun r3 d3 a3 b3 c3 => ?_⟩
    walk_at "w"
    refine s_ifd (fun h1 => ?_) fun h1 => ?_
    · walk_at "w"; exact h _ _ (n60 (by omega) (by omega)) (c3.up (by omega))
    · walk_at "w"; exact h _ _ (n60 (by omega) (by omega)) (c3.up (by omega))
  · walk_at "w"
    refine ⟨cs, n + 1, _, d1, rfl, hcs, c1, by omega, by decide, by decide, fun r2 d2 a2 b2 c2 => ?_⟩
    walk_at "w"
    refine ⟨cs, n + 1 + 1, _, d2, rfl, hcs, c2, by omega, by decide, by decide, fun r3 d3 a3 b3 c3 => ?_⟩
    walk_at "w"
    refine s_ifd (fun h1 => ?_) fun h1 => ?_
    · walk_at "w"; exact h _ _ (n60 (by omega) (by omega)) (c3.up (by omega))
    · walk_at "w"; exact h _ _ (n60 (by omega) (by omega)) (c3.up (by omega))
  · walk_at "w"
    refine ⟨cs, n + 1, _, d1, rfl, hcs, c1, by omega, by decide, by decide, fun r2 d2 a2 b2 c2 => ?_⟩
    walk_at "w"
    refine ⟨cs, n + 1 + 4, _, d2, rfl, hcs, c2, by omega, by decide, by decide, fun r3 d3 a3 b3 c3 => ?_⟩
    walk_at "w"
    refine s_ifd (fun h1 => ?_) fun h1 => ?_
    · walk_at "w"
      refine ⟨cs, n + 1 + 4 + 1, _, d3, rfl, hcs, c3, by omega, by decide, by decide, fun r4 d4 a4 b4 c4 => ?_⟩
      have q0 := Int.fmod_nonneg_of_pos r2 (b := 5) (by decide)
      have q1 := Int.fmod_lt_of_pos r2 (b := 5) (by decide)
      walk_at "w"
      refine s_ifd (fun h2 => ?_) fun h2 => ?_
      · walk_at "w"; exact h _ _ (n60 (by omega) (by omega)) (c4.up (by omega))
      · walk_at "w"; exact h _ _ (n60 (by omega) (by omega)) (c4.up (by omega))
    · walk_at "w"
      refine ⟨cs, n + 1 + 4 + 1, _, d3, rfl, hcs, c3, by omega, by decide, by decide, fun r4 d4 a4 b4 c4 => ?_⟩
      walk_at "w"
      refine s_ifd (fun h2 => ?_) fun h2 => ?_
      · walk_at "w"; exact h _ _ (n60 (by omega) (by omega)) (c4.up (by omega))
      · walk_at "w"; exact h _ _ (n60 (by omega) (by omega)) (c4.up (by omega))
/-! Euclid -/
def Eu (i a b : Nat) : Prop := (i = 0 ∧ a ≤ 10 ^ 121 ∧ b ≤ 10 ^ 121) ∨ (0 < i ∧ b ≤ a ∧ a * b * 2 ^ i ≤ 2 * 10 ^ 242)
theorem eu_step {i a b : Nat} (h : Eu i a b) (hb : b ≠ 0) : Eu (i + 1) b (a % b) := by
  have hm : a % b < b := Nat.mod_lt _ (by omega)
  rcases h with ⟨rfl, h1, h2⟩ | ⟨h0, h1, h2⟩
  · refine .inr ⟨by omega, by omega, ?_⟩
    have e : b * (a % b) ≤ 10 ^ 121 * 10 ^ 121 := Nat.mul_le_mul h2 (by omega)
    have e2 : (10 : Nat) ^ 121 * 10 ^ 121 = 10 ^ 242 := by decide +kernel
    omega
  · refine .inr ⟨by omega, by omega, ?_⟩
    have e : b * (a % b) * 2 ≤ a * b := by
      have q : a % b + a % b ≤ a := by
        have d := Nat.div_add_mod a b
        have p : 1 ≤ a / b := (Nat.one_le_div_iff (by omega)).mpr h1
        have m : b * 1 ≤ b * (a / b) := Nat.mul_le_mul_left b p
        omega
      calc b * (a % b) * 2 = b * (a % b + a % b) := by rw [Nat.mul_assoc, Nat.mul_two]
        _ ≤ b * a := Nat.mul_le_mul_left b q
        _ = a * b := Nat.mul_comm b a
    calc b * (a % b) * 2 ^ (i + 1) = b * (a % b) * 2 * 2 ^ i := by rw [Nat.pow_succ, Nat.mul_comm (2 ^ i) 2, Nat.mul_assoc (b * (a % b))]
      _ ≤ a * b * 2 ^ i := Nat.mul_le_mul_right _ e
      _ ≤ _ := h2
theorem eu_end {a b : Nat} (h : Eu 1000 a b) : b = 0 := by
  rcases h with ⟨z, _⟩ | ⟨_, h1, h2⟩
  · cases z
  · by_cases hb : b = 0
    · exact hb
    · have : 1 ≤ a * b := Nat.mul_pos (by omega) (by omega)
      have q : 1 * 2 ^ 1000 ≤ a * b * 2 ^ 1000 := Nat.mul_le_mul_right _ this
      have z : 2 * 10 ^ 242 < 1 * 2 ^ 1000 := by decide +kernel
      omega
theorem abs_nat (i : Int) : (if i < 0 then -i else i) = (i.natAbs : Int) := by split <;> omega
theorem low_sgn (p w : Int) (h : w ≠ 0) : (if w < 0 then (-1) * p else 1 * p).fdiv (Nat.gcd p.natAbs w.natAbs : Int) = lowN p w ∧ (if w < 0 then (-1) * w else 1 * w).fdiv (Nat.gcd p.natAbs w.natAbs : Int) = lowD p w := by
  unfold lowN lowD
  by_cases k : 0 < w
  · rw [if_neg (show ¬ w < 0 by omega), if_neg (show ¬ w < 0 by omega), if_pos k, Int.one_mul, Int.one_mul]; exact ⟨rfl, rfl⟩
  · rw [if_pos (show w < 0 by omega), if_pos (show w < 0 by omega), if_neg k, Int.neg_one_mul, Int.neg_one_mul]
    exact ⟨by rw [← Int.neg_fdiv_neg, Int.neg_neg], by rw [← Int.neg_fdiv_neg, Int.neg_neg]⟩
theorem fmod_nat (a b : Nat) : (a : Int).fmod (b : Int) = ((a % b : Nat) : Int) := by
  rw [Int.fmod_eq_emod_of_nonneg _ (Int.natCast_nonneg b)]; rfl
theorem hw_law_lowest (A : Ad) : ∀ pr R E, S_law_lowest A pr R E → w_law_lowest A (bxOf 2 R E) (pr ++ List.replicate 5 .no) := by
  rintro pr R E ⟨p, w, rfl, hp, hw, hne, h⟩
  have g1 := gcd_ne (p := p) hne
  have g2 := bigX_log (gcd_big (p := p) hne (big121 hw))
  obtain ⟨e1, e2⟩ := low_sgn p w hne
  rw [← e1, ← e2] at h
  unfold w_law_lowest
  walk_at "st"
  walk_at "w"
  rw [abs_nat, abs_nat]
  refine s_cut (fun ρ' => ∃ sk sr : Sl, nio (some sk) = true ∧ nio (some sr) = true ∧ ρ' = [.va (.int p), .va (.int w), .va (.int (Nat.gcd p.natAbs w.natAbs : Nat)), .va (.int 0), sk, .no, sr]) ?_ fun hz => ?_
  · rintro ρ' ⟨sk, sr, n1, n2, rfl⟩
    walk_at "w"
    refine s_ifd (fun h1 => ?_) fun h1 => ?_
    · rw [if_pos h1, if_pos h1] at h
      walk_at "w"
      · exact h
      · exact ⟨g1, g2⟩
      · exact mulx_ok (a := 1) (b := 4000) (by decide) (big121 hw) (by decide)
      · exact ⟨g1, g2⟩
      · exact mulx_ok (a := 1) (b := 4000) (by decide) (big121 hp) (by decide)
    · rw [if_neg h1, if_neg h1] at h
      walk_at "w"
      · exact h
      · exact ⟨g1, g2⟩
      · exact mulx_ok (a := 1) (b := 4000) (by decide) (big121 hw) (by decide)
      · exact ⟨g1, g2⟩
      · exact mulx_ok (a := 1) (b := 4000) (by decide) (big121 hp) (by decide)
  · refine s_inv (fun i ρ' => ∃ (a b : Nat) (sk sr : Sl), nio (some sk) = true ∧ nio (some sr) = true ∧ ρ' = [.va (.int p), .va (.int w), .va (.int (a : Int)), .va (.int (b : Int)), sk, .no, sr] ∧ Nat.gcd a b = Nat.gcd p.natAbs w.natAbs ∧ Eu i a b) ⟨_, _, _, _, rfl, rfl, rfl, rfl, .inl ⟨rfl, hp, hw⟩⟩ ?_ ?_
    · rintro i d ρ' _ ⟨a, b, sk, sr, n1, n2, rfl, hg, eu⟩
      walk_at "w"
      refine s_ifd (fun h1 => ?_) fun h1 => ?_
      · walk_at "w1"
        have hb : b = 0 := by omega
        subst hb
        rw [Nat.gcd_zero_right] at hg
        subst hg
        exact hz _ ⟨.va d, sr, rfl, n2, rfl⟩
      · walk_at "w"
        have hb : b ≠ 0 := by omega
        rw [fmod_nat]
        exact ⟨b, a % b, _, _, rfl, rfl, rfl, by rw [← hg, Nat.gcd_comm a b, Nat.gcd_rec b a, Nat.gcd_comm], eu_step eu hb⟩
    · rintro ρ' ⟨a, b, sk, sr, n1, n2, rfl, hg, eu⟩
      have hb := eu_end eu
      subst hb
      rw [Nat.gcd_zero_right] at hg
      subst hg
      exact hz _ ⟨sk, sr, n1, n2, rfl⟩

theorem nmE (A : Ad) : nm A A.cOutOfRange = some (Str.ofString "OutOfRange") := by unfold nm; rw [if_pos rfl]
theorem ctE (A : Ad) : catOf (nm A) A.cOutOfRange = some true := by unfold catOf; rw [nmE]; rfl
theorem same2 (x y : Int) : (decide (x = x) && decide (y = y)) = true := by simp
theorem cut_mem {xs : List D} {lo hi : Option Int} {d : D} (h : d ∈ cutG xs lo hi) : d ∈ xs := List.mem_of_mem_drop (List.mem_of_mem_take h)
theorem cut_len (xs : List D) (lo hi : Option Int) : (cutG xs lo hi).length ≤ xs.length := by
  unfold cutG
  rw [List.length_take, List.length_drop]
  omega
theorem hw_law_open (A : Ad) : ∀ pr R E, S_law_open A pr R E → w_law_open A (bxF 1 R E) (pr ++ List.replicate 2 .no) := by
  rintro pr R E ⟨ns, rfl, hl, h⟩
  unfold w_law_open bxF
  simp only [List.replicate, List.cons_append, List.nil_append]
  walk_at "w"
  have hlen := cut_len (ns.map PyData.int) none (some 63)
  rw [List.length_map] at hlen
  refine ⟨fun i acc ρ' => ρ' = [Sl.va (PyData.list (List.map PyData.int ns)), Sl.no, Sl.no] ∧ i ≤ (cutG (ns.map PyData.int) none (some 63)).length ∧ ∃ cs : List Int, acc = cs.map PyData.int ∧ (∀ c ∈ cs, 0 ≤ c) ∧ cs.length = i, ⟨rfl, Nat.zero_le _, [], rfl, (fun _ z => nomatch z), rfl⟩, ?_, ?_⟩
  · rintro i d acc ρ' hd ⟨rfl, hi, cs, rfl, hc, rfl⟩
    obtain ⟨z1, z2⟩ := List.getElem?_eq_some_iff.mp hd
    obtain ⟨n, _, rfl⟩ := List.mem_map.mp (cut_mem (List.mem_of_getElem? hd))
    walk_at "w"
    rw [abs_nat]
    refine ⟨by rw [sizeLine_eq, List.length_map]; omega, ⟨trivial, trivial⟩, rfl, z1, cs ++ [(n.natAbs : Int)], by simp, ?_, by simp⟩
    intro c m
    rcases List.mem_append.mp m with m | m
    · exact hc c m
    · rw [List.mem_singleton.mp m]; omega
  · rintro acc ρ' ⟨rfl, hi, cs, rfl, hc, hcl⟩
    walk_at "w"
    · refine h (cs ++ [0]) _ ⟨by simp, by simp; omega, ?_⟩ ⟨0, 0, by simp, by omega, by omega, by omega⟩
      intro c m
      rcases List.mem_append.mp m with m | m
      · exact hc c m
      · rw [List.mem_singleton.mp m]; omega
    · rw [sizeLine_eq, List.length_map]; simp; omega
theorem hw_law_told_OutOfRange (a : Addr) : w_law_told a true false false false false true { nx := fun _ => False, rt := fun d _ => d = .str "OutOfRange" } (.ex a :: ["kinds", "names", "name", "true"].map fun _ => .no) := by
  unfold w_law_told
  simp only [List.map]
  walk_at "w"
  refine s_lr ?_
  walk_at "w"
  rfl
theorem hw_law_made (A : Ad) : ∀ pr R E, S_law_made A pr R E → w_law_made A (bxOf 2 R E) (pr ++ List.replicate 2 .no) := by
  rintro pr R E ⟨p, w, rfl, hp, hw, h⟩
  unfold w_law_made
  walk_at "st"
  walk_at "w"
  refine ⟨p, w, rfl, big121 hp, big121 hw, fun hz => ?_, fun hn => ?_⟩
  · refine catK_t (ctE A) fun a => ?_
    walk_at "w"
    refine s_suite (nmE A) ?_
    walk_at "w"
    refine s_ift (decide_eq_true hz) ?_
    walk_at "w"
    exact h
  · walk_at "w"
    refine s_ifn (fun _ => ?_) fun z => (hn z).elim
    walk_at "w"
    refine ⟨p, w, rfl, hp, hw, hn, ?_⟩
    walk_at "w"
    refine ⟨_, _, _, _, rfl, ?_⟩
    rw [same2]
    exact h
theorem fr60 {a b : Int} (h : Fr a b) : a.natAbs ≤ 10 ^ 60 ∧ b.natAbs ≤ 10 ^ 60 := ⟨h.1, n60 (by have := h.2.1; omega) h.2.2.1⟩
theorem fr0 {a b : Int} (h : Fr a b) : b ≠ 0 := by have := h.2.1; omega
theorem hw_law_through (A : Ad) : ∀ pr R E, S_law_through A pr R E → w_law_through A (bxOf 2 R E) (pr ++ List.replicate 2 .no) := by
  rintro pr R E ⟨a, b, c, d, rfl, f1, f2, h⟩
  have q1 := fr60 f1
  have q2 := fr60 f2
  unfold w_law_through
  walk_at "st"
  walk_at "w"
  refine ⟨a, b, c, d, rfl, q1.1, q1.2, q2.1, q2.2, fun hz => ?_, fun hn => ?_⟩
  · have hz : b * c = 0 := hz
    have hc : c = 0 := (Int.mul_eq_zero.mp hz).resolve_left (fr0 f1)
    refine catK_t (ctE A) fun x => ?_
    walk_at "w"
    refine s_suite (nmE A) ?_
    unfold fr
    walk_at "w"
    refine s_ift (decide_eq_true hc) ?_
    walk_at "w"
    exact h
  · have hn : b * c ≠ 0 := hn
    have hc : c ≠ 0 := fun z => hn (by rw [z, Int.mul_zero])
    unfold fr
    walk_at "w"
    refine s_ifn (fun _ => ?_) fun z => (hc z).elim
    walk_at "w"
    · refine ⟨_, _, rfl, le121 q1.1 q2.2, le121 q1.2 q2.1, hn, ?_⟩
      walk_at "w"
      refine ⟨_, _, _, _, rfl, ?_⟩
      rw [same2]
      exact h
    · exact mul60 q1.2 q2.1
    · exact mul60 q1.1 q2.2
theorem low_fr {p w : Int} (hp : p.natAbs ≤ 10 ^ 60) (hw : w.natAbs ≤ 10 ^ 60) (h : w ≠ 0) : Fr (lowN p w) (lowD p w) := by
  have hg : 0 < Nat.gcd p.natAbs w.natAbs := Nat.gcd_pos_of_pos_right _ (by omega)
  have hs : ∃ s : Int, s.natAbs = Nat.gcd p.natAbs w.natAbs ∧ lowN p w = p.fdiv s ∧ lowD p w = w.fdiv s ∧ (0 < s ↔ 0 < w) := by
    unfold lowN lowD
    by_cases k : 0 < w
    · rw [if_pos k]; exact ⟨_, by simp, rfl, rfl, by omega⟩
    · rw [if_neg k]; exact ⟨_, by simp, rfl, rfl, by omega⟩
  obtain ⟨s, e, en, ed, hsgn⟩ := hs
  have hs0 : s ≠ 0 := by omega
  have dp : s ∣ p := Int.natAbs_dvd_natAbs.mp (by rw [e]; exact Nat.gcd_dvd_left _ _)
  have dw : s ∣ w := Int.natAbs_dvd_natAbs.mp (by rw [e]; exact Nat.gcd_dvd_right _ _)
  obtain ⟨x, rfl⟩ := dp
  obtain ⟨y, rfl⟩ := dw
  rw [Int.mul_fdiv_cancel_left _ hs0] at en ed
  rw [en, ed]
  have hsn : 1 ≤ s.natAbs := by omega
  rw [Int.natAbs_mul] at hp hw
  have hx : x.natAbs ≤ s.natAbs * x.natAbs := Nat.le_mul_of_pos_left _ hsn
  have hy : y.natAbs ≤ s.natAbs * y.natAbs := Nat.le_mul_of_pos_left _ hsn
  have hy0 : 0 < y := by
    by_cases k : 0 < s
    · exact Int.pos_of_mul_pos_right (hsgn.mp k) k
    · have : s * y ≤ 0 := by have := fun z => k (hsgn.mpr z); omega
      by_cases q : 0 < y
      · exact q
      · have : s * y = (-s) * (-y) := by rw [Int.neg_mul_neg]
        have z : 0 ≤ (-s) * (-y) := Int.mul_nonneg (by omega) (by omega)
        exact absurd (by omega : s * y = 0) h
  refine ⟨by omega, by omega, ?_, ?_⟩
  · have : ((10 ^ 60 : Nat) : Int) = 10 ^ 60 := by decide +kernel
    omega
  · rw [Int.natAbs_mul, Int.natAbs_mul, Nat.gcd_mul_left] at e
    exact Nat.eq_of_mul_eq_mul_left hsn (by omega)
theorem nfr {d : D} (h : isFr d = false) : (!decide (isFr d = false)) = false := by rw [h]; rfl
theorem yfr {d : D} (h : isFr d = true) : (!decide (isFr d = true)) = false := by rw [h]; rfl
theorem fr_is {a b : Int} (h : Fr a b) : isFr (fr a b) = true := by
  have e : isFr (fr a b) = ((decide (-(10 ^ 60) ≤ a) && decide (a ≤ 10 ^ 60)) && (decide (1 ≤ b) && decide (b ≤ 10 ^ 60)) && decide (Nat.gcd a.natAbs b.natAbs = 1)) := rfl
  have n := h.1
  have : ((10 ^ 60 : Nat) : Int) = 10 ^ 60 := by decide +kernel
  rw [e, decide_eq_true h.2.2.2, decide_eq_true h.2.1, decide_eq_true h.2.2.1, decide_eq_true (by omega), decide_eq_true (by omega)]
  rfl
theorem num_no {d : D} {a b : Int} (h : ∀ i, d = .int i → i < a ∨ b < i) : isNum d a b = false := by
  unfold isNum
  split
  · rename_i i
    have := h i rfl
    by_cases q : a ≤ i
    · rw [decide_eq_true q, decide_eq_false (by omega)]; rfl
    · rw [decide_eq_false q]; rfl
  · rfl
theorem fr_no1 {x y : D} (h : isNum x (-(10 ^ 60)) (10 ^ 60) = false) : isFr (.tuple [x, y]) = false := by
  show (isNum x (-(10 ^ 60)) (10 ^ 60) && isNum y 1 (10 ^ 60) && _) = _
  rw [h, Bool.false_and, Bool.false_and]
theorem fr_no2 {x y : D} (h : isNum y 1 (10 ^ 60) = false) : isFr (.tuple [x, y]) = false := by
  show (isNum x (-(10 ^ 60)) (10 ^ 60) && isNum y 1 (10 ^ 60) && _) = _
  rw [h, Bool.and_false, Bool.false_and]
theorem fr_dbl {a b : Int} : isFr (.tuple [.int (2 * a), .int (2 * b)]) = false := by
  show (isNum (.int (2 * a)) (-(10 ^ 60)) (10 ^ 60) && isNum (.int (2 * b)) 1 (10 ^ 60) && decide (Nat.gcd (2 * a).natAbs (2 * b).natAbs = 1)) = _
  have e : ¬ Nat.gcd (2 * a).natAbs (2 * b).natAbs = 1 := by
    rw [Int.natAbs_mul, Int.natAbs_mul, Nat.gcd_mul_left]
    show ¬ 2 * _ = 1
    omega
  rw [decide_eq_false e, Bool.and_false]
set_option maxHeartbeats 4000000 in
theorem hw_law_kinds (A : Ad) : ∀ pr R E, S_law_kinds A pr R E → w_law_kinds A (bxOf 1 R E) (pr ++ List.replicate 4 .no) := by
  rintro pr R E ⟨a, b, rfl, f, h⟩
  unfold w_law_kinds fr
  walk_at "st"
  walk_at "w"
  refine s_run (fun _ => False) (fun _ => False) _ rfl ?_
  walk_at "w"
  refine s_iff (nfr fr_dbl) ?_
  walk_at "w"
  refine s_iff (nfr (fr_no2 (num_no fun i z => by cases z; have := f.2.1; omega))) ?_
  walk_at "w"
  refine s_iff (nfr (fr_no2 (by decide +kernel))) ?_
  walk_at "w"
  refine s_iff (nfr (fr_no2 rfl)) ?_
  walk_at "w"
  · rw [show isFr (.tuple [.int (-1), .int 1000000000000000000000000000000000000000000000000000000000000]) = true by decide +kernel]
    exact h
  · exact mulx_ok (a := 64) (b := 200) (by decide) (p60 (fr60 f).2) (by decide)
  · exact mulx_ok (a := 64) (b := 200) (by decide) (p60 (fr60 f).1) (by decide)

set_option maxHeartbeats 4000000 in
theorem hw_law_sums (A : Ad) : ∀ pr R E, S_law_sums A pr R E → w_law_sums A (bxOf 2 R E) (pr ++ List.replicate 5 .no) := by
  rintro pr R E ⟨a, b, c, d, rfl, f1, f2, h⟩
  have q1 := fr60 f1
  have q2 := fr60 f2
  have hbd : b * d ≠ 0 := Int.mul_ne_zero (fr0 f1) (fr0 f2)
  have m1 := mul60 q1.1 q2.2
  have m2 := mul60 q2.1 q1.2
  have m3 := mul60 q1.2 q2.2
  have m4 := mul60 q1.1 q2.1
  unfold w_law_sums
  unfold fr
  walk_at "st"
  walk_at "w"
  refine ⟨a, b, c, d, rfl, q1.1, q1.2, q2.1, q2.2, fun z => (hbd z).elim, fun _ => ?_⟩
  walk_at "w"
  refine ⟨_, _, rfl, add121 (le120 q1.1 q2.2) (le120 q2.1 q1.2), le121 q1.2 q2.2, hbd, ?_⟩
  walk_at "w"
  refine ⟨_, _, _, _, rfl, ?_⟩
  walk_at "w"
  refine s_iff (by rw [same2]; rfl) ?_
  walk_at "w"
  refine ⟨a, b, c, d, rfl, q1.1, q1.2, q2.1, q2.2, fun z => (hbd z).elim, fun _ => ?_⟩
  walk_at "w"
  refine ⟨_, _, rfl, sub121 (le120 q1.1 q2.2) (le120 q2.1 q1.2), le121 q1.2 q2.2, hbd, ?_⟩
  walk_at "w"
  refine ⟨_, _, _, _, rfl, ?_⟩
  walk_at "w"
  refine s_iff (by rw [same2]; rfl) ?_
  walk_at "w"
  refine ⟨a, b, c, d, rfl, q1.1, q1.2, q2.1, q2.2, fun z => (hbd z).elim, fun _ => ?_⟩
  walk_at "w"
  refine ⟨_, _, rfl, le121 q1.1 q2.1, le121 q1.2 q2.2, hbd, ?_⟩
  walk_at "w"
  refine ⟨_, _, _, _, rfl, ?_⟩
  walk_at "w"
  refine s_iff (by rw [same2]; rfl) ?_
  walk_at "w"
  have z60 : ∀ {x : Int}, x.natAbs ≤ 10 ^ 60 → x.natAbs < bigX := fun k => big121 (Nat.le_trans k (by decide +kernel))
  refine ⟨a, b, c, d, rfl, z60 q1.1, z60 q1.2, z60 q2.1, z60 q2.2, ?_⟩
  walk_at "w"
  refine s_ifd (fun hlt => ?_) fun hlt => ?_
  · rw [decide_eq_true hlt]
    walk_at "w"
    refine s_iff (decide_eq_false (by omega)) ?_
    walk_at "w"
    exact ⟨a, b, c, d, rfl, f1, f2, h⟩
  · rw [decide_eq_false hlt]
    walk_at "w"
    refine s_ift (decide_eq_true (by omega)) ?_
    walk_at "w"
    exact ⟨a, b, c, d, rfl, f1, f2, h⟩

theorem rng_lt {lo : Int} {n i : Nat} {d : D} (h : (rng lo n)[i]? = some d) : i < n := by
  obtain ⟨z, _⟩ := List.getElem?_eq_some_iff.mp h
  unfold rng at z
  rw [List.length_map, List.length_range] at z
  exact z
theorem rng_len (lo : Int) (n : Nat) : (rng lo n).length = n := by unfold rng; rw [List.length_map, List.length_range]
set_option maxHeartbeats 8000000 in
theorem hwlaw (A : Ad) : ∀ pr R E, Slaw A pr R E → wlaw A (bxOf 1 R E) (pr ++ List.replicate 7 .no) := by
  rintro pr R E ⟨ns, hl, rfl, h⟩
  unfold wlaw
  walk_at "st"
  walk_at "w"
  refine ⟨hl, fun cs ds hcs hd => ?_⟩
  walk_at "w"
  refine ⟨cs, 0, _, ds, rfl, hcs, hd, by omega, by decide, by decide, fun r d1 a1 b1 c1 => ?_⟩
  walk_at "w"
  refine ⟨by omega, ?_⟩
  refine s_inv (fun i ρ' => ∃ (ds : List D) (s2 s3 s4 s5 s6 s7 : Sl), nio (some s2) = true ∧ nio (some s3) = true ∧ nio (some s4) = true ∧ nio (some s5) = true ∧ nio (some s6) = true ∧ nio (some s7) = true ∧ Dr cs (1 + 40 * (i : Int)) ds ∧ ρ' = [.va (.list (ns.map PyData.int)), .ow ds, s2, s3, s4, s5, s6, s7]) ⟨d1, _, _, _, _, _, _, rfl, rfl, rfl, rfl, rfl, rfl, c1.up (by omega), rfl⟩ ?_ ?_
  · rintro i d ρ' hi ⟨ds, s2, s3, s4, s5, s6, s7, n2, n3, n4, n5, n6, n7, hd, rfl⟩
    have hi := rng_lt hi
    walk_at "w"
    refine s_inv (fun k ρ' => ∃ (ds : List D) (fs : List (Int × Int)) (s4 s5 s6 s7 : Sl), nio (some s4) = true ∧ nio (some s5) = true ∧ nio (some s6) = true ∧ nio (some s7) = true ∧ Dr cs (1 + 40 * (i : Int) + 14 * (k : Int)) ds ∧ fs.length = k ∧ (∀ f ∈ fs, Fr f.1 f.2) ∧ ρ' = [.va (.list (ns.map PyData.int)), .ow ds, .va d, .ow (fs.map fun f => fr f.1 f.2), s4, s5, s6, s7]) ⟨ds, [], _, _, _, _, n4, n5, n6, n7, hd.up (by omega), rfl, (fun _ z => nomatch z), rfl⟩ ?_ ?_
    · rintro k dk ρ' hk ⟨ds, fs, s4, s5, s6, s7, n4, n5, n6, n7, hd, hfl, hfs, rfl⟩
      have hk := rng_lt hk
      have hk2 : k < 2 := hk
      walk_at "w"
      refine ⟨cs, _, ds, rfl, hcs, hd, by omega, fun r1 e1 a1 c1 => ?_⟩
      walk_at "w"
      refine ⟨cs, _, e1, rfl, hcs, c1, by omega, fun r2 e2 a2 c2 => ?_⟩
      walk_at "w"
      have u1 : r1.natAbs ≤ 10 ^ 121 := Nat.le_trans a1 (by decide +kernel)
      have u2 : r2.natAbs ≤ 10 ^ 121 := Nat.le_trans a2 (by decide +kernel)
      refine ⟨r1, r2, rfl, u1, u2, ?_⟩
      walk_at "w"
      have app : ∀ w : Int, w ≠ 0 → w.natAbs ≤ 10 ^ 60 → ∀ f ∈ fs ++ [(lowN r1 w, lowD r1 w)], Fr f.1 f.2 := fun w h0 hw f m => by
        rcases List.mem_append.mp m with m | m
        · exact hfs f m
        · rw [List.mem_singleton.mp m]; exact low_fr a1 hw h0
      refine s_ifd (fun hz => ?_) fun hz => ?_
      · walk_at "w"
        refine ⟨r1, 1, rfl, u1, by decide +kernel, by decide, ?_⟩
        walk_at "w"
        refine ⟨by rw [sizeLine_eq, List.length_map]; omega, ?_⟩
        exact ⟨e2, fs ++ [(lowN r1 1, lowD r1 1)], .va dk, s5, .va (.int r1), .va (.int 1), rfl, n5, rfl, rfl, c2.up (by omega), by simp [hfl], app 1 (by decide) (by decide +kernel), by rw [List.map_append]; rfl⟩
      · walk_at "w"
        refine ⟨r1, r2, rfl, u1, u2, hz, ?_⟩
        walk_at "w"
        refine ⟨by rw [sizeLine_eq, List.length_map]; omega, ?_⟩
        exact ⟨e2, fs ++ [(lowN r1 r2, lowD r1 r2)], .va dk, s5, .va (.int r1), .va (.int r2), rfl, n5, rfl, rfl, c2.up (by omega), by simp [hfl], app r2 hz a2, by rw [List.map_append]; rfl⟩
    · rintro ρ' ⟨ds, fs, s4, s5, s6, s7, n4, n5, n6, n7, hd, hfl, hfs, rfl⟩
      rw [rng_len] at hfl hd
      have hfl : fs.length = 2 := hfl
      have hd := hd.up (m := 1 + 40 * (i : Int) + 28) (by omega)
      match fs, hfl, hfs with
      | [f, g], _, hfs =>
        have hf := hfs f (List.mem_cons_self)
        have hg := hfs g (List.mem_cons_of_mem _ List.mem_cons_self)
        simp only [List.map]
        walk_at "w"
        refine ⟨cs, _, _, ds, rfl, hcs, hd, by omega, by decide, by decide, fun r3 e3 a3 b3 c3 => ?_⟩
        have f01 : Fr 0 1 := ⟨by decide, by decide, by decide, by decide⟩
        have last : ∀ (sg : Int × Int), Fr sg.1 sg.2 → True := fun _ _ => trivial
        walk_at "w"
        refine s_ifd (fun hz => ?_) fun hz => ?_
        · walk_at "w"
          refine s_run (fun _ => False) (fun _ => False) [fr f.1 f.2, fr f.1 f.2] rfl ?_
          walk_at "w"
          refine s_iff (yfr (fr_is hf)) ?_
          walk_at "w"
          refine ⟨_, _, rfl, hf, ?_⟩
          walk_at "w"
          refine s_iff (yfr (fr_is hf)) ?_
          walk_at "w"
          refine ⟨_, _, rfl, hf, ?_⟩
          walk_at "w"
          refine ⟨_, _, _, _, rfl, hf, hf, ?_⟩
          walk_at "w"
          refine ⟨_, _, _, _, rfl, hf, hf, ?_⟩
          walk_at "w"
          refine ⟨_, _, _, _, rfl, hf, f01, ?_⟩
          walk_at "w"
          exact ⟨e3, _, _, _, _, _, _, by exact rfl, by exact rfl, n4, by exact rfl, n6, n7, c3.up (by omega), rfl⟩
        · walk_at "w"
          refine s_run (fun _ => False) (fun _ => False) [fr f.1 f.2, fr g.1 g.2] rfl ?_
          walk_at "w"
          refine s_iff (yfr (fr_is hf)) ?_
          walk_at "w"
          refine ⟨_, _, rfl, hf, ?_⟩
          walk_at "w"
          refine s_iff (yfr (fr_is hg)) ?_
          walk_at "w"
          refine ⟨_, _, rfl, hg, ?_⟩
          walk_at "w"
          refine ⟨_, _, _, _, rfl, hf, hg, ?_⟩
          walk_at "w"
          refine ⟨_, _, _, _, rfl, hg, hf, ?_⟩
          walk_at "w"
          refine ⟨_, _, _, _, rfl, hf, f01, ?_⟩
          walk_at "w"
          exact ⟨e3, _, _, _, _, _, _, by exact rfl, by exact rfl, n4, by exact rfl, n6, n7, c3.up (by omega), rfl⟩
  · rintro ρ' ⟨ds, s2, s3, s4, s5, s6, s7, n2, n3, n4, n5, n6, n7, hd, rfl⟩
    walk_at "w"
    exact h

end Lw
namespace Lw
open PySem L2 Den Evl PySem.Spec PyProof.Rows
section
variable {P : Program} {w : World} {K : PySem.W.Frag} {mg : Str → Option Value} {base : Heap} {A : Ad}
theorem okis_number (T : Txt K mg A) : FnOk P w K mg base (L2N.CX P w) 1 A.fis_number A.dis_number Pis_number (toSp K 3 (Sis_number A)) := fnS T.Fis_number scis_number (fun cdv Ar outer s H E hr => denis_number T  cdv Ar outer s H E hr) (hwis_number A)
theorem okmade (T : Txt K mg A) : FnOk P w K mg base (L2N.CX P w) 1 A.fmade A.dmade Pmade (toSp K 2 (Smade A)) := fnS T.Fmade scmade (fun cdv Ar outer s H E hr => denmade T  cdv Ar outer s H E hr) (hwmade A)
theorem okless (T : Txt K mg A) : FnOk P w K mg base (L2N.CX P w) 1 A.fless A.dless Pless (toSp K 2 (Sless A)) := fnS T.Fless scless (fun cdv Ar outer s H E hr => denless T  cdv Ar outer s H E hr) (hwless A)
theorem ok_law_open (T : Txt K mg A) : FnOk P w K mg base (L2N.CX P w) 1 A.f_law_open A.d_law_open P_law_open (toSpF K 1 (S_law_open A)) := fnF T.F_law_open sc_law_open (fun cdv Ar outer s H E hr => den_law_open T  cdv Ar outer s H E hr) (hw_law_open A)
theorem ok_law_mixed (T : Txt K mg A) : FnOk P w K mg base (L2N.CX P w) 1 A.f_law_mixed A.d_law_mixed P_law_mixed (toSp K 2 (S_law_mixed A)) := fnS T.F_law_mixed sc_law_mixed (fun cdv Ar outer s H E hr => den_law_mixed T  cdv Ar outer s H E hr) (hw_law_mixed A)
theorem ok_law_told_OutOfRange (T : Txt K mg A) : FnT P w K mg base 1 A.f_law_told A.d_law_told P_law_told A.cOutOfRange "OutOfRange" := fnT T.F_law_told sc_law_told (fun cdv Ar outer s H p ho hr hz => den_law_told T T.XOutOfRange T.iOutOfRange_OutOfRange T.iOutOfRange_Malformed T.iOutOfRange_NotThere T.iOutOfRange_Refused T.iOutOfRange_TooMuch T.iOutOfRange_LotError cdv Ar outer s H p ho hr hz) (fun a => hw_law_told_OutOfRange a)
theorem ok_law_told (T : Txt K mg A) : ∀ c t, nm A c = some t → FnT P w K mg base 1 A.f_law_told A.d_law_told P_law_told c t := fun c t h => by
  unfold nm at h
  by_cases eOutOfRange : c = A.cOutOfRange
  · rw [if_pos eOutOfRange] at h; cases h; rw [eOutOfRange]; exact ok_law_told_OutOfRange T
  rw [if_neg eOutOfRange] at h
  cases h
theorem ok_law_lowest (T : Txt K mg A) : FnOk P w K mg base (L2N.CX P w) 1 A.f_law_lowest A.d_law_lowest P_law_lowest (toSp K 2 (S_law_lowest A)) := fnS T.F_law_lowest sc_law_lowest (fun cdv Ar outer s H E hr => den_law_lowest T  cdv Ar outer s H E hr) (hw_law_lowest A)
theorem ok_law_is (T : Txt K mg A) : FnOk P w K mg base (L2N.CX P w) 1 A.f_law_is A.d_law_is P_law_is (toSp K 2 (S_law_is A)) := fnS T.F_law_is sc_law_is (fun cdv Ar outer s H E hr => den_law_is T  cdv Ar outer s H E hr) (hw_law_is A)
theorem okis_fraction (T : Txt K mg A) : FnOk P w K mg base (L2N.CX P w) 2 A.fis_fraction A.dis_fraction Pis_fraction (toSp K 1 (Sis_fraction A)) := fnS T.Fis_fraction scis_fraction (fun cdv Ar outer s H E hr => denis_fraction T (okis_number T) cdv Ar outer s H E hr) (hwis_fraction A)
theorem okplus (T : Txt K mg A) : FnOk P w K mg base (L2N.CX P w) 2 A.fplus A.dplus Pplus (toSp K 2 (Splus A)) := fnS T.Fplus scplus (fun cdv Ar outer s H E hr => denplus T (okmade T) cdv Ar outer s H E hr) (hwplus A)
theorem okminus (T : Txt K mg A) : FnOk P w K mg base (L2N.CX P w) 2 A.fminus A.dminus Pminus (toSp K 2 (Sminus A)) := fnS T.Fminus scminus (fun cdv Ar outer s H E hr => denminus T (okmade T) cdv Ar outer s H E hr) (hwminus A)
theorem oktimes (T : Txt K mg A) : FnOk P w K mg base (L2N.CX P w) 2 A.ftimes A.dtimes Ptimes (toSp K 2 (Stimes A)) := fnS T.Ftimes sctimes (fun cdv Ar outer s H E hr => dentimes T (okmade T) cdv Ar outer s H E hr) (hwtimes A)
theorem okthrough (T : Txt K mg A) : FnOk P w K mg base (L2N.CX P w) 2 A.fthrough A.dthrough Pthrough (toSp K 2 (Sthrough A)) := fnS T.Fthrough scthrough (fun cdv Ar outer s H E hr => denthrough T (okmade T) cdv Ar outer s H E hr) (hwthrough A)
theorem ok_law_draw (T : Txt K mg A) : FnOk P w K mg base (L2N.CX P w) 2 A.f_law_draw A.d_law_draw P_law_draw (toSp K 2 (S_law_draw A)) := fnS T.F_law_draw sc_law_draw (fun cdv Ar outer s H E hr => den_law_draw T (ok_law_mixed T) cdv Ar outer s H E hr) (hw_law_draw A)
theorem ok_law_made (T : Txt K mg A) : FnOk P w K mg base (L2N.CX P w) 2 A.f_law_made A.d_law_made P_law_made (toSp K 2 (S_law_made A)) := fnS T.F_law_made sc_law_made (fun cdv Ar outer s H E hr => den_law_made T (okmade T) (ok_law_told T) (ok_law_lowest T) (ok_law_is T) cdv Ar outer s H E hr) (hw_law_made A)
theorem ok_law_wide (T : Txt K mg A) : FnOk P w K mg base (L2N.CX P w) 3 A.f_law_wide A.d_law_wide P_law_wide (toSp K 2 (S_law_wide A)) := fnS T.F_law_wide sc_law_wide (fun cdv Ar outer s H E hr => den_law_wide T (ok_law_draw T) cdv Ar outer s H E hr) (hw_law_wide A)
theorem ok_law_through (T : Txt K mg A) : FnOk P w K mg base (L2N.CX P w) 3 A.f_law_through A.d_law_through P_law_through (toSp K 2 (S_law_through A)) := fnS T.F_law_through sc_law_through (fun cdv Ar outer s H E hr => den_law_through T (ok_law_told T) (ok_law_lowest T) (ok_law_is T) (okthrough T) cdv Ar outer s H E hr) (hw_law_through A)
theorem ok_law_kinds (T : Txt K mg A) : FnOk P w K mg base (L2N.CX P w) 3 A.f_law_kinds A.d_law_kinds P_law_kinds (toSp K 1 (S_law_kinds A)) := fnS T.F_law_kinds sc_law_kinds (fun cdv Ar outer s H E hr => den_law_kinds T (okis_fraction T) cdv Ar outer s H E hr) (hw_law_kinds A)
theorem ok_law_number (T : Txt K mg A) : FnOk P w K mg base (L2N.CX P w) 4 A.f_law_number A.d_law_number P_law_number (toSp K 1 (S_law_number A)) := fnS T.F_law_number sc_law_number (fun cdv Ar outer s H E hr => den_law_number T (ok_law_draw T) (ok_law_wide T) cdv Ar outer s H E hr) (hw_law_number A)
theorem ok_law_sums (T : Txt K mg A) : FnOk P w K mg base (L2N.CX P w) 4 A.f_law_sums A.d_law_sums P_law_sums (toSp K 2 (S_law_sums A)) := fnS T.F_law_sums sc_law_sums (fun cdv Ar outer s H E hr => den_law_sums T (okless T) (ok_law_lowest T) (ok_law_is T) (okplus T) (okminus T) (oktimes T) (ok_law_through T) cdv Ar outer s H E hr) (hw_law_sums A)
theorem oklaw (T : Txt K mg A) : FnOk P w K mg base (L2N.CX P w) 5 A.flaw A.dlaw Plaw (toSp K 1 (Slaw A)) := fnS T.Flaw sclaw (fun cdv Ar outer s H E hr => denlaw T (ok_law_open T) (ok_law_lowest T) (okis_fraction T) (ok_law_draw T) (ok_law_made T) (ok_law_kinds T) (ok_law_number T) (ok_law_sums T) cdv Ar outer s H E hr) (hwlaw A)
theorem all_mk {l : PySem.W.OpenLaw} {w : World} {K : PySem.W.Frag} {h : Heap} {mg : Str → Option Value} {fa f0 f1 f2 f3 f4 f5 f6 f7 f8 f9 f10 f11 f12 f13 f14 f15 f16 f17 f18 f19 f20 cLotError cOutOfRange cMalformed cNotThere cRefused cTooMuch : Addr} (X : K.In h) (G : h.Ns mainGlobals mg) (hfa : mg "law" = some (.ref fa))
    {od0 an0 : Option Addr} {sl0 : Array (Option Value)} {oc0 kV0 dc0 pm0 cd0 ct0 : Value} {od1 an1 : Option Addr} {sl1 : Array (Option Value)} {oc1 kV1 dc1 pm1 cd1 ct1 : Value} {od2 an2 : Option Addr} {sl2 : Array (Option Value)} {oc2 kV2 dc2 pm2 cd2 ct2 : Value} {od3 an3 : Option Addr} {sl3 : Array (Option Value)} {oc3 kV3 dc3 pm3 cd3 ct3 : Value} {od4 an4 : Option Addr} {sl4 : Array (Option Value)} {oc4 kV4 dc4 pm4 cd4 ct4 : Value} {od5 an5 : Option Addr} {sl5 : Array (Option Value)} {oc5 kV5 dc5 pm5 cd5 ct5 : Value} {od6 an6 : Option Addr} {sl6 : Array (Option Value)} {oc6 kV6 dc6 pm6 cd6 ct6 : Value} {od7 an7 : Option Addr} {sl7 : Array (Option Value)} {oc7 kV7 dc7 pm7 cd7 ct7 : Value} {od8 an8 : Option Addr} {sl8 : Array (Option Value)} {oc8 kV8 dc8 pm8 cd8 ct8 : Value} {od9 an9 : Option Addr} {sl9 : Array (Option Value)} {oc9 kV9 dc9 pm9 cd9 ct9 : Value} {od10 an10 : Option Addr} {sl10 : Array (Option Value)} {oc10 kV10 dc10 pm10 cd10 ct10 : Value} {od11 an11 : Option Addr} {sl11 : Array (Option Value)} {oc11 kV11 dc11 pm11 cd11 ct11 : Value} {od12 an12 : Option Addr} {sl12 : Array (Option Value)} {oc12 kV12 dc12 pm12 cd12 ct12 : Value} {od13 an13 : Option Addr} {sl13 : Array (Option Value)} {oc13 kV13 dc13 pm13 cd13 ct13 : Value} {od14 an14 : Option Addr} {sl14 : Array (Option Value)} {oc14 kV14 dc14 pm14 cd14 ct14 : Value} {od15 an15 : Option Addr} {sl15 : Array (Option Value)} {oc15 kV15 dc15 pm15 cd15 ct15 : Value} {od16 an16 : Option Addr} {sl16 : Array (Option Value)} {oc16 kV16 dc16 pm16 cd16 ct16 : Value} {od17 an17 : Option Addr} {sl17 : Array (Option Value)} {oc17 kV17 dc17 pm17 cd17 ct17 : Value} {od18 an18 : Option Addr} {sl18 : Array (Option Value)} {oc18 kV18 dc18 pm18 cd18 ct18 : Value} {od19 an19 : Option Addr} {sl19 : Array (Option Value)} {oc19 kV19 dc19 pm19 cd19 ct19 : Value} {od20 an20 : Option Addr} {sl20 : Array (Option Value)} {oc20 kV20 dc20 pm20 cd20 ct20 : Value} {t_MOST : Tok}
    (a0 : PySem.W.nsIn K mainGlobals "is_number" = some (some (.ref f0)))
    (l0 : K.lookup f0 = some ⟨oc0, od0, .func (PySem.W.fnOf "is_number" "is_number" (defArgs sis_number) (defBody sis_number) (defScope sis_number) .none kV0 dc0 pm0 an0 cd0 ct0), sl0⟩)
    (e0 : PySem.W.codeIn K cd0 "is_number" = true)
    (k0 : PySem.W.keepIn K (.ref f0) = true)
    (a1 : PySem.W.nsIn K mainGlobals "made" = some (some (.ref f1)))
    (l1 : K.lookup f1 = some ⟨oc1, od1, .func (PySem.W.fnOf "made" "made" (defArgs smade) (defBody smade) (defScope smade) .none kV1 dc1 pm1 an1 cd1 ct1), sl1⟩)
    (e1 : PySem.W.codeIn K cd1 "made" = true)
    (k1 : PySem.W.keepIn K (.ref f1) = true)
    (a2 : PySem.W.nsIn K mainGlobals "less" = some (some (.ref f2)))
    (l2 : K.lookup f2 = some ⟨oc2, od2, .func (PySem.W.fnOf "less" "less" (defArgs sless) (defBody sless) (defScope sless) .none kV2 dc2 pm2 an2 cd2 ct2), sl2⟩)
    (e2 : PySem.W.codeIn K cd2 "less" = true)
    (k2 : PySem.W.keepIn K (.ref f2) = true)
    (a3 : PySem.W.nsIn K mainGlobals "_law_open" = some (some (.ref f3)))
    (l3 : K.lookup f3 = some ⟨oc3, od3, .func (PySem.W.fnOf "_law_open" "_law_open" (defArgs s_law_open) (defBody s_law_open) (defScope s_law_open) .none kV3 dc3 pm3 an3 cd3 ct3), sl3⟩)
    (e3 : PySem.W.codeIn K cd3 "_law_open" = true)
    (k3 : PySem.W.keepIn K (.ref f3) = true)
    (a4 : PySem.W.nsIn K mainGlobals "_law_mixed" = some (some (.ref f4)))
    (l4 : K.lookup f4 = some ⟨oc4, od4, .func (PySem.W.fnOf "_law_mixed" "_law_mixed" (defArgs s_law_mixed) (defBody s_law_mixed) (defScope s_law_mixed) .none kV4 dc4 pm4 an4 cd4 ct4), sl4⟩)
    (e4 : PySem.W.codeIn K cd4 "_law_mixed" = true)
    (k4 : PySem.W.keepIn K (.ref f4) = true)
    (a5 : PySem.W.nsIn K mainGlobals "_law_told" = some (some (.ref f5)))
    (l5 : K.lookup f5 = some ⟨oc5, od5, .func (PySem.W.fnOf "_law_told" "_law_told" (defArgs s_law_told) (defBody s_law_told) (defScope s_law_told) .none kV5 dc5 pm5 an5 cd5 ct5), sl5⟩)
    (e5 : PySem.W.codeIn K cd5 "_law_told" = true)
    (k5 : PySem.W.keepIn K (.ref f5) = true)
    (a6 : PySem.W.nsIn K mainGlobals "_law_lowest" = some (some (.ref f6)))
    (l6 : K.lookup f6 = some ⟨oc6, od6, .func (PySem.W.fnOf "_law_lowest" "_law_lowest" (defArgs s_law_lowest) (defBody s_law_lowest) (defScope s_law_lowest) .none kV6 dc6 pm6 an6 cd6 ct6), sl6⟩)
    (e6 : PySem.W.codeIn K cd6 "_law_lowest" = true)
    (k6 : PySem.W.keepIn K (.ref f6) = true)
    (a7 : PySem.W.nsIn K mainGlobals "_law_is" = some (some (.ref f7)))
    (l7 : K.lookup f7 = some ⟨oc7, od7, .func (PySem.W.fnOf "_law_is" "_law_is" (defArgs s_law_is) (defBody s_law_is) (defScope s_law_is) .none kV7 dc7 pm7 an7 cd7 ct7), sl7⟩)
    (e7 : PySem.W.codeIn K cd7 "_law_is" = true)
    (k7 : PySem.W.keepIn K (.ref f7) = true)
    (a8 : PySem.W.nsIn K mainGlobals "is_fraction" = some (some (.ref f8)))
    (l8 : K.lookup f8 = some ⟨oc8, od8, .func (PySem.W.fnOf "is_fraction" "is_fraction" (defArgs sis_fraction) (defBody sis_fraction) (defScope sis_fraction) .none kV8 dc8 pm8 an8 cd8 ct8), sl8⟩)
    (e8 : PySem.W.codeIn K cd8 "is_fraction" = true)
    (k8 : PySem.W.keepIn K (.ref f8) = true)
    (a9 : PySem.W.nsIn K mainGlobals "plus" = some (some (.ref f9)))
    (l9 : K.lookup f9 = some ⟨oc9, od9, .func (PySem.W.fnOf "plus" "plus" (defArgs splus) (defBody splus) (defScope splus) .none kV9 dc9 pm9 an9 cd9 ct9), sl9⟩)
    (e9 : PySem.W.codeIn K cd9 "plus" = true)
    (k9 : PySem.W.keepIn K (.ref f9) = true)
    (a10 : PySem.W.nsIn K mainGlobals "minus" = some (some (.ref f10)))
    (l10 : K.lookup f10 = some ⟨oc10, od10, .func (PySem.W.fnOf "minus" "minus" (defArgs sminus) (defBody sminus) (defScope sminus) .none kV10 dc10 pm10 an10 cd10 ct10), sl10⟩)
    (e10 : PySem.W.codeIn K cd10 "minus" = true)
    (k10 : PySem.W.keepIn K (.ref f10) = true)
    (a11 : PySem.W.nsIn K mainGlobals "times" = some (some (.ref f11)))
    (l11 : K.lookup f11 = some ⟨oc11, od11, .func (PySem.W.fnOf "times" "times" (defArgs stimes) (defBody stimes) (defScope stimes) .none kV11 dc11 pm11 an11 cd11 ct11), sl11⟩)
    (e11 : PySem.W.codeIn K cd11 "times" = true)
    (k11 : PySem.W.keepIn K (.ref f11) = true)
    (a12 : PySem.W.nsIn K mainGlobals "through" = some (some (.ref f12)))
    (l12 : K.lookup f12 = some ⟨oc12, od12, .func (PySem.W.fnOf "through" "through" (defArgs sthrough) (defBody sthrough) (defScope sthrough) .none kV12 dc12 pm12 an12 cd12 ct12), sl12⟩)
    (e12 : PySem.W.codeIn K cd12 "through" = true)
    (k12 : PySem.W.keepIn K (.ref f12) = true)
    (a13 : PySem.W.nsIn K mainGlobals "_law_draw" = some (some (.ref f13)))
    (l13 : K.lookup f13 = some ⟨oc13, od13, .func (PySem.W.fnOf "_law_draw" "_law_draw" (defArgs s_law_draw) (defBody s_law_draw) (defScope s_law_draw) .none kV13 dc13 pm13 an13 cd13 ct13), sl13⟩)
    (e13 : PySem.W.codeIn K cd13 "_law_draw" = true)
    (k13 : PySem.W.keepIn K (.ref f13) = true)
    (a14 : PySem.W.nsIn K mainGlobals "_law_made" = some (some (.ref f14)))
    (l14 : K.lookup f14 = some ⟨oc14, od14, .func (PySem.W.fnOf "_law_made" "_law_made" (defArgs s_law_made) (defBody s_law_made) (defScope s_law_made) .none kV14 dc14 pm14 an14 cd14 ct14), sl14⟩)
    (e14 : PySem.W.codeIn K cd14 "_law_made" = true)
    (k14 : PySem.W.keepIn K (.ref f14) = true)
    (a15 : PySem.W.nsIn K mainGlobals "_law_wide" = some (some (.ref f15)))
    (l15 : K.lookup f15 = some ⟨oc15, od15, .func (PySem.W.fnOf "_law_wide" "_law_wide" (defArgs s_law_wide) (defBody s_law_wide) (defScope s_law_wide) .none kV15 dc15 pm15 an15 cd15 ct15), sl15⟩)
    (e15 : PySem.W.codeIn K cd15 "_law_wide" = true)
    (k15 : PySem.W.keepIn K (.ref f15) = true)
    (a16 : PySem.W.nsIn K mainGlobals "_law_through" = some (some (.ref f16)))
    (l16 : K.lookup f16 = some ⟨oc16, od16, .func (PySem.W.fnOf "_law_through" "_law_through" (defArgs s_law_through) (defBody s_law_through) (defScope s_law_through) .none kV16 dc16 pm16 an16 cd16 ct16), sl16⟩)
    (e16 : PySem.W.codeIn K cd16 "_law_through" = true)
    (k16 : PySem.W.keepIn K (.ref f16) = true)
    (a17 : PySem.W.nsIn K mainGlobals "_law_kinds" = some (some (.ref f17)))
    (l17 : K.lookup f17 = some ⟨oc17, od17, .func (PySem.W.fnOf "_law_kinds" "_law_kinds" (defArgs s_law_kinds) (defBody s_law_kinds) (defScope s_law_kinds) .none kV17 dc17 pm17 an17 cd17 ct17), sl17⟩)
    (e17 : PySem.W.codeIn K cd17 "_law_kinds" = true)
    (k17 : PySem.W.keepIn K (.ref f17) = true)
    (a18 : PySem.W.nsIn K mainGlobals "_law_number" = some (some (.ref f18)))
    (l18 : K.lookup f18 = some ⟨oc18, od18, .func (PySem.W.fnOf "_law_number" "_law_number" (defArgs s_law_number) (defBody s_law_number) (defScope s_law_number) .none kV18 dc18 pm18 an18 cd18 ct18), sl18⟩)
    (e18 : PySem.W.codeIn K cd18 "_law_number" = true)
    (k18 : PySem.W.keepIn K (.ref f18) = true)
    (a19 : PySem.W.nsIn K mainGlobals "_law_sums" = some (some (.ref f19)))
    (l19 : K.lookup f19 = some ⟨oc19, od19, .func (PySem.W.fnOf "_law_sums" "_law_sums" (defArgs s_law_sums) (defBody s_law_sums) (defScope s_law_sums) .none kV19 dc19 pm19 an19 cd19 ct19), sl19⟩)
    (e19 : PySem.W.codeIn K cd19 "_law_sums" = true)
    (k19 : PySem.W.keepIn K (.ref f19) = true)
    (a20 : PySem.W.nsIn K mainGlobals "law" = some (some (.ref f20)))
    (l20 : K.lookup f20 = some ⟨oc20, od20, .func (PySem.W.fnOf "law" "law" (defArgs slaw) (defBody slaw) (defScope slaw) .none kV20 dc20 pm20 an20 cd20 ct20), sl20⟩)
    (e20 : PySem.W.codeIn K cd20 "law" = true)
    (k20 : PySem.W.keepIn K (.ref f20) = true)
    (acLotError : PySem.W.nsIn K mainGlobals "LotError" = some (some (.ref cLotError)))
    (acOutOfRange : PySem.W.nsIn K mainGlobals "OutOfRange" = some (some (.ref cOutOfRange)))
    (acMalformed : PySem.W.nsIn K mainGlobals "Malformed" = some (some (.ref cMalformed)))
    (acNotThere : PySem.W.nsIn K mainGlobals "NotThere" = some (some (.ref cNotThere)))
    (acRefused : PySem.W.nsIn K mainGlobals "Refused" = some (some (.ref cRefused)))
    (acTooMuch : PySem.W.nsIn K mainGlobals "TooMuch" = some (some (.ref cTooMuch)))
    (z_abs : PySem.W.nsIn K mainGlobals "abs" = some none)
    (z_bool : PySem.W.nsIn K mainGlobals "bool" = some none)
    (z_int : PySem.W.nsIn K mainGlobals "int" = some none)
    (z_isinstance : PySem.W.nsIn K mainGlobals "isinstance" = some none)
    (z_len : PySem.W.nsIn K mainGlobals "len" = some none)
    (z_range : PySem.W.nsIn K mainGlobals "range" = some none)
    (z_tuple : PySem.W.nsIn K mainGlobals "tuple" = some none)
    (kk_MOST : PySem.W.nsIn K mainGlobals "_MOST" = some (some (.int 1000000000000000000000000000000000000000000000000000000000000 t_MOST)))
    (gg : PySem.W.nsIn K mainGlobals "gcd" = some (some (.builtin "math.gcd")))
    (xOutOfRange : PySem.W.excIn K cOutOfRange [.type "ValueError", .type "Exception", .type "BaseException", .type "object"] "ValueError.__new__" = true)
    (qOutOfRange : PySem.W.keepIn K (.ref cOutOfRange) = true)
    (uOutOfRange : PySem.W.subIn K (.ref cOutOfRange) (.type "BaseException") = some true)
    (tOutOfRange : PySem.W.typeIn K (.ref cOutOfRange) = some (.type "type"))
    (sOutOfRange : PySem.W.subIn K (.ref cOutOfRange) (.ref cLotError) = some true)
    (XaOutOfRange : PySem.W.findIn K (.ref cOutOfRange) "__getattribute__" = some (some (.builtin "BaseException.__getattribute__")))
    (XbOutOfRange : PySem.W.findIn K (.ref cOutOfRange) "__getattr__" = some none)
    (XdOutOfRange : PySem.W.hasDictIn K cOutOfRange = true)
    (XeOutOfRange : PySem.W.findIn K (.ref cOutOfRange) "__class__" = some (some (.builtin "object.__class__")))
    (XhOutOfRange : PySem.W.mroIn K cOutOfRange (.type "object") = some true)
    (iOutOfRange_OutOfRange : PySem.W.kitOne K (.ref cOutOfRange) (.ref cOutOfRange) = some true)
    (iOutOfRange_Malformed : PySem.W.kitOne K (.ref cOutOfRange) (.ref cMalformed) = some false)
    (iOutOfRange_NotThere : PySem.W.kitOne K (.ref cOutOfRange) (.ref cNotThere) = some false)
    (iOutOfRange_Refused : PySem.W.kitOne K (.ref cOutOfRange) (.ref cRefused) = some false)
    (iOutOfRange_TooMuch : PySem.W.kitOne K (.ref cOutOfRange) (.ref cTooMuch) = some false)
    (iOutOfRange_LotError : PySem.W.kitOne K (.ref cOutOfRange) (.ref cLotError) = some true)
    (Lu : PySem.W.subIn K (.ref cLotError) (.type "BaseException") = some true)
    (Ld : PySem.W.hasDictIn K cLotError = true)
    (Lt : PySem.W.typeIn K (.ref cLotError) = some (.type "type"))
    (On : PySem.W.specialIn K (.builtin "object.__class__") "__get__" = some (some (.builtin "getset_descriptor.__get__")))
    (Ot : PySem.W.takesIn K (.builtin "object.__class__") = some true)
    : ∃ fd : FuncData, (∀ (s : Shared) (v : Value), BindsTo s fd ⟨[v], []⟩ [("script", v)]) ∧ ∀ base : Heap, K.In base → base.Ns mainGlobals mg → ∃ A : Ad, FnOk l.prog w K mg base (L2N.CX l.prog w) 5 fa fd ["script"] (toSp K 1 (Slaw A)) := by
  have e := hfa.symm.trans (PySem.W.mg_of X G a20)
  cases e
  have F0 := fun_mk (st := sis_number) l0 e0 k0
  have B0 := F0.binds (ps := Pis_number) fun _ _ _ _ _ _ us hl => match us, hl with | [_, _, _], _ => rfl
  have F1 := fun_mk (st := smade) l1 e1 k1
  have B1 := F1.binds (ps := Pmade) fun _ _ _ _ _ _ us hl => match us, hl with | [_, _], _ => rfl
  have F2 := fun_mk (st := sless) l2 e2 k2
  have B2 := F2.binds (ps := Pless) fun _ _ _ _ _ _ us hl => match us, hl with | [_, _], _ => rfl
  have F3 := fun_mk (st := s_law_open) l3 e3 k3
  have B3 := F3.binds (ps := P_law_open) fun _ _ _ _ _ _ us hl => match us, hl with | [_], _ => rfl
  have F4 := fun_mk (st := s_law_mixed) l4 e4 k4
  have B4 := F4.binds (ps := P_law_mixed) fun _ _ _ _ _ _ us hl => match us, hl with | [_, _], _ => rfl
  have F5 := fun_mk (st := s_law_told) l5 e5 k5
  have B5 := F5.binds (ps := P_law_told) fun _ _ _ _ _ _ us hl => match us, hl with | [_], _ => rfl
  have F6 := fun_mk (st := s_law_lowest) l6 e6 k6
  have B6 := F6.binds (ps := P_law_lowest) fun _ _ _ _ _ _ us hl => match us, hl with | [_, _], _ => rfl
  have F7 := fun_mk (st := s_law_is) l7 e7 k7
  have B7 := F7.binds (ps := P_law_is) fun _ _ _ _ _ _ us hl => match us, hl with | [_, _], _ => rfl
  have F8 := fun_mk (st := sis_fraction) l8 e8 k8
  have B8 := F8.binds (ps := Pis_fraction) fun _ _ _ _ _ _ us hl => match us, hl with | [_], _ => rfl
  have F9 := fun_mk (st := splus) l9 e9 k9
  have B9 := F9.binds (ps := Pplus) fun _ _ _ _ _ _ us hl => match us, hl with | [_, _], _ => rfl
  have F10 := fun_mk (st := sminus) l10 e10 k10
  have B10 := F10.binds (ps := Pminus) fun _ _ _ _ _ _ us hl => match us, hl with | [_, _], _ => rfl
  have F11 := fun_mk (st := stimes) l11 e11 k11
  have B11 := F11.binds (ps := Ptimes) fun _ _ _ _ _ _ us hl => match us, hl with | [_, _], _ => rfl
  have F12 := fun_mk (st := sthrough) l12 e12 k12
  have B12 := F12.binds (ps := Pthrough) fun _ _ _ _ _ _ us hl => match us, hl with | [_, _], _ => rfl
  have F13 := fun_mk (st := s_law_draw) l13 e13 k13
  have B13 := F13.binds (ps := P_law_draw) fun _ _ _ _ _ _ us hl => match us, hl with | [_, _], _ => rfl
  have F14 := fun_mk (st := s_law_made) l14 e14 k14
  have B14 := F14.binds (ps := P_law_made) fun _ _ _ _ _ _ us hl => match us, hl with | [_, _], _ => rfl
  have F15 := fun_mk (st := s_law_wide) l15 e15 k15
  have B15 := F15.binds (ps := P_law_wide) fun _ _ _ _ _ _ us hl => match us, hl with | [_, _], _ => rfl
  have F16 := fun_mk (st := s_law_through) l16 e16 k16
  have B16 := F16.binds (ps := P_law_through) fun _ _ _ _ _ _ us hl => match us, hl with | [_, _], _ => rfl
  have F17 := fun_mk (st := s_law_kinds) l17 e17 k17
  have B17 := F17.binds (ps := P_law_kinds) fun _ _ _ _ _ _ us hl => match us, hl with | [_], _ => rfl
  have F18 := fun_mk (st := s_law_number) l18 e18 k18
  have B18 := F18.binds (ps := P_law_number) fun _ _ _ _ _ _ us hl => match us, hl with | [_], _ => rfl
  have F19 := fun_mk (st := s_law_sums) l19 e19 k19
  have B19 := F19.binds (ps := P_law_sums) fun _ _ _ _ _ _ us hl => match us, hl with | [_, _], _ => rfl
  have F20 := fun_mk (st := slaw) l20 e20 k20
  have B20 := F20.binds (ps := Plaw) fun _ _ _ _ _ _ us hl => match us, hl with | [_], _ => rfl
  have T := Txt.mk (K := K) (mg := mg) (A := Ad.mk cLotError cOutOfRange cMalformed cNotThere cRefused cTooMuch f0 _ f1 _ f2 _ f3 _ f4 _ f5 _ f6 _ f7 _ f8 _ f9 _ f10 _ f11 _ f12 _ f13 _ f14 _ f15 _ f16 _ f17 _ f18 _ f19 _ fa _)
    (PySem.W.mg_of X G a0)
    k0
    B0
    F0
    (PySem.W.mg_of X G a1)
    k1
    B1
    F1
    (PySem.W.mg_of X G a2)
    k2
    B2
    F2
    (PySem.W.mg_of X G a3)
    k3
    B3
    F3
    (PySem.W.mg_of X G a4)
    k4
    B4
    F4
    (PySem.W.mg_of X G a5)
    k5
    B5
    F5
    (PySem.W.mg_of X G a6)
    k6
    B6
    F6
    (PySem.W.mg_of X G a7)
    k7
    B7
    F7
    (PySem.W.mg_of X G a8)
    k8
    B8
    F8
    (PySem.W.mg_of X G a9)
    k9
    B9
    F9
    (PySem.W.mg_of X G a10)
    k10
    B10
    F10
    (PySem.W.mg_of X G a11)
    k11
    B11
    F11
    (PySem.W.mg_of X G a12)
    k12
    B12
    F12
    (PySem.W.mg_of X G a13)
    k13
    B13
    F13
    (PySem.W.mg_of X G a14)
    k14
    B14
    F14
    (PySem.W.mg_of X G a15)
    k15
    B15
    F15
    (PySem.W.mg_of X G a16)
    k16
    B16
    F16
    (PySem.W.mg_of X G a17)
    k17
    B17
    F17
    (PySem.W.mg_of X G a18)
    k18
    B18
    F18
    (PySem.W.mg_of X G a19)
    k19
    B19
    F19
    (PySem.W.mg_of X G a20)
    k20
    B20
    F20
    (PySem.W.mg_none_of X G z_abs)
    (PySem.W.mg_none_of X G z_bool)
    (PySem.W.mg_none_of X G z_int)
    (PySem.W.mg_none_of X G z_isinstance)
    (PySem.W.mg_none_of X G z_len)
    (PySem.W.mg_none_of X G z_range)
    (PySem.W.mg_none_of X G z_tuple)
    ⟨_, PySem.W.mg_of X G kk_MOST⟩
    (PySem.W.mg_of X G gg)
    (PySem.W.mg_of X G acLotError)
    (PySem.W.mg_of X G acOutOfRange)
    (PySem.W.mg_of X G acMalformed)
    (PySem.W.mg_of X G acNotThere)
    (PySem.W.mg_of X G acRefused)
    (PySem.W.mg_of X G acTooMuch)
    xOutOfRange
    qOutOfRange
    uOutOfRange
    tOutOfRange
    ⟨XaOutOfRange, XbOutOfRange, uOutOfRange, XdOutOfRange, XeOutOfRange, On, Ot, XhOutOfRange⟩
    (PySem.W.exm_ref Lu Ld Lt sOutOfRange)
    iOutOfRange_OutOfRange
    iOutOfRange_Malformed
    iOutOfRange_NotThere
    iOutOfRange_Refused
    iOutOfRange_TooMuch
    iOutOfRange_LotError
  exact ⟨_, fun s v => .of_eq rfl, fun base _ _ => ⟨_, oklaw T⟩⟩
end
theorem walk {l : PySem.W.OpenLaw} {q : Program} {loose : List Str} {XP : (Str → Option Value) → Heap → Prop} {YP : World → Heap → Prop} {d : DefRec} {K : Params → PySem.W.Frag} (hn : l.most = some 63) (hdf : d.params.defaults = [])
    (hY : ∀ (w : World) (h : Heap), YP w h → (K w.params).In h)
    (F : ∀ (w : World) (mg : Str → Option Value) (fa : Addr) (h : Heap), (K w.params).In h → h.Ns mainGlobals mg → mg d.name = some (.ref fa) →
      ∃ fd : FuncData, (∀ (s : Shared) (u : Value), BindsTo s fd ⟨[u], []⟩ [("script", u)]) ∧ ∀ base : Heap, (K w.params).In base → base.Ns mainGlobals mg → ∃ A : Ad, FnOk l.prog w (K w.params) mg base (L2N.CX l.prog w) 5 fa fd ["script"] (toSp (K w.params) 1 (Slaw A))) :
    PySem.W.WalkO q loose XP YP l.row.toRowW d [] (fun f vs => PySem.call f vs) :=
  L2.walk_of (n := 63) (k := 5) (x := "script") (CX := fun w => L2N.CX l.prog w) (sp := fun w => spLaw (K w.params)) hn (by decide) hdf ⟨rfl, by decide, by decide⟩ hY
    (fun w mg fa h h1 h2 h3 => by
      obtain ⟨fd, hb, hF⟩ := F w mg fa h h1 h2 h3
      exact ⟨fd, hb, fun base b1 b2 => by
        obtain ⟨A, ok⟩ := hF base b1 b2
        exact ok.imp fun vs H Q E q => spLaw_imp q⟩)
    (fun _ _ a ns hl _ hS => ⟨a, ns, rfl, hS, hl, fun _ => rfl⟩) (fun w H s e s' z => by obtain ⟨_, _, _, _, _, _, _, _, _, _, _, _, z⟩ := z; exact z)
end Lw
open PySem PySem.W PyProof.Rows in
set_option maxRecDepth 100000 in
set_option maxHeartbeats 0 in
theorem PySem.Challenge.cw_lotshown_k00_fractions_holds : PySem.Challenge.rw_lotshown_k00_fractions.Holds := by
  w_on; o_law; k_head; (case hw => w_witness2)
  k_fill
  refine Lw.walk (l := PySem.Challenge.rw_lotshown_k00_fractions) rfl rfl (fun w h Y => PySem.W.kIn_of Y) ?F
  case F =>
    intro w mg fa h KX G hmg
    refine' Lw.all_mk KX G hmg ?a0 ?l0 ?e0 ?k0 ?a1 ?l1 ?e1 ?k1 ?a2 ?l2 ?e2 ?k2 ?a3 ?l3 ?e3 ?k3 ?a4 ?l4 ?e4 ?k4 ?a5 ?l5 ?e5 ?k5 ?a6 ?l6 ?e6 ?k6 ?a7 ?l7 ?e7 ?k7 ?a8 ?l8 ?e8 ?k8 ?a9 ?l9 ?e9 ?k9 ?a10 ?l10 ?e10 ?k10 ?a11 ?l11 ?e11 ?k11 ?a12 ?l12 ?e12 ?k12 ?a13 ?l13 ?e13 ?k13 ?a14 ?l14 ?e14 ?k14 ?a15 ?l15 ?e15 ?k15 ?a16 ?l16 ?e16 ?k16 ?a17 ?l17 ?e17 ?k17 ?a18 ?l18 ?e18 ?k18 ?a19 ?l19 ?e19 ?k19 ?a20 ?l20 ?e20 ?k20 ?acLotError ?acOutOfRange ?acMalformed ?acNotThere ?acRefused ?acTooMuch ?z_abs ?z_bool ?z_int ?z_isinstance ?z_len ?z_range ?z_tuple ?kk_MOST ?gg ?xOutOfRange ?qOutOfRange ?uOutOfRange ?tOutOfRange ?sOutOfRange ?XaOutOfRange ?XbOutOfRange ?XdOutOfRange ?XeOutOfRange ?XhOutOfRange ?iOutOfRange_OutOfRange ?iOutOfRange_Malformed ?iOutOfRange_NotThere ?iOutOfRange_Refused ?iOutOfRange_TooMuch ?iOutOfRange_LotError ?Lu ?Ld ?Lt ?On ?Ot
    (case a0 => k_is)
    (case l0 => k_is)
    (case e0 => k_is)
    (case k0 => k_is)
    (case a1 => k_is)
    (case l1 => k_is)
    (case e1 => k_is)
    (case k1 => k_is)
    (case a2 => k_is)
    (case l2 => k_is)
    (case e2 => k_is)
    (case k2 => k_is)
    (case a3 => k_is)
    (case l3 => k_is)
    (case e3 => k_is)
    (case k3 => k_is)
    (case a4 => k_is)
    (case l4 => k_is)
    (case e4 => k_is)
    (case k4 => k_is)
    (case a5 => k_is)
    (case l5 => k_is)
    (case e5 => k_is)
    (case k5 => k_is)
    (case a6 => k_is)
    (case l6 => k_is)
    (case e6 => k_is)
    (case k6 => k_is)
    (case a7 => k_is)
    (case l7 => k_is)
    (case e7 => k_is)
    (case k7 => k_is)
    (case a8 => k_is)
    (case l8 => k_is)
    (case e8 => k_is)
    (case k8 => k_is)
    (case a9 => k_is)
    (case l9 => k_is)
    (case e9 => k_is)
    (case k9 => k_is)
    (case a10 => k_is)
    (case l10 => k_is)
    (case e10 => k_is)
    (case k10 => k_is)
    (case a11 => k_is)
    (case l11 => k_is)
    (case e11 => k_is)
    (case k11 => k_is)
    (case a12 => k_is)
    (case l12 => k_is)
    (case e12 => k_is)
    (case k12 => k_is)
    (case a13 => k_is)
    (case l13 => k_is)
    (case e13 => k_is)
    (case k13 => k_is)
    (case a14 => k_is)
    (case l14 => k_is)
    (case e14 => k_is)
    (case k14 => k_is)
    (case a15 => k_is)
    (case l15 => k_is)
    (case e15 => k_is)
    (case k15 => k_is)
    (case a16 => k_is)
    (case l16 => k_is)
    (case e16 => k_is)
    (case k16 => k_is)
    (case a17 => k_is)
    (case l17 => k_is)
    (case e17 => k_is)
    (case k17 => k_is)
    (case a18 => k_is)
    (case l18 => k_is)
    (case e18 => k_is)
    (case k18 => k_is)
    (case a19 => k_is)
    (case l19 => k_is)
    (case e19 => k_is)
    (case k19 => k_is)
    (case a20 => k_is)
    (case l20 => k_is)
    (case e20 => k_is)
    (case k20 => k_is)
    (case acLotError => k_is)
    (case acOutOfRange => k_is)
    (case acMalformed => k_is)
    (case acNotThere => k_is)
    (case acRefused => k_is)
    (case acTooMuch => k_is)
    (case z_abs => k_is)
    (case z_bool => k_is)
    (case z_int => k_is)
    (case z_isinstance => k_is)
    (case z_len => k_is)
    (case z_range => k_is)
    (case z_tuple => k_is)
    (case kk_MOST => k_is)
    (case gg => k_is)
    (case xOutOfRange => k_exc)
    (case qOutOfRange => k_is)
    (case uOutOfRange => k_is)
    (case tOutOfRange => k_is)
    (case sOutOfRange => k_is)
    (case XaOutOfRange => k_is)
    (case XbOutOfRange => k_is)
    (case XdOutOfRange => k_is)
    (case XeOutOfRange => k_is)
    (case XhOutOfRange => k_is)
    (case iOutOfRange_OutOfRange => kit_is)
    (case iOutOfRange_Malformed => kit_is)
    (case iOutOfRange_NotThere => kit_is)
    (case iOutOfRange_Refused => kit_is)
    (case iOutOfRange_TooMuch => kit_is)
    (case iOutOfRange_LotError => kit_is)
    (case Lu => k_is)
    (case Ld => k_is)
    (case Lt => k_is)
    (case On => k_is)
    (case Ot => k_is)
