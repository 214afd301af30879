import PyProof.Rows.All
import Wide.All
import OpenK.AllK
import Wide.FinOn
import HandS.ForSpec
import HandS.Comp
import HandS.Iter
import HandS.Text
import HandS.ExcCtx
import HandS.HotCalls
import HandS.IsInst
import HandS.ExcIs
import HandS.Wide
import HandS.WideBits
import HandS.Gcd
import HandS.Evl
import HandS.AnyAll
import HandS.Lambda
import HandS.GenOver
import HandS.TupAny
import HandS.TupMul
import HandS.Style
import HandS.Deep
import HandS.Hot
import PyProof.RangeIter
import PyProof.ConsumeS
import PyProof.GenQ
import HandS.Zip0
import HandS.Zip
import HandS.Rev
import PyProof.WalksMore
import HandS.EndTab
import KE.KNest
import KE.KMathG
import HandS.Conv
import HandS.List
import HandS.SortInts
import PyProof.ListMulAny
import HandS.FStr
import HandS.StrMore
import PyProof.StrOps2
import PyProof.CollectWalk
import PyProof.JoinWalk
import HandS.Replace
import PySem.Challenge.RW_lotshown_k05_octets_and_packings
set_option Elab.async false
set_option linter.all false
set_option maxRecDepth 100000
namespace Den
open PySem L2 Evl
open Classical
abbrev D := PyData
/-- the tables of code objects of the program's defs -/
class Tbs where
  T : Addr → Prop
variable [Tbs]
def isTb (o : Option HO) : Prop := ∃ ps : Array Value, o = some (.tbl ps) ∧ TriplesOk ps.toList
/-- the same, or both times a table -/
def FrO (o o' : Option HO) : Prop := o' = o ∨ (isTb o ∧ isTb o')
omit [Tbs] in
theorem FrO.refl (o : Option HO) : FrO o o := .inl rfl
omit [Tbs] in
theorem FrO.trans {o o1 o2 : Option HO} (a : FrO o o1) (b : FrO o1 o2) : FrO o o2 := by
  rcases a with a | ⟨a1, a2⟩
  · subst a; exact b
  · rcases b with b | ⟨b1, b2⟩
    · subst b; exact .inr ⟨a1, a2⟩
    · exact .inr ⟨a1, b2⟩
omit [Tbs] in
theorem FrO.lst {o o' : Option HO} {xs : List V} (h : FrO o o') (e : o = some (.lst xs)) : o' = o := by
  rcases h with h | ⟨⟨ps, z, _⟩, _⟩
  · exact h
  · rw [e] at z; cases z
omit [Tbs] in
theorem FrO.ne {o o' : Option HO} (h : FrO o o') (e : o ≠ none) : o' ≠ none := by
  rcases h with h | ⟨_, ps, z, _⟩
  · rw [h]; exact e
  · rw [z]; intro q; cases q
omit [Tbs] in
theorem FrO.tb {o o' : Option HO} (h : FrO o o') (e : isTb o) : isTb o' := by
  rcases h with h | ⟨_, z⟩
  · rw [h]; exact e
  · exact z

mutual
theorem dp_mono {K : PySem.W.Frag} {H H' : Hp} (e : Ex H H') : ∀ {v : V} {d : D}, Dp K H v d → Dp K H' v d
  | _, _, .non => .non
  | _, _, .bl b => .bl b
  | _, _, .int i => .int i
  | _, _, .str x => .str x
  | _, _, .lst h hs => .lst (ex_l e h) (dpA_mono e hs)
  | _, _, .tup h hs => .tup (ex_t e h) (dpA_mono e hs)
theorem dpA_mono {K : PySem.W.Frag} {H H' : Hp} (e : Ex H H') : ∀ {vs : List V} {ds : List D}, DpAll K H vs ds → DpAll K H' vs ds
  | _, _, .nil => .nil
  | _, _, .cons h hs => .cons (dp_mono e h) (dpA_mono e hs)
end
theorem dpA_get {K : PySem.W.Frag} {H : Hp} : ∀ {vs : List V} {ds : List D} {i : Nat} {d : D}, DpAll K H vs ds → ds[i]? = some d → ∃ v, vs[i]? = some v ∧ Dp K H v d
  | _, _, _, _, .nil, h => by simp at h
  | _, _, 0, _, .cons h _, e => by simp at e; subst e; exact ⟨_, rfl, h⟩
  | _, _, i + 1, _, .cons _ hs, e => by
    obtain ⟨v, h1, h2⟩ := dpA_get (i := i) hs (by simpa using e)
    exact ⟨v, by simpa using h1, h2⟩
theorem dpA_get' {K : PySem.W.Frag} {H : Hp} : ∀ {vs : List V} {ds : List D} {i : Nat} {v : V}, DpAll K H vs ds → vs[i]? = some v → ∃ d, ds[i]? = some d ∧ Dp K H v d
  | _, _, _, _, .nil, h => by simp at h
  | _, _, 0, _, .cons h _, e => by simp at e; subst e; exact ⟨_, rfl, h⟩
  | _, _, i + 1, _, .cons _ hs, e => by
    obtain ⟨v, h1, h2⟩ := dpA_get' (i := i) hs (by simpa using e)
    exact ⟨v, by simpa using h1, h2⟩
theorem dpA_len {K : PySem.W.Frag} {H : Hp} : ∀ {vs : List V} {ds : List D}, DpAll K H vs ds → vs.length = ds.length
  | _, _, .nil => rfl
  | _, _, .cons _ hs => by simp [dpA_len hs]
theorem dpA_app {K : PySem.W.Frag} {H : Hp} : ∀ {vs ws : List V} {ds es : List D}, DpAll K H vs ds → DpAll K H ws es → DpAll K H (vs ++ ws) (ds ++ es)
  | _, _, _, _, .nil, h => h
  | _, _, _, _, .cons h hs, g => .cons h (dpA_app hs g)
theorem dpA_set {K : PySem.W.Frag} {H : Hp} {v : V} {d : D} (q : Dp K H v d) : ∀ {vs : List V} {ds : List D} (i : Nat), DpAll K H vs ds → DpAll K H (vs.set i v) (ds.set i d)
  | _, _, _, .nil => .nil
  | _, _, 0, .cons _ hs => .cons q hs
  | _, _, i + 1, .cons h hs => .cons h (dpA_set q i hs)
theorem dpA_ints {K : PySem.W.Frag} {H : Hp} : ∀ ns : List Int, DpAll K H (ns.map V.int) (ns.map PyData.int)
  | [] => .nil
  | n :: ns => .cons (.int n) (dpA_ints ns)

/-! the hidden part -/
noncomputable def hidS (S : Addr → Prop) (H : Hp) : Hp := fun b => if S b then none else H b
def Live (S : Addr → Prop) (H : Hp) : Prop := ∀ b, S b → H b ≠ none
section
variable {K : PySem.W.Frag} {S : Addr → Prop} {H H' : Hp} {v : V} {d : D} {p : Addr} {o : HO}
theorem hidS_in (h : ¬ S p) : hidS S H p = H p := by unfold hidS; rw [if_neg h]
theorem hidS_ex : Ex (hidS S H) H := fun a o e => by
  unfold hidS at e
  split at e
  · cases e
  · exact e
theorem Live.ext (l : Live S H) (e : Ex H H') : Live S H' := fun b s n => by
  cases q : H b with
  | none => exact l b s q
  | some o => rw [e b o q] at n; cases n
theorem hidS_mono (e : Ex H H') : Ex (hidS S H) (hidS S H') := fun a o q => by
  unfold hidS at q ⊢
  split at q
  · cases q
  · rename_i h; rw [if_neg h]; exact e a o q
theorem Live.free (l : Live S H) (h : H p = none) : ¬ S p := fun s => l p s h
end
/-- a value that is read: data in the open part, or a list that is owned (its items in the open part) -/
inductive Rp (K : PySem.W.Frag) (S : Addr → Prop) (H : Hp) : V → D → Prop where
  | val {v : V} {d : D} : Dp K (hidS S H) v d → Rp K S H v d
  | own {a : Addr} {vs : List V} {ds : List D} : H a = some (.lst vs) → DpAll K (hidS S H) vs ds → Rp K S H (.ref a) (.list ds)
section
variable {K : PySem.W.Frag} {S : Addr → Prop} {H H' : Hp} {v : V} {d : D} {p : Addr} {o : HO}
theorem Rp.full (r : Rp K S H v d) : Dp K H v d := by
  cases r with
  | val h => exact dp_mono hidS_ex h
  | own h hs => exact .lst (.inl (.inl h)) (dpA_mono hidS_ex hs)
theorem Rp.lst {ds : List D} (r : Rp K S H v (.list ds)) : ∃ a vs, v = .ref a ∧ SqL K H a vs ∧ DpAll K (hidS S H) vs ds := by
  cases r with
  | val h => cases h with
    | lst h hs => exact ⟨_, _, rfl, ex_l hidS_ex h, hs⟩
  | own h hs => exact ⟨_, _, rfl, .inl (.inl h), hs⟩
theorem Rp.tup {ds : List D} (r : Rp K S H v (.tuple ds)) : ∃ a vs, v = .ref a ∧ SqT K H a vs ∧ DpAll K (hidS S H) vs ds := by
  cases r with
  | val h => cases h with
    | tup h hs => exact ⟨_, _, rfl, ex_t hidS_ex h, hs⟩
theorem Rp.int {i : Int} (r : Rp K S H v (.int i)) : v = .int i := by
  cases r with
  | val h => cases h; rfl
theorem Rp.bl {b : Bool} (r : Rp K S H v (.bool b)) : v = .bl b := by
  cases r with
  | val h => cases h; rfl
theorem Rp.str {x : Str} (r : Rp K S H v (.str x)) : v = .str x := by
  cases r with
  | val h => cases h; rfl
theorem Rp.non (r : Rp K S H v .none) : v = .non := by
  cases r with
  | val h => cases h; rfl
theorem Rp.ext (e : Ex H H') (r : Rp K S H v d) : Rp K S H' v d := by
  cases r with
  | val h => exact .val (dp_mono (hidS_mono e) h)
  | own h hs => exact .own (e _ _ h) (dpA_mono (hidS_mono e) hs)
/-- a new tuple, a new list -/
theorem new_tup {vs : List V} {ds : List D} (l : Live S H) (hp : H p = none) (hs : DpAll K (hidS S H) vs ds) : Dp K (hidS S (upd H p (.tup vs))) (.ref p) (.tuple ds) := by
  have e : Ex H (upd H p (.tup vs)) := Ex.new hp
  refine .tup (.inl (.inl ?_)) (dpA_mono (hidS_mono e) hs)
  rw [hidS_in (l.free hp), upd_same]
theorem new_lst {vs : List V} {ds : List D} (l : Live S H) (hp : H p = none) (hs : DpAll K (hidS S H) vs ds) : Dp K (hidS S (upd H p (.lst vs))) (.ref p) (.list ds) := by
  have e : Ex H (upd H p (.lst vs)) := Ex.new hp
  refine .lst (.inl (.inl ?_)) (dpA_mono (hidS_mono e) hs)
  rw [hidS_in (l.free hp), upd_same]
end

/-! slots -/
inductive Sl where
  | no | va (d : D) | ow (ds : List D) | io (ds : List D) | ex (a : Addr)
abbrev En := List Sl
def Sof (θ : Addr → Prop) (α : Nat → Option Addr) : Addr → Prop := fun b => θ b ∨ ∃ i, α i = some b
def SlOk (K : PySem.W.Frag) (θ : Addr → Prop) (π α : Nat → Option Addr) (σ : L2.St) (H : Hp) (i : Nat) : Sl → Prop
  | .no => True
  | .va d => ∃ v, σ[i]? = some (some v) ∧ Dp K (hidS (Sof θ α) H) v d
  | .ow ds => ∃ a vs, α i = some a ∧ π i = none ∧ σ[i]? = some (some (.ref a)) ∧ H a = some (.lst vs) ∧ DpAll K (hidS (Sof θ α) H) vs ds
  | .io ds => ∃ a vs, α i = some a ∧ π i = some a ∧ σ[i]? = some (some (.ref a)) ∧ H a = some (.lst vs) ∧ DpAll K (hidS (Sof θ α) H) vs ds
  | .ex a => σ[i]? = some (some (.ref a))
def Sl.owned : Sl → Prop
  | .ow _ => True
  | .io _ => True
  | _ => False
structure Rel (K : PySem.W.Frag) (θ : Addr → Prop) (π α : Nat → Option Addr) (σ : L2.St) (H : Hp) (ρ : En) : Prop where
  len : ρ.length = σ.length
  inj : ∀ i j a, α i = some a → α j = some a → i = j
  ap : ∀ i a, α i = some a → ¬ θ a
  lv : ∀ b, θ b → H b ≠ none
  dom : ∀ i a, α i = some a → ∃ s, ρ[i]? = some s ∧ s.owned
  pin : ∀ i a, π i = some a → ∃ ds, ρ[i]? = some (.io ds)
  tb : ∀ b, Tbs.T b → θ b ∧ isTb (H b)
  sl : ∀ i s, ρ[i]? = some s → SlOk K θ π α σ H i s
/-- from one state to a later one -/
def Stp (θ : Addr → Prop) (α : Nat → Option Addr) (H : Hp) (α' : Nat → Option Addr) (H' : Hp) : Prop :=
  Ex (hidS (Sof θ α) H) (hidS (Sof θ α') H') ∧ ∀ b, θ b → FrO (H b) (H' b)
theorem Stp.refl (θ : Addr → Prop) (α : Nat → Option Addr) (H : Hp) : Stp θ α H α H := ⟨Ex.refl _, fun _ _ => FrO.refl _⟩
theorem Stp.trans {θ : Addr → Prop} {α α1 α2 : Nat → Option Addr} {H H1 H2 : Hp} (a : Stp θ α H α1 H1) (b : Stp θ α1 H1 α2 H2) : Stp θ α H α2 H2 :=
  ⟨a.1.trans b.1, fun c h => (a.2 c h).trans (b.2 c h)⟩
section
variable {K : PySem.W.Frag} {θ : Addr → Prop} {π α : Nat → Option Addr} {σ : L2.St} {H H' : Hp} {ρ : En}
theorem Rel.owned {i : Nat} {a : Addr} (r : Rel K θ π α σ H ρ) (h : α i = some a) : ∃ vs, H a = some (.lst vs) := by
  obtain ⟨s, hs, ho⟩ := r.dom i a h
  have q := r.sl i s hs
  cases s with
  | ow ds => obtain ⟨b, vs, h1, _, _, h2, _⟩ := q; rw [h] at h1; cases h1; exact ⟨vs, h2⟩
  | io ds => obtain ⟨b, vs, h1, _, _, h2, _⟩ := q; rw [h] at h1; cases h1; exact ⟨vs, h2⟩
  | no => exact ho.elim
  | va d => exact ho.elim
  | ex b => exact ho.elim
theorem Rel.live (r : Rel K θ π α σ H ρ) : Live (Sof θ α) H := fun b h => by
  rcases h with h | ⟨i, h⟩
  · exact r.lv b h
  · obtain ⟨vs, e⟩ := r.owned h
    rw [e]; intro z; cases z
theorem SlOk.ext {i : Nat} {s : Sl} (e : Ex H H') (q : SlOk K θ π α σ H i s) : SlOk K θ π α σ H' i s := by
  cases s with
  | no => trivial
  | va d => obtain ⟨v, h1, h2⟩ := q; exact ⟨v, h1, dp_mono (hidS_mono e) h2⟩
  | ow ds => obtain ⟨a, vs, h1, h2, h3, h4, h5⟩ := q; exact ⟨a, vs, h1, h2, h3, e _ _ h4, dpA_mono (hidS_mono e) h5⟩
  | io ds => obtain ⟨a, vs, h1, h2, h3, h4, h5⟩ := q; exact ⟨a, vs, h1, h2, h3, e _ _ h4, dpA_mono (hidS_mono e) h5⟩
  | ex a => exact q
theorem isTb.ext {b : Addr} (h : isTb (H b)) (e : Ex H H') : isTb (H' b) := by
  obtain ⟨ps, z, k⟩ := h
  exact ⟨ps, e b _ z, k⟩
theorem Rel.ext (r : Rel K θ π α σ H ρ) (e : Ex H H') : Rel K θ π α σ H' ρ :=
  ⟨r.len, r.inj, r.ap, fun b h n => (Live.ext r.live e) b (.inl h) n, r.dom, r.pin, fun b h => ⟨(r.tb b h).1, (r.tb b h).2.ext e⟩, fun i s h => (r.sl i s h).ext e⟩
theorem Rel.stp (r : Rel K θ π α σ H ρ) (e : Ex H H') : Stp θ α H α H' := ⟨hidS_mono e, fun b h => by
  cases q : H b with
  | none => exact absurd q (r.lv b h)
  | some o => exact .inl (e b o q)⟩
/-- what a slot holds, as it is read -/
def rd (ρ : En) (i : Nat) : Option D := match ρ[i]? with
  | some (.va d) => some d
  | some (.ow ds) => some (.list ds)
  | some (.io ds) => some (.list ds)
  | _ => none
theorem Rel.rd {i : Nat} {d : D} (r : Rel K θ π α σ H ρ) (h : rd ρ i = some d) : ∃ v, σ[i]? = some (some v) ∧ Rp K (Sof θ α) H v d := by
  unfold Den.rd at h
  split at h
  · rename_i d' e
    cases h
    obtain ⟨v, h1, h2⟩ := r.sl i _ e
    exact ⟨v, h1, .val h2⟩
  · rename_i ds e
    cases h
    obtain ⟨a, vs, h1, h2, h3, h4, h5⟩ := r.sl i _ e
    exact ⟨_, h3, .own h4 h5⟩
  · rename_i ds e
    cases h
    obtain ⟨a, vs, h1, h2, h3, h4, h5⟩ := r.sl i _ e
    exact ⟨_, h3, .own h4 h5⟩
  · cases h
end
end Den

namespace Den
variable [Tbs]
open PySem L2 Evl PySem.Spec PyProof.Rows
open Classical

/-! weaker ends -/
section
variable {X : Cx}
theorem peI {e : Expr} {t t' : TE} (h : PE X e t) (k : ∀ σ H Q, t' σ H Q → t σ H Q) : PE X e t' := ⟨fun pins s σ H Q I q => h.run pins s σ H Q I (k _ _ _ q)⟩
theorem ptI {e : Expr} {t t' : TT} (h : PT X e t) (k : ∀ σ H Q, t' σ H Q → t σ H Q) : PT X e t' := ⟨fun pins s σ H Q I q => h.run pins s σ H Q I (k _ _ _ q)⟩
theorem pwI {e : Expr} {t t' : TT} (h : PW X e t) (k : ∀ σ H Q, t' σ H Q → t σ H Q) : PW X e t' := ⟨fun wh pins s σ H Q I q => h.run wh pins s σ H Q I (k _ _ _ q)⟩
theorem paI {es : List Expr} {t t' : TA} (h : PA X es t) (k : ∀ σ H Q, t' σ H Q → t σ H Q) : PA X es t' := ⟨fun pos pins s σ H Q I q => h.run pos pins s σ H Q I (k _ _ _ q)⟩
theorem psI {s : Stmt} {t t' : TS} (h : PS X s t) (k : ∀ D σ H, t' D σ H → t D σ H) : PS X s t' := ⟨fun pins st σ H D I q => h.run pins st σ H D I (k _ _ _ q)⟩
theorem pssI {s : List Stmt} {t t' : TS} (h : PSs X s t) (k : ∀ D σ H, t' D σ H → t D σ H) : PSs X s t' := ⟨fun pins st σ H D I q => h.run pins st σ H D I (k _ _ _ q)⟩
theorem pgI {e : Expr} {t t' : TG} (h : PG X e t) (k : ∀ v σ H Q, t' v σ H Q → t v σ H Q) : PG X e t' := ⟨fun pins s σ H v u Q I r q => h.run pins s σ H v u Q I r (k _ _ _ _ q)⟩
theorem pgsI {e : List Expr} {t t' : TGs} (h : PGs X e t) (k : ∀ v σ H Q, t' v σ H Q → t v σ H Q) : PGs X e t' := ⟨fun pins s σ H v u Q I r q => h.run pins s σ H v u Q I r (k _ _ _ _ q)⟩
theorem poI {e : Option Expr} {t t' : TO} (h : PO X e t) (k : ∀ σ H Q, t' σ H Q → t σ H Q) : PO X e t' := ⟨fun pins s σ H Q I q => h.run pins s σ H Q I (k _ _ _ q)⟩
theorem ptsI {e : List Expr} {t t' : TT} (h : PTs X e t) (k : ∀ σ H Q, t' σ H Q → t σ H Q) : PTs X e t' := ⟨fun pins s σ H Q I q => h.run pins s σ H Q I (k _ _ _ q)⟩
theorem piI {tg e : Expr} {t t' : TI} (h : PI X tg e t) (k : ∀ σ H R, t' σ H R → t σ H R) : PI X tg e t' := ⟨fun pins s σ H Q I q => h.run pins s σ H Q I (k _ _ _ q)⟩
end

/-! what is wanted, over data -/
abbrev RC := D → En → Prop
abbrev EC := Addr → En → Prop
abbrev WE := En → RC → EC → Prop
abbrev LR := En → D → Prop
abbrev WL := En → (LR → En → Prop) → EC → Prop
abbrev WT := En → (Bool → En → Prop) → EC → Prop
abbrev WA := En → (List D → En → Prop) → EC → Prop
abbrev WO := En → (Option Int → En → Prop) → EC → Prop
abbrev WG := D → En → (En → Prop) → EC → Prop
structure Bx where
  nx : En → Prop
  rt : D → En → Prop
  rf : List D → En → Prop := fun _ _ => False
  bk : En → Prop := fun _ => False
  ct : En → Prop := fun _ => False
  rs : Addr → En → Prop := fun _ _ => False
abbrev WS := Bx → En → Prop

section
variable (K : PySem.W.Frag) (W : WX)
def Exi (θ : Addr → Prop) (π α : Nat → Option Addr) (σ : L2.St) (H : Hp) (E : EC) : Prop :=
  ∀ α' σ' H' c ρ', Rel K θ π α' σ' H' ρ' → Stp θ α H α' H' → E c ρ' → W (.ref c) none σ' H'
def cE (w : WE) : TE := fun σ H Q => ∃ θ π α ρ R E, Rel K θ π α σ H ρ ∧ w ρ R E ∧
  (∀ α' v H' d ρ', Rel K θ π α' σ H' ρ' → Stp θ α H α' H' → Dp K (hidS (Sof θ α') H') v d → R d ρ' → Q v H') ∧ Exi K W θ π α σ H E
/-- when it is read later -/
def Lat (θ : Addr → Prop) (π : Nat → Option Addr) (σ : L2.St) (α : Nat → Option Addr) (H : Hp) (v : V) (L : LR) : Prop :=
  ∀ α2 H2 ρ2, Rel K θ π α2 σ H2 ρ2 → Stp θ α H α2 H2 → ∀ d, L ρ2 d → Rp K (Sof θ α2) H2 v d
def cL (w : WL) : TE := fun σ H Q => ∃ θ π α ρ R E, Rel K θ π α σ H ρ ∧ w ρ R E ∧
  (∀ α' v H' L ρ', Rel K θ π α' σ H' ρ' → Stp θ α H α' H' → Lat K θ π σ α' H' v L → R L ρ' → Q v H') ∧ Exi K W θ π α σ H E
def cT (w : WT) : TT := fun σ H Q => ∃ θ π α ρ R E, Rel K θ π α σ H ρ ∧ w ρ R E ∧
  (∀ α' H' b ρ', Rel K θ π α' σ H' ρ' → Stp θ α H α' H' → R b ρ' → Q b H') ∧ Exi K W θ π α σ H E
def cO (w : WO) : TO := fun σ H Q => ∃ θ π α ρ R E, Rel K θ π α σ H ρ ∧ w ρ R E ∧
  (∀ α' H' b ρ', Rel K θ π α' σ H' ρ' → Stp θ α H α' H' → R b ρ' → Q b H') ∧ Exi K W θ π α σ H E
def cA (n : Nat) (w : WA) : TA := fun σ H Q => ∃ θ π α ρ R E, Rel K θ π α σ H ρ ∧ w ρ R E ∧
  (∀ α' vs H' ds ρ', Rel K θ π α' σ H' ρ' → Stp θ α H α' H' → DpAll K (hidS (Sof θ α') H') vs ds → ds.length = n → R ds ρ' → Q vs H') ∧ Exi K W θ π α σ H E
/-- a new list that nobody else holds -/
def th (θ : Addr → Prop) (p : Addr) : Addr → Prop := fun b => θ b ∨ b = p
def StpF (θ : Addr → Prop) (α : Nat → Option Addr) (H : Hp) (p : Addr) (α' : Nat → Option Addr) (H' : Hp) : Prop :=
  Ex (hidS (Sof θ α) H) (hidS (Sof (th θ p) α') H') ∧ ∀ b, θ b → FrO (H b) (H' b)
def cF (w : WA) : TE := fun σ H Q => ∃ θ π α ρ R E, Rel K θ π α σ H ρ ∧ w ρ R E ∧
  (∀ α' p vs H' ds ρ', Rel K (th θ p) π α' σ H' ρ' → StpF θ α H p α' H' → ¬ θ p → H' p = some (.lst vs) → DpAll K (hidS (Sof (th θ p) α') H') vs ds → R ds ρ' → Q (.ref p) H') ∧ Exi K W θ π α σ H E
def cG (w : WG) : TG := fun v σ H Q => ∃ θ π α ρ d R E, Rel K θ π α σ H ρ ∧ Dp K (hidS (Sof θ α) H) v d ∧ w d ρ R E ∧
  (∀ α' σ' H' ρ', Rel K θ π α' σ' H' ρ' → Stp θ α H α' H' → R ρ' → Q σ' H') ∧ Exi K W θ π α σ H E
structure Fits (θ : Addr → Prop) (π α : Nat → Option Addr) (H : Hp) (D : Ends) (B : Bx) : Prop where
  nx : ∀ α' σ' H' ρ', Rel K θ π α' σ' H' ρ' → Stp θ α H α' H' → B.nx ρ' → D.nx σ' H'
  bk : ∀ α' σ' H' ρ', Rel K θ π α' σ' H' ρ' → Stp θ α H α' H' → B.bk ρ' → D.bk σ' H'
  ct : ∀ α' σ' H' ρ', Rel K θ π α' σ' H' ρ' → Stp θ α H α' H' → B.ct ρ' → D.ct σ' H'
  rt : ∀ α' σ' H' v d ρ', Rel K θ π α' σ' H' ρ' → Stp θ α H α' H' → Dp K (hidS (Sof θ α') H') v d → B.rt d ρ' → D.rt v H'
  rf : ∀ α' σ' p vs H' ds ρ', Rel K (th θ p) π α' σ' H' ρ' → StpF θ α H p α' H' → ¬ θ p → H' p = some (.lst vs) → DpAll K (hidS (Sof (th θ p) α') H') vs ds → B.rf ds ρ' → D.rt (.ref p) H'
  rs : ∀ α' σ' H' c ρ', Rel K θ π α' σ' H' ρ' → Stp θ α H α' H' → B.rs c ρ' → W (.ref c) none σ' H'
def cS (w : WS) : TS := fun D σ H => ∃ θ π α ρ B, Rel K θ π α σ H ρ ∧ w B ρ ∧ Fits K W θ π α H D B
end
section
variable {K : PySem.W.Frag} {W : WX} {θ : Addr → Prop} {π α α1 : Nat → Option Addr} {σ : L2.St} {H H1 : Hp} {E : EC} {De : Ends} {B : Bx} {v : V} {d : D} {L : LR}
theorem Exi.step (x : Exi K W θ π α σ H E) (s : Stp θ α H α1 H1) : Exi K W θ π α1 σ H1 E := fun α' σ' H' c ρ' r s' e => x α' σ' H' c ρ' r (s.trans s') e
theorem Fits.step (x : Fits K W θ π α H De B) (s : Stp θ α H α1 H1) : Fits K W θ π α1 H1 De B :=
  ⟨fun α' σ' H' ρ' r s' e => x.nx α' σ' H' ρ' r (s.trans s') e, fun α' σ' H' ρ' r s' e => x.bk α' σ' H' ρ' r (s.trans s') e, fun α' σ' H' ρ' r s' e => x.ct α' σ' H' ρ' r (s.trans s') e,
   fun α' σ' H' v d ρ' r s' p e => x.rt α' σ' H' v d ρ' r (s.trans s') p e, fun α' σ' p vs H' ds ρ' r s' np h d e => x.rf α' σ' p vs H' ds ρ' r ⟨s.1.trans s'.1, fun b hb => (s.2 b hb).trans (s'.2 b hb)⟩ np h d e, fun α' σ' H' c ρ' r s' e => x.rs α' σ' H' c ρ' r (s.trans s') e⟩
theorem Fits.exi (x : Fits K W θ π α H De B) : Exi K W θ π α σ H B.rs := fun α' σ' H' c ρ' r s' e => x.rs α' σ' H' c ρ' r s' e
theorem Lat.const (h : Dp K (hidS (Sof θ α) H) v d) : Lat K θ π σ α H v (fun _ d' => d' = d) := fun α2 H2 ρ2 r s d' e => by
  subst e
  exact .val (dp_mono s.1 h)
theorem Lat.step (h : Lat K θ π σ α H v L) (s : Stp θ α H α1 H1) : Lat K θ π σ α1 H1 v L := fun α2 H2 ρ2 r s2 d e => h α2 H2 ρ2 r (s.trans s2) d e
end

/-! reading -/
def wL (w : WE) : WL := fun ρ R E => w ρ (fun d ρ' => R (fun _ d' => d' = d) ρ') E
def wN (j : Nat) : WL := fun ρ R E => (∃ d, rd ρ j = some d) ∧ R (fun ρ' d => rd ρ' j = some d) ρ
def wV (j : Nat) : WE := fun ρ R E => match ρ[j]? with
  | some (.va d) => R d ρ
  | some (.ow ds) => R (.list ds) (ρ.set j (.va (.list ds)))
  | _ => False
def wC (d : D) : WE := fun ρ R E => R d ρ
section
variable {K : PySem.W.Frag} {W : WX} {X : Cx} {e : Expr}
theorem dl {w : WE} (h : PE X e (cE K W w)) : PE X e (cL K W (wL w)) := peI h fun σ H Q ⟨θ, π, α, ρ, R, E, hR, hw, hq, he⟩ =>
  ⟨θ, π, α, ρ, _, E, hR, hw, fun α' v H' d ρ' r s p q => hq α' v H' _ ρ' r s (Lat.const p) q, he⟩
theorem dN {i : Nat} {x : Str} {pos : Pos} (h : PE X (.Name x pos) (tVar i)) : PE X (.Name x pos) (cL K W (wN i)) := peI h fun σ H Q ⟨θ, π, α, ρ, R, E, hR, hw, hq, he⟩ => by
  obtain ⟨⟨d, hd⟩, hw⟩ := hw
  obtain ⟨v, h1, h2⟩ := hR.rd hd
  exact ⟨v, h1, hq α v H _ ρ hR (Stp.refl ..) (fun α2 H2 ρ2 r s d' e => by
    obtain ⟨v2, h3, h4⟩ := r.rd e
    rw [h1] at h3
    cases h3
    exact h4) hw⟩
theorem dC {v : V} {d : D} (h : PE X e (tC v)) (hd : ∀ G, Dp K G v d) : PE X e (cE K W (wC d)) := peI h fun σ H Q ⟨θ, π, α, ρ, R, E, hR, hw, hq, he⟩ =>
  hq α v H d ρ hR (Stp.refl ..) (hd _) hw
/-- a list gets out of its slot -/
theorem Rel.freeze {θ : Addr → Prop} {π α : Nat → Option Addr} {σ : L2.St} {H : Hp} {ρ : En} {j : Nat} {ds : List D} (r : Rel K θ π α σ H ρ) (h : ρ[j]? = some (.ow ds)) :
    ∃ α' v, Rel K θ π α' σ H (ρ.set j (.va (.list ds))) ∧ Stp θ α H α' H ∧ σ[j]? = some (some v) ∧ Dp K (hidS (Sof θ α') H) v (.list ds) := by
  obtain ⟨a, vs, h1, h2, h3, h4, h5⟩ := r.sl j _ h
  have hlt : j < ρ.length := (List.getElem?_eq_some_iff.mp h).1
  have hsub : ∀ b, Sof θ (fun i => if i = j then none else α i) b → Sof θ α b := fun b hb => by
    rcases hb with hb | ⟨i, hb⟩
    · exact .inl hb
    · by_cases e : i = j
      · subst e; simp at hb
      · exact .inr ⟨i, by simpa [e] using hb⟩
  have hex : Ex (hidS (Sof θ α) H) (hidS (Sof θ (fun i => if i = j then none else α i)) H) := fun b o q => by
    unfold hidS at q ⊢
    split at q
    · cases q
    · rename_i hn
      rw [if_neg (fun z => hn (hsub b z))]
      exact q
  have hna : ¬ Sof θ (fun i => if i = j then none else α i) a := fun z => by
    rcases z with z | ⟨i, z⟩
    · exact r.ap j a h1 z
    · by_cases e : i = j
      · subst e; simp at z
      · exact e (r.inj i j a (by simpa [e] using z) h1)
  have hdp : Dp K (hidS (Sof θ (fun i => if i = j then none else α i)) H) (.ref a) (.list ds) := .lst (.inl (.inl (by rw [hidS_in hna]; exact h4))) (dpA_mono hex h5)
  refine ⟨fun i => if i = j then none else α i, .ref a, ⟨by simpa using r.len, fun i k b q1 q2 => ?_, fun i b q => ?_, r.lv, fun i b q => ?_, fun i b q => ?_, r.tb, fun i s q => ?_⟩, ⟨hex, fun _ _ => FrO.refl _⟩, h3, hdp⟩
  · by_cases e1 : i = j
    · subst e1; simp at q1
    · by_cases e2 : k = j
      · subst e2; simp at q2
      · exact r.inj i k b (by simpa [e1] using q1) (by simpa [e2] using q2)
  · by_cases e1 : i = j
    · subst e1; simp at q
    · exact r.ap i b (by simpa [e1] using q)
  · by_cases e1 : i = j
    · subst e1; simp at q
    · obtain ⟨s, z1, z2⟩ := r.dom i b (by simpa [e1] using q)
      exact ⟨s, by rw [List.getElem?_set_ne (Ne.symm e1)]; exact z1, z2⟩
  · have e1 : i ≠ j := fun z => by subst z; rw [h2] at q; cases q
    obtain ⟨es, z⟩ := r.pin i b q
    exact ⟨es, by rw [List.getElem?_set_ne (Ne.symm e1)]; exact z⟩
  · by_cases e1 : i = j
    · subst e1
      rw [List.getElem?_set_self hlt] at q
      cases q
      exact ⟨.ref a, h3, hdp⟩
    · rw [List.getElem?_set_ne (Ne.symm e1)] at q
      have z := r.sl i s q
      cases s with
      | no => trivial
      | va d => obtain ⟨v, z1, z2⟩ := z; exact ⟨v, z1, dp_mono hex z2⟩
      | ow es => obtain ⟨b, ws, z1, z2, z3, z4, z5⟩ := z; exact ⟨b, ws, by simpa [e1] using z1, z2, z3, z4, dpA_mono hex z5⟩
      | io es => obtain ⟨b, ws, z1, z2, z3, z4, z5⟩ := z; exact ⟨b, ws, by simpa [e1] using z1, z2, z3, z4, dpA_mono hex z5⟩
      | ex b => exact z
theorem dV {i : Nat} {x : Str} {pos : Pos} (h : PE X (.Name x pos) (tVar i)) : PE X (.Name x pos) (cE K W (wV i)) := peI h fun σ H Q ⟨θ, π, α, ρ, R, E, hR, hw, hq, he⟩ => by
  unfold wV at hw
  split at hw
  · rename_i d e
    obtain ⟨v, h1, h2⟩ := hR.sl i _ e
    exact ⟨v, h1, hq α v H d ρ hR (Stp.refl ..) h2 hw⟩
  · rename_i ds e
    obtain ⟨α', v, r, s, h1, h2⟩ := hR.freeze e
    exact ⟨v, h1, hq α' v H _ _ r s h2 hw⟩
  · exact hw.elim
end

/-! operations by values -/
def SR (K : PySem.W.Frag) (r : R2) (f : D → D → (D → Prop) → Prop) : Prop := ∀ (S : Addr → Prop) (H : Hp) (x y : V) (d e : D) (Q : VK) (R : D → Prop), Live S H → Rp K S H x d → Rp K S H y e → f d e R →
  (∀ v H' c, Ex H H' → Dp K (hidS S H') v c → R c → Q v H') → r x y H Q
def SU (K : PySem.W.Frag) (r : V → Hp → VK → Prop) (f : D → (D → Prop) → Prop) : Prop := ∀ (S : Addr → Prop) (H : Hp) (x : V) (d : D) (Q : VK) (R : D → Prop), Live S H → Rp K S H x d → f d R →
  (∀ v H' c, Ex H H' → Dp K (hidS S H') v c → R c → Q v H') → r x H Q
def wOp (f : D → D → (D → Prop) → Prop) (wa wb : WL) : WE := fun ρ R E => wa ρ (fun La ρ1 => wb ρ1 (fun Lb ρ2 => ∃ d e, La ρ2 d ∧ Lb ρ2 e ∧ f d e (fun z => R z ρ2)) E) E
def wUn (f : D → (D → Prop) → Prop) (wa : WL) : WE := fun ρ R E => wa ρ (fun La ρ1 => ∃ d, La ρ1 d ∧ f d (fun z => R z ρ1)) E
section
variable {K : PySem.W.Frag} {W : WX} {X : Cx}
theorem can_op {r : R2} {f : D → D → (D → Prop) → Prop} (hr : SR K r f) {wa wb : WL} (σ : L2.St) (H : Hp) (Q : VK) : cE K W (wOp f wa wb) σ H Q → tOp r (cL K W wa) (cL K W wb) σ H Q := by
  rintro ⟨θ, π, α, ρ, R, E, hR, hw, hq, he⟩
  refine ⟨θ, π, α, ρ, _, E, hR, hw, fun α1 v1 H1 L1 ρ1 R1 s1 l1 w1 => ?_, he⟩
  refine ⟨θ, π, α1, ρ1, _, E, R1, w1, fun α2 v2 H2 L2 ρ2 R2 s2 l2 w2 => ?_, he.step s1⟩
  obtain ⟨d, e, hd, he', hf⟩ := w2
  exact hr _ H2 _ _ d e Q _ R2.live (l1 α2 H2 ρ2 R2 s2 d hd) (l2 α2 H2 ρ2 R2 (Stp.refl ..) e he') hf (fun v H' c ex dp rc => hq α2 v H' c ρ2 (R2.ext ex) ((s1.trans s2).trans (R2.stp ex)) dp rc)
theorem can_un {r : V → Hp → VK → Prop} {f : D → (D → Prop) → Prop} (hr : SU K r f) {wa : WL} (σ : L2.St) (H : Hp) (Q : VK) : cE K W (wUn f wa) σ H Q → tUn r (cL K W wa) σ H Q := by
  rintro ⟨θ, π, α, ρ, R, E, hR, hw, hq, he⟩
  refine ⟨θ, π, α, ρ, _, E, hR, hw, fun α1 v1 H1 L1 ρ1 R1 s1 l1 w1 => ?_, he⟩
  obtain ⟨d, hd, hf⟩ := w1
  exact hr _ H1 _ d Q _ R1.live (l1 α1 H1 ρ1 R1 (Stp.refl ..) d hd) hf (fun v H' c ex dp rc => hq α1 v H' c ρ1 (R1.ext ex) (s1.trans (R1.stp ex)) dp rc)
theorem dOp {op : Operator} {r : R2} {f : D → D → (D → Prop) → Prop} {a b : Expr} {pos : Pos} {wa wb : WL} (ho : OpR X (binaryOp op) r) (hr : SR K r f) (ha : PE X a (cL K W wa)) (hb : PE X b (cL K W wb)) : PE X (.BinOp a op b pos) (cE K W (wOp f wa wb)) :=
  peI (pe_op ho ha hb) (can_op hr)
theorem dCmp {op : CmpOp} {r : R2} {f : D → D → (D → Prop) → Prop} {a b : Expr} {pos : Pos} {wa wb : WL} (ho : OpR X (compareOp op) r) (hr : SR K r f) (ha : PE X a (cL K W wa)) (hb : PE X b (cL K W wb)) (hm : behindInMarks op b = false) : PE X (.Compare a [op] [b] pos) (cE K W (wOp f wa wb)) :=
  peI (pe_cmpR ho ha hb hm) (can_op hr)
theorem dUn {op : UnaryOp} {r : V → Hp → VK → Prop} {f : D → (D → Prop) → Prop} {a : Expr} {pos : Pos} {wa : WL} (ho : UnR X (unaryOp op) r) (hr : SU K r f) (ha : PE X a (cL K W wa)) : PE X (.UnaryOp op a pos) (cE K W (wUn f wa)) :=
  peI (pe_un ho ha) (can_un hr)
theorem dIx {r : R2} {f : D → D → (D → Prop) → Prop} {a b : Expr} {pos : Pos} {wa wb : WL} (ho : IxR X r) (hr : SR K r f) (ha : PE X a (cL K W wa)) (hb : PE X b (cL K W wb)) (hs : PlainIx b) : PE X (.Subscript a b pos) (cE K W (wOp f wa wb)) :=
  peI (pe_ix ho ha hb hs) (can_op hr)
end
end Den

namespace Den
variable [Tbs]
open PySem L2 Evl PySem.Spec PyProof.Rows
open Classical

section
variable {K : PySem.W.Frag} {W : WX} {X : Cx} {θ : Addr → Prop} {π α : Nat → Option Addr} {σ : L2.St} {H : Hp} {ρ : En} {p : Addr} {o : HO}

/-! tests -/
def wTb (w : WE) : WT := fun ρ R E => w ρ (fun d ρ' => ∃ b, d = .bool b ∧ R b ρ') E
def wAnd (wa wb : WT) : WT := fun ρ R E => wa ρ (fun b ρ1 => if b = true then wb ρ1 R E else R false ρ1) E
def wOr (wa wb : WT) : WT := fun ρ R E => wa ρ (fun b ρ1 => if b = true then R true ρ1 else wb ρ1 R E) E
def wNot (wa : WT) : WT := fun ρ R E => wa ρ (fun b ρ1 => R (!b) ρ1) E
def wAndV (wa wb : WE) : WE := fun ρ R E => wa ρ (fun d ρ1 => ∃ b, d = .bool b ∧ if b = true then wb ρ1 R E else R (.bool false) ρ1) E
def wOrV (wa wb : WE) : WE := fun ρ R E => wa ρ (fun d ρ1 => ∃ b, d = .bool b ∧ if b = true then R (.bool true) ρ1 else wb ρ1 R E) E
def wNotV (wa : WE) : WE := fun ρ R E => wa ρ (fun d ρ1 => ∃ b, d = .bool b ∧ R (.bool (!b)) ρ1) E
def wIf (wt : WT) (wa wb : WE) : WE := fun ρ R E => wt ρ (fun b ρ1 => if b = true then wa ρ1 R E else wb ρ1 R E) E

theorem dp_b {v : V} {b : Bool} (h : Dp K H v (.bool b)) : v = .bl b := by cases h; rfl
theorem can_tb {w : WE} (σ : L2.St) (H : Hp) (Q : Bool → Hp → Prop) : cT K W (wTb w) σ H Q → tTest (cE K W w) σ H Q := by
  rintro ⟨θ, π, α, ρ, R, E, hR, hw, hq, he⟩
  refine ⟨θ, π, α, ρ, _, E, hR, hw, fun α1 v1 H1 d ρ1 R1 s1 p1 w1 => ?_, he⟩
  obtain ⟨b, rfl, w1⟩ := w1
  exact ⟨b, dp_b p1, hq α1 H1 b ρ1 R1 s1 w1⟩
theorem dTc {op : CmpOp} {r : R2} {f : D → D → (D → Prop) → Prop} {a b : Expr} {pos : Pos} {wa wb : WL} (ho : OpR X (compareOp op) r) (hr : SR K r f) (ha : PE X a (cL K W wa)) (hb : PE X b (cL K W wb)) (hm : behindInMarks op b = false) : PT X (.Compare a [op] [b] pos) (cT K W (wTb (wOp f wa wb))) :=
  ptI (pt_cmpR ho ha hb hm) fun σ H Q q => by
    have z := can_tb σ H Q q
    exact can_op hr σ H _ z
theorem dTv {e : Expr} {w : WE} (h : PE X e (cE K W w)) (he : ∀ whole, isTrue e X.env whole = (do let v ← whole; standAt e.pos; holding [v] (truthy v)) := by intro _; rfl) : PT X e (cT K W (wTb w)) := ptI (pt_val h he) can_tb
theorem dNot {a : Expr} {pos : Pos} {wa : WT} (ha : PT X a (cT K W wa)) : PT X (.UnaryOp .Not a pos) (cT K W (wNot wa)) := ptI (pt_not ha) fun σ H Q ⟨θ, π, α, ρ, R, E, hR, hw, hq, he⟩ =>
  ⟨θ, π, α, ρ, _, E, hR, hw, fun α1 H1 b ρ1 R1 s1 w1 => hq α1 H1 _ ρ1 R1 s1 w1, he⟩
theorem can_and {wa wb : WT} (σ : L2.St) (H : Hp) (Q : Bool → Hp → Prop) : cT K W (wAnd wa wb) σ H Q → tAnd (cT K W wa) (cT K W wb) σ H Q := by
  rintro ⟨θ, π, α, ρ, R, E, hR, hw, hq, he⟩
  refine ⟨θ, π, α, ρ, _, E, hR, hw, fun α1 H1 b ρ1 R1 s1 w1 => ?_, he⟩
  cases b with
  | true => rw [if_pos rfl] at w1 ⊢; exact ⟨θ, π, α1, ρ1, R, E, R1, w1, fun α2 H2 b ρ2 R2 s2 w2 => hq α2 H2 b ρ2 R2 (s1.trans s2) w2, he.step s1⟩
  | false => rw [if_neg Bool.false_ne_true] at w1 ⊢; exact hq α1 H1 _ ρ1 R1 s1 w1
theorem can_or {wa wb : WT} (σ : L2.St) (H : Hp) (Q : Bool → Hp → Prop) : cT K W (wOr wa wb) σ H Q → tOr (cT K W wa) (cT K W wb) σ H Q := by
  rintro ⟨θ, π, α, ρ, R, E, hR, hw, hq, he⟩
  refine ⟨θ, π, α, ρ, _, E, hR, hw, fun α1 H1 b ρ1 R1 s1 w1 => ?_, he⟩
  cases b with
  | false => rw [if_neg Bool.false_ne_true] at w1 ⊢; exact ⟨θ, π, α1, ρ1, R, E, R1, w1, fun α2 H2 b ρ2 R2 s2 w2 => hq α2 H2 b ρ2 R2 (s1.trans s2) w2, he.step s1⟩
  | true => rw [if_pos rfl] at w1 ⊢; exact hq α1 H1 _ ρ1 R1 s1 w1
theorem dAnd {a b : Expr} {rest : List Expr} {pos : Pos} {wa wb : WT} (ha : PT X a (cT K W wa)) (hb : PW X (.BoolOp .And (b :: rest) pos) (cT K W wb)) : PW X (.BoolOp .And (a :: b :: rest) pos) (cT K W (wAnd wa wb)) := pwI (pw_and ha hb) can_and
theorem dOr {a b : Expr} {rest : List Expr} {pos : Pos} {wa wb : WT} (ha : PT X a (cT K W wa)) (hb : PW X (.BoolOp .Or (b :: rest) pos) (cT K W wb)) : PW X (.BoolOp .Or (a :: b :: rest) pos) (cT K W (wOr wa wb)) := pwI (pw_or ha hb) can_or
theorem dAndV {a b : Expr} {rest : List Expr} {pos : Pos} {wa wb : WE} (ha : PE X a (cE K W wa)) (hb : PE X (.BoolOp .And (b :: rest) pos) (cE K W wb)) : PE X (.BoolOp .And (a :: b :: rest) pos) (cE K W (wAndV wa wb)) :=
  peI (pe_and ha hb) fun σ H Q ⟨θ, π, α, ρ, R, E, hR, hw, hq, he⟩ => by
    refine ⟨θ, π, α, ρ, _, E, hR, hw, fun α1 v1 H1 d ρ1 R1 s1 p1 w1 => ?_, he⟩
    obtain ⟨b, rfl, w1⟩ := w1
    refine ⟨b, dp_b p1, ?_⟩
    cases b with
    | true => rw [if_pos rfl] at w1 ⊢; exact ⟨θ, π, α1, ρ1, R, E, R1, w1, fun α2 v H2 b ρ2 R2 s2 p2 w2 => hq α2 v H2 b ρ2 R2 (s1.trans s2) p2 w2, he.step s1⟩
    | false => rw [if_neg Bool.false_ne_true] at w1 ⊢; exact hq α1 _ H1 _ ρ1 R1 s1 (.bl _) w1
theorem dOrV {a b : Expr} {rest : List Expr} {pos : Pos} {wa wb : WE} (ha : PE X a (cE K W wa)) (hb : PE X (.BoolOp .Or (b :: rest) pos) (cE K W wb)) : PE X (.BoolOp .Or (a :: b :: rest) pos) (cE K W (wOrV wa wb)) :=
  peI (pe_or ha hb) fun σ H Q ⟨θ, π, α, ρ, R, E, hR, hw, hq, he⟩ => by
    refine ⟨θ, π, α, ρ, _, E, hR, hw, fun α1 v1 H1 d ρ1 R1 s1 p1 w1 => ?_, he⟩
    obtain ⟨b, rfl, w1⟩ := w1
    refine ⟨b, dp_b p1, ?_⟩
    cases b with
    | false => rw [if_neg Bool.false_ne_true] at w1 ⊢; exact ⟨θ, π, α1, ρ1, R, E, R1, w1, fun α2 v H2 b ρ2 R2 s2 p2 w2 => hq α2 v H2 b ρ2 R2 (s1.trans s2) p2 w2, he.step s1⟩
    | true => rw [if_pos rfl] at w1 ⊢; exact hq α1 _ H1 _ ρ1 R1 s1 (.bl _) w1
theorem dNotV {a : Expr} {pos : Pos} {wa : WE} (ha : PE X a (cE K W wa)) : PE X (.UnaryOp .Not a pos) (cE K W (wNotV wa)) :=
  peI (pe_not ha) fun σ H Q ⟨θ, π, α, ρ, R, E, hR, hw, hq, he⟩ => by
    refine ⟨θ, π, α, ρ, _, E, hR, hw, fun α1 v1 H1 d ρ1 R1 s1 p1 w1 => ?_, he⟩
    obtain ⟨b, rfl, w1⟩ := w1
    exact ⟨b, dp_b p1, hq α1 _ H1 _ ρ1 R1 s1 (.bl _) w1⟩
theorem dIf {c a b : Expr} {pos : Pos} {wt : WT} {wa wb : WE} (hc : PT X c (cT K W wt)) (ha : PE X a (cE K W wa)) (hb : PE X b (cE K W wb)) : PE X (.IfExp c a b pos) (cE K W (wIf wt wa wb)) :=
  peI (pe_ifExp hc ha hb) fun σ H Q ⟨θ, π, α, ρ, R, E, hR, hw, hq, he⟩ => by
    refine ⟨θ, π, α, ρ, _, E, hR, hw, fun α1 H1 b ρ1 R1 s1 w1 => ?_, he⟩
    cases b with
    | true => rw [if_pos rfl] at w1 ⊢; exact ⟨θ, π, α1, ρ1, R, E, R1, w1, fun α2 v H2 b ρ2 R2 s2 p2 w2 => hq α2 v H2 b ρ2 R2 (s1.trans s2) p2 w2, he.step s1⟩
    | false => rw [if_neg Bool.false_ne_true] at w1 ⊢; exact ⟨θ, π, α1, ρ1, R, E, R1, w1, fun α2 v H2 b ρ2 R2 s2 p2 w2 => hq α2 v H2 b ρ2 R2 (s1.trans s2) p2 w2, he.step s1⟩

/-! arguments, displays -/
def waNil : WA := fun ρ R _ => R [] ρ
def waCons (wa : WE) (wr : WA) : WA := fun ρ R E => wa ρ (fun d ρ1 => wr ρ1 (fun ds ρ2 => R (d :: ds) ρ2) E) E
def wTup (wa : WA) : WE := fun ρ R E => wa ρ (fun ds ρ' => R (.tuple ds) ρ') E
def wFE (wa : WA) : WE := fun ρ R E => wa ρ (fun ds ρ' => R (.list ds) ρ') E
theorem daNil : PA X [] (cA K W 0 waNil) := paI pa_nil fun σ H Q ⟨θ, π, α, ρ, R, E, hR, hw, hq, he⟩ => hq α [] H [] ρ hR (Stp.refl ..) .nil rfl hw
theorem daCons {e : Expr} {es : List Expr} {n : Nat} {wa : WE} {wr : WA} (ha : PE X e (cE K W wa)) (hr : PA X es (cA K W n wr)) (hs : starEach (e :: es) X.env = (false, eval e X.env) :: starEach es X.env := by rfl) : PA X (e :: es) (cA K W (n + 1) (waCons wa wr)) :=
  paI (pa_cons ha hr hs) fun σ H Q ⟨θ, π, α, ρ, R, E, hR, hw, hq, he⟩ => by
    refine ⟨θ, π, α, ρ, _, E, hR, hw, fun α1 v1 H1 d ρ1 R1 s1 p1 w1 => ?_, he⟩
    refine ⟨θ, π, α1, ρ1, _, E, R1, w1, fun α2 vs H2 ds ρ2 R2 s2 p2 l2 w2 => ?_, he.step s1⟩
    exact hq α2 (v1 :: vs) H2 (d :: ds) ρ2 R2 (s1.trans s2) (.cons (dp_mono s2.1 p1) p2) (by simp [l2]) w2
theorem dTup {es : List Expr} {n x1 : Nat} {pos : Pos} {wa : WA} (h : PA X es (cA K W n wa)) (hn : n ≤ sizeLine := by decide) : PE X (.Tuple es x1 pos) (cE K W (wTup wa)) :=
  peI (pe_tup h) fun σ H Q ⟨θ, π, α, ρ, R, E, hR, hw, hq, he⟩ => by
    refine ⟨θ, π, α, ρ, _, E, hR, hw, fun α2 vs H2 ds ρ2 R2 s2 p2 l2 w2 => ?_, he⟩
    refine ⟨by rw [dpA_len p2, l2]; exact hn, fun p hp => ?_⟩
    exact hq α2 _ _ _ ρ2 (R2.ext (Ex.new hp)) (s2.trans (R2.stp (Ex.new hp))) (new_tup R2.live hp p2) w2

/-! new lists -/
theorem Sof_th {b : Addr} : Sof (th θ p) α b ↔ Sof θ α b ∨ b = p := by
  constructor
  · rintro ((h | h) | h)
    · exact .inl (.inl h)
    · exact .inr h
    · exact .inl (.inr h)
  · rintro ((h | h) | h)
    · exact .inl (.inl h)
    · exact .inr h
    · exact .inl (.inr h)
theorem hid_new (hp : H p = none) : hidS (Sof (th θ p) α) (upd H p o) = hidS (Sof θ α) H := by
  funext b
  unfold hidS
  by_cases h : Sof θ α b
  · rw [if_pos h, if_pos (Sof_th.mpr (.inl h))]
  · rw [if_neg h]
    by_cases e : b = p
    · subst e
      rw [if_pos (Sof_th.mpr (.inr rfl)), hp]
    · rw [if_neg (fun z => (Sof_th.mp z).elim h e), upd_ne e]
theorem SlOk.re {θ' : Addr → Prop} {α' : Nat → Option Addr} {H' : Hp} {i : Nat} {s : Sl} (ha : α' i = α i) (hx : Ex (hidS (Sof θ α) H) (hidS (Sof θ' α') H')) (hl : ∀ a vs, α i = some a → H a = some (.lst vs) → H' a = some (.lst vs)) (q : SlOk K θ π α σ H i s) : SlOk K θ' π α' σ H' i s := by
  cases s with
  | no => trivial
  | va d => obtain ⟨v, h1, h2⟩ := q; exact ⟨v, h1, dp_mono hx h2⟩
  | ow ds => obtain ⟨a, vs, h1, h2, h3, h4, h5⟩ := q; exact ⟨a, vs, by rw [ha]; exact h1, h2, h3, hl a vs h1 h4, dpA_mono hx h5⟩
  | io ds => obtain ⟨a, vs, h1, h2, h3, h4, h5⟩ := q; exact ⟨a, vs, by rw [ha]; exact h1, h2, h3, hl a vs h1 h4, dpA_mono hx h5⟩
  | ex a => exact q
/-- all is kept but for tables that grow -/
def ExT (H H' : Hp) : Prop := Ex (hidS Tbs.T H) (hidS Tbs.T H') ∧ ∀ b, Tbs.T b → FrO (H b) (H' b)
theorem ExT.at {H' : Hp} {b : Addr} {x : HO} (e : ExT H H') (n : ¬ Tbs.T b) (h : H b = some x) : H' b = some x := by
  have z := e.1 b x (by rw [hidS_in n]; exact h)
  rw [hidS_in n] at z
  exact z
theorem Rel.extT {H' : Hp} (r : Rel K θ π α σ H ρ) (e : ExT H H') : Rel K θ π α σ H' ρ ∧ Stp θ α H α H' := by
  have hx : Ex (hidS (Sof θ α) H) (hidS (Sof θ α) H') := fun b o q => by
    unfold hidS at q ⊢
    split at q
    · cases q
    · rename_i h
      rw [if_neg h]
      exact e.at (fun z => h (.inl (r.tb b z).1)) q
  have hf : ∀ b, θ b → FrO (H b) (H' b) := fun b h => by
    by_cases z : Tbs.T b
    · exact e.2 b z
    · cases q : H b with
      | none => exact absurd q (r.lv b h)
      | some o => exact .inl (e.at z q)
  exact ⟨⟨r.len, r.inj, r.ap, fun b h => (hf b h).ne (r.lv b h), r.dom, r.pin, fun b h => ⟨(r.tb b h).1, (hf b (r.tb b h).1).tb (r.tb b h).2⟩, fun i s h => (r.sl i s h).re rfl hx fun a vs ha z => e.at (fun t => r.ap i a ha (r.tb a t).1) z⟩, hx, hf⟩
theorem Rel.hideNew (r : Rel K θ π α σ H ρ) (hp : H p = none) : Rel K (th θ p) π α σ (upd H p o) ρ := by
  have hx : Ex (hidS (Sof θ α) H) (hidS (Sof (th θ p) α) (upd H p o)) := by rw [hid_new hp]; exact Ex.refl _
  refine ⟨r.len, r.inj, fun i a h z => ?_, fun b h => ?_, r.dom, r.pin, fun b h => ⟨.inl (r.tb b h).1, by obtain ⟨ps, z, k⟩ := (r.tb b h).2; exact ⟨ps, by rw [upd_ne (ne_of_none z hp)]; exact z, k⟩⟩, fun i s h => (r.sl i s h).re rfl hx fun a vs _ e => by rw [upd_ne (ne_of_none e hp)]; exact e⟩
  · rcases z with z | z
    · exact r.ap i a h z
    · obtain ⟨vs, e⟩ := r.owned h
      rw [z, hp] at e; cases e
  · rcases h with h | h
    · rw [upd_ne (fun z => by subst z; exact r.lv _ h hp)]
      exact r.lv b h
    · subst h; rw [upd_same]; intro z; cases z
theorem Rel.stpNew (r : Rel K θ π α σ H ρ) (hp : H p = none) : StpF θ α H p α (upd H p o) :=
  ⟨by rw [hid_new hp]; exact Ex.refl _, fun b h => .inl (upd_ne (fun z => by subst z; exact r.lv _ h hp))⟩
theorem Rel.tbF {vs : List V} (r : Rel K (th θ p) π α σ H ρ) (h1 : H p = some (.lst vs)) : ∀ b, Tbs.T b → θ b ∧ isTb (H b) := fun b h => by
  obtain ⟨z, t⟩ := r.tb b h
  refine ⟨z.elim id fun z => ?_, t⟩
  obtain ⟨ps, q, _⟩ := t
  rw [z, h1] at q
  cases q
theorem Rel.unhide {vs : List V} (r : Rel K (th θ p) π α σ H ρ) (np : ¬ θ p) (h1 : H p = some (.lst vs)) : Rel K θ π α σ H ρ ∧ Ex (hidS (Sof (th θ p) α) H) (hidS (Sof θ α) H) := by
  have hx : Ex (hidS (Sof (th θ p) α) H) (hidS (Sof θ α) H) := fun b o q => by
    unfold hidS at q ⊢
    split at q
    · cases q
    · rename_i h
      rw [if_neg (fun z => h (Sof_th.mpr (.inl z)))]
      exact q
  exact ⟨⟨r.len, r.inj, fun i a h z => r.ap i a h (.inl z), fun b h => r.lv b (.inl h), r.dom, r.pin, r.tbF h1, fun i s h => (r.sl i s h).re rfl hx fun _ _ _ e => e⟩, hx⟩
theorem dFE {e : Expr} {w : WA} (h : PE X e (cF K W w)) : PE X e (cE K W (wFE w)) := peI h fun σ H Q ⟨θ, π, α, ρ, R, E, hR, hw, hq, he⟩ => by
  refine ⟨θ, π, α, ρ, _, E, hR, hw, fun α1 p vs H1 ds ρ1 R1 s1 np h1 p1 w1 => ?_, he⟩
  obtain ⟨R2, hx⟩ := R1.unhide np h1
  have hnp : ¬ Sof θ α1 p := fun z => by
    rcases z with z | ⟨i, z⟩
    · exact np z
    · exact R1.ap i p z (.inr rfl)
  exact hq α1 (.ref p) H1 _ ρ1 R2 ⟨s1.1.trans hx, s1.2⟩ (.lst (.inl (.inl (by rw [hidS_in hnp]; exact h1))) (dpA_mono hx p1)) w1
theorem can_newl {w : WA} {n : Nat} {t : TA} (hc : ∀ σ H Q, cA K W n w σ H Q → t σ H Q) (hn : n ≤ sizeLine) (σ : L2.St) (H : Hp) (Q : VK) : cF K W w σ H Q → tLst t σ H Q := by
  rintro ⟨θ, π, α, ρ, R, E, hR, hw, hq, he⟩
  refine hc _ _ _ ⟨θ, π, α, ρ, R, E, hR, hw, fun α2 vs H2 ds ρ2 R2 s2 p2 l2 w2 => ?_, he⟩
  refine ⟨by rw [dpA_len p2, l2]; exact hn, fun p hp => ?_⟩
  have e := hid_new (θ := θ) (α := α2) (o := .lst vs) hp
  exact hq α2 p vs _ ds ρ2 (R2.hideNew hp) ⟨by rw [e]; exact s2.1, fun b hb => (s2.2 b hb).trans ((R2.stpNew hp).2 b hb)⟩ (fun z => R2.lv p z hp) upd_same (by rw [e]; exact p2) w2
theorem dLst {es : List Expr} {n : Nat} {pos : Pos} {wa : WA} (h : PA X es (cA K W n wa)) (hn : n ≤ sizeLine := by decide) : PE X (.List es pos) (cF K W wa) :=
  peI (pe_lst h) (can_newl (fun _ _ _ q => q) hn)
/-- an owned list leaves its slot -/
def wVF (j : Nat) : WA := fun ρ R E => match ρ[j]? with
  | some (.ow ds) => R ds (ρ.set j .no)
  | _ => False
theorem dVF {i : Nat} {x : Str} {pos : Pos} (h : PE X (.Name x pos) (tVar i)) : PE X (.Name x pos) (cF K W (wVF i)) := peI h fun σ H Q ⟨θ, π, α, ρ, R, E, hR, hw, hq, he⟩ => by
  unfold wVF at hw
  split at hw
  · rename_i ds e
    obtain ⟨a, vs, h1, h2, h3, h4, h5⟩ := hR.sl i _ e
    have hlt : i < ρ.length := (List.getElem?_eq_some_iff.mp e).1
    have hS : ∀ b, Sof (th θ a) (fun k => if k = i then none else α k) b ↔ Sof θ α b := fun b => by
      rw [Sof_th]
      constructor
      · rintro ((hb | ⟨k, hb⟩) | hb)
        · exact .inl hb
        · by_cases z : k = i
          · subst z; simp at hb
          · exact .inr ⟨k, by simpa [z] using hb⟩
        · subst hb; exact .inr ⟨i, h1⟩
      · rintro (hb | ⟨k, hb⟩)
        · exact .inl (.inl hb)
        · by_cases z : k = i
          · subst z; rw [h1] at hb; cases hb; exact .inr rfl
          · exact .inl (.inr ⟨k, by simpa [z] using hb⟩)
    have hh : hidS (Sof (th θ a) (fun k => if k = i then none else α k)) H = hidS (Sof θ α) H := by
      have : Sof (th θ a) (fun k => if k = i then none else α k) = Sof θ α := by funext b; exact propext (hS b)
      rw [this]
    refine ⟨.ref a, h3, hq (fun k => if k = i then none else α k) a vs H ds _ ⟨by simpa using hR.len, fun k l b q1 q2 => ?_, fun k b q z => ?_, fun b z => ?_, fun k b q => ?_, fun k b q => ?_, fun b h => ⟨.inl (hR.tb b h).1, (hR.tb b h).2⟩, fun k s q => ?_⟩ ⟨by rw [hh]; exact Ex.refl _, fun _ _ => FrO.refl _⟩ (hR.ap i a h1) h4 (by rw [hh]; exact h5) hw⟩
    · by_cases e1 : k = i
      · subst e1; simp at q1
      · by_cases e2 : l = i
        · subst e2; simp at q2
        · exact hR.inj k l b (by simpa [e1] using q1) (by simpa [e2] using q2)
    · by_cases e1 : k = i
      · subst e1; simp at q
      · rcases z with z | z
        · exact hR.ap k b (by simpa [e1] using q) z
        · subst z; exact e1 (hR.inj k i b (by simpa [e1] using q) h1)
    · rcases z with z | z
      · exact hR.lv b z
      · subst z; rw [h4]; intro z; cases z
    · by_cases e1 : k = i
      · subst e1; simp at q
      · obtain ⟨s, z1, z2⟩ := hR.dom k b (by simpa [e1] using q)
        exact ⟨s, by rw [List.getElem?_set_ne (Ne.symm e1)]; exact z1, z2⟩
    · have e1 : k ≠ i := fun z => by subst z; rw [h2] at q; cases q
      obtain ⟨es, z⟩ := hR.pin k b q
      exact ⟨es, by rw [List.getElem?_set_ne (Ne.symm e1)]; exact z⟩
    · by_cases e1 : k = i
      · subst e1
        rw [List.getElem?_set_self hlt] at q
        cases q
        trivial
      · rw [List.getElem?_set_ne (Ne.symm e1)] at q
        exact (hR.sl k s q).re (by simp [e1]) (by rw [hh]; exact Ex.refl _) fun _ _ _ z => z
  · exact hw.elim

/-! stores -/
def asgV (i : Nat) (s : Sl) (ρ : En) (k : En → Prop) : Prop := match ρ[i]? with
  | some (.io _) => False
  | none => False
  | _ => k (ρ.set i s)
/-- slot i gets a new value -/
theorem Rel.put {i : Nat} {v : V} {d : D} (r : Rel K θ π α σ H ρ) (hi : i < ρ.length) (hn : ∀ ds, ρ[i]? ≠ some (.io ds)) (hd : Dp K (hidS (Sof θ α) H) v d) :
    ∃ α', Rel K θ π α' (σ.set i (some v)) H (ρ.set i (.va d)) ∧ Stp θ α H α' H := by
  have hπ : π i = none := by
    cases q : π i with
    | none => rfl
    | some a => obtain ⟨ds, z⟩ := r.pin i a q; exact absurd z (hn ds)
  have hx : Ex (hidS (Sof θ α) H) (hidS (Sof θ (fun k => if k = i then none else α k)) H) := fun b o q => by
    unfold hidS at q ⊢
    split at q
    · cases q
    · rename_i hh
      rw [if_neg]
      · exact q
      · rintro (z | ⟨k, z⟩)
        · exact hh (.inl z)
        · by_cases e : k = i
          · subst e; simp at z
          · exact hh (.inr ⟨k, by simpa [e] using z⟩)
  refine ⟨fun k => if k = i then none else α k, ⟨by simpa using r.len, fun k l b q1 q2 => ?_, fun k b q => ?_, r.lv, fun k b q => ?_, fun k b q => ?_, r.tb, fun k s q => ?_⟩, ⟨hx, fun _ _ => FrO.refl _⟩⟩
  · by_cases e1 : k = i
    · subst e1; simp at q1
    · by_cases e2 : l = i
      · subst e2; simp at q2
      · exact r.inj k l b (by simpa [e1] using q1) (by simpa [e2] using q2)
  · by_cases e1 : k = i
    · subst e1; simp at q
    · exact r.ap k b (by simpa [e1] using q)
  · by_cases e1 : k = i
    · subst e1; simp at q
    · obtain ⟨s, z1, z2⟩ := r.dom k b (by simpa [e1] using q)
      exact ⟨s, by rw [List.getElem?_set_ne (Ne.symm e1)]; exact z1, z2⟩
  · have e1 : k ≠ i := fun z => by subst z; rw [hπ] at q; cases q
    obtain ⟨es, z⟩ := r.pin k b q
    exact ⟨es, by rw [List.getElem?_set_ne (Ne.symm e1)]; exact z⟩
  · by_cases e1 : k = i
    · subst e1
      rw [List.getElem?_set_self hi] at q
      cases q
      exact ⟨v, List.getElem?_set_self (by rw [← r.len]; exact hi), dp_mono hx hd⟩
    · rw [List.getElem?_set_ne (Ne.symm e1)] at q
      have z := (r.sl k s q).re (θ' := θ) (α' := fun k => if k = i then none else α k) (H' := H) (by simp [e1]) hx fun _ _ _ z => z
      have es : (σ.set i (some v))[k]? = σ[k]? := List.getElem?_set_ne (Ne.symm e1)
      cases s with
      | no => trivial
      | va d => obtain ⟨w, z1, z2⟩ := z; exact ⟨w, es.trans z1, z2⟩
      | ow ds => obtain ⟨a, vs, z1, z2, z3, z4⟩ := z; exact ⟨a, vs, z1, z2, es.trans z3, z4⟩
      | io ds => obtain ⟨a, vs, z1, z2, z3, z4⟩ := z; exact ⟨a, vs, z1, z2, es.trans z3, z4⟩
      | ex a => exact es.trans z
theorem asgV_of {i : Nat} {s : Sl} {k : En → Prop} (h : asgV i s ρ k) : i < ρ.length ∧ (∀ ds, ρ[i]? ≠ some (.io ds)) ∧ k (ρ.set i s) := by
  unfold asgV at h
  split at h
  · exact h.elim
  · exact h.elim
  · rename_i h1 h2
    refine ⟨?_, fun ds z => h1 ds z, h⟩
    cases q : ρ[i]? with
    | none => exact absurd q h2
    | some s => exact (List.getElem?_eq_some_iff.mp q).1
def wgName (i : Nat) : WG := fun d ρ R _ => asgV i (.va d) ρ R
theorem can_gname {i : Nat} (v : V) (σ : L2.St) (H : Hp) (Q : L2.St → Hp → Prop) : cG K W (wgName i) v σ H Q → gName i v σ H Q := by
  rintro ⟨θ, π, α, ρ, d, R, E, hR, hd, hw, hq, he⟩
  obtain ⟨h1, h2, h3⟩ := asgV_of hw
  obtain ⟨α', r, s⟩ := hR.put h1 h2 hd
  exact hq α' _ H _ r s h3
theorem dgName {i : Nat} {x : Str} {pos : Pos} (h : PG X (.Name x pos) (gName i)) : PG X (.Name x pos) (cG K W (wgName i)) := pgI h can_gname
/-- several names from a list of values -/
def asgAll : List Nat → List D → En → (En → Prop) → Prop
  | [], [], ρ, k => k ρ
  | i :: is, d :: ds, ρ, k => asgV i (.va d) ρ fun ρ' => asgAll is ds ρ' k
  | _, _, _, _ => False
def gNames : List Nat → TGs
  | [] => gNil
  | i :: is => gCons (gName i) (gNames is)
theorem can_names : ∀ (is : List Nat) {θ : Addr → Prop} {π α : Nat → Option Addr} {ρ : En} {ds : List D} {k : En → Prop} (vs : List V) (σ : L2.St) (H : Hp) (Q : L2.St → Hp → Prop), Rel K θ π α σ H ρ → DpAll K (hidS (Sof θ α) H) vs ds → asgAll is ds ρ k →
    (∀ α' σ' ρ', Rel K θ π α' σ' H ρ' → Stp θ α H α' H → k ρ' → Q σ' H) → gNames is vs σ H Q
  | [], _, _, _, _, [], _, vs, σ, H, Q, r, hd, h, q => by
    cases hd
    exact ⟨rfl, q _ _ _ r (Stp.refl ..) h⟩
  | [], _, _, _, _, _ :: _, _, vs, σ, H, Q, r, hd, h, q => h.elim
  | _ :: _, _, _, _, _, [], _, vs, σ, H, Q, r, hd, h, q => h.elim
  | i :: is, θ, π, α, ρ, d :: ds, k, vs, σ, H, Q, r, hd, h, q => by
    cases hd with
    | cons h1 hs =>
      obtain ⟨a1, a2, a3⟩ := asgV_of h
      obtain ⟨α', r', s'⟩ := r.put a1 a2 h1
      refine ⟨_, _, rfl, ?_⟩
      exact can_names is _ _ H Q r' (dpA_mono s'.1 hs) a3 fun α2 σ2 ρ2 r2 s2 k2 => q α2 σ2 ρ2 r2 (s'.trans s2) k2
def wgTup (is : List Nat) : WG := fun d ρ R _ => ∃ ds, d = .tuple ds ∧ asgAll is ds ρ R
def wgLst (is : List Nat) : WG := fun d ρ R _ => ∃ ds, d = .list ds ∧ asgAll is ds ρ R
theorem asgAll_len : ∀ {is : List Nat} {ds : List D} {ρ : En} {k : En → Prop}, asgAll is ds ρ k → ds.length = is.length
  | [], [], _, _, _ => rfl
  | [], _ :: _, _, _, h => h.elim
  | _ :: _, [], _, _, h => h.elim
  | i :: is, d :: ds, ρ, k, h => by
    obtain ⟨_, _, a3⟩ := asgV_of h
    simp [asgAll_len a3]
theorem dgTup {is : List Nat} {e : Expr} {n : Nat} (h : PG X e (gTup K n (gNames is))) (hn : is.length = n := by rfl) : PG X e (cG K W (wgTup is)) := pgI h fun v σ H Q => by
  rintro ⟨θ, π, α, ρ, d, R, E, hR, hd, hw, hq, he⟩
  obtain ⟨ds, rfl, hw⟩ := hw
  cases hd with
  | tup h1 hs => exact ⟨_, _, rfl, ex_t hidS_ex h1, by rw [dpA_len hs, asgAll_len hw, hn], can_names is _ σ H Q hR hs hw fun α' σ' ρ' r s k => hq α' σ' H ρ' r s k⟩
theorem dgLst {is : List Nat} {e : Expr} {n : Nat} (h : PG X e (gLst K n (gNames is))) (hn : is.length = n := by rfl) : PG X e (cG K W (wgLst is)) := pgI h fun v σ H Q => by
  rintro ⟨θ, π, α, ρ, d, R, E, hR, hd, hw, hq, he⟩
  obtain ⟨ds, rfl, hw⟩ := hw
  cases hd with
  | lst h1 hs => exact ⟨_, _, rfl, ex_l hidS_ex h1, by rw [dpA_len hs, asgAll_len hw, hn], can_names is _ σ H Q hR hs hw fun α' σ' ρ' r s k => hq α' σ' H ρ' r s k⟩
end
end Den

namespace Den
variable [Tbs]
open PySem L2 Evl PySem.Spec PyProof.Rows
open Classical

section
variable {K : PySem.W.Frag} {W : WX} {X : Cx} {θ : Addr → Prop} {π α : Nat → Option Addr} {σ : L2.St} {H : Hp} {ρ : En} {p : Addr} {o : HO}

/-! statements -/
def wNext : WS := fun B ρ => B.nx ρ
def wSeq (a b : WS) : WS := fun B ρ => a { B with nx := b B } ρ
def wSet (i : Nat) (w : WE) : WS := fun B ρ => w ρ (fun d ρ' => asgV i (.va d) ρ' B.nx) B.rs
def wSetO (i : Nat) (w : WA) : WS := fun B ρ => w ρ (fun ds ρ' => asgV i (.ow ds) ρ' B.nx) B.rs
def wAsg (w : WE) (g : WG) : WS := fun B ρ => w ρ (fun d ρ' => g d ρ' B.nx B.rs) B.rs
def wRet (w : WE) : WS := fun B ρ => w ρ B.rt B.rs
def wRetN : WS := fun B ρ => B.rt .none ρ
def wDrop (w : WE) : WS := fun B ρ => w ρ (fun _ ρ' => B.nx ρ') B.rs
def wIfS (t : WT) (a b : WS) : WS := fun B ρ => t ρ (fun c ρ' => if c = true then a B ρ' else b B ρ') B.rs
def wBreak : WS := fun B ρ => B.bk ρ
def wCont : WS := fun B ρ => B.ct ρ
def wRaise (c : Addr) : WS := fun B ρ => B.rs c ρ

theorem dsNil : PSs X [] (cS K W wNext) := pssI pss_nil fun D σ H ⟨θ, π, α, ρ, B, hR, hw, hf⟩ => hf.nx α σ H ρ hR (Stp.refl ..) hw
theorem dsCons {s : Stmt} {rest : List Stmt} {a b : WS} (h1 : PS X s (cS K W a)) (h2 : PSs X rest (cS K W b)) : PSs X (s :: rest) (cS K W (wSeq a b)) := pssI (pss_cons h1 h2) fun D σ H ⟨θ, π, α, ρ, B, hR, hw, hf⟩ =>
  ⟨θ, π, α, ρ, _, hR, hw, ⟨fun α' σ' H' ρ' r s q => ⟨θ, π, α', ρ', B, r, q, hf.step s⟩, hf.bk, hf.ct, hf.rt, hf.rf, hf.rs⟩⟩
theorem dsOne {s : Stmt} {a : WS} (h1 : PS X s (cS K W a)) : PSs X [s] (cS K W a) := pss_one h1
theorem dPass {pos : Pos} : PS X (.Pass pos) (cS K W wNext) := psI ps_pass fun D σ H ⟨θ, π, α, ρ, B, hR, hw, hf⟩ => hf.nx α σ H ρ hR (Stp.refl ..) hw
theorem dBreak {pos : Pos} : PS X (.Break pos) (cS K W wBreak) := psI ps_break fun D σ H ⟨θ, π, α, ρ, B, hR, hw, hf⟩ => hf.bk α σ H ρ hR (Stp.refl ..) hw
theorem dCont {pos : Pos} : PS X (.Continue pos) (cS K W wCont) := psI ps_continue fun D σ H ⟨θ, π, α, ρ, B, hR, hw, hf⟩ => hf.ct α σ H ρ hR (Stp.refl ..) hw
theorem dSet {i : Nat} {s : Stmt} {w : WE} (h : PS X s (tAsg (cE K W w) (gName i))) : PS X s (cS K W (wSet i w)) := psI h fun D σ H ⟨θ, π, α, ρ, B, hR, hw, hf⟩ =>
  ⟨θ, π, α, ρ, _, _, hR, hw, fun α1 v H1 d ρ1 R1 s1 p1 w1 => by
    obtain ⟨a1, a2, a3⟩ := asgV_of w1
    obtain ⟨α', r, s⟩ := R1.put a1 a2 p1
    exact hf.nx α' _ H1 _ r (s1.trans s) a3, hf.exi⟩
theorem dAsg {s : Stmt} {w : WE} {g : WG} (h : PS X s (tAsg (cE K W w) (cG K W g))) : PS X s (cS K W (wAsg w g)) := psI h fun D σ H ⟨θ, π, α, ρ, B, hR, hw, hf⟩ =>
  ⟨θ, π, α, ρ, _, _, hR, hw, fun α1 v H1 d ρ1 R1 s1 p1 w1 =>
    ⟨θ, π, α1, ρ1, d, _, _, R1, p1, w1, fun α2 σ2 H2 ρ2 R2 s2 w2 => hf.nx α2 σ2 H2 ρ2 R2 (s1.trans s2) w2, hf.exi.step s1⟩, hf.exi⟩
/-- a slot gets a new list of its own -/
theorem Rel.own {i : Nat} {vs : List V} {ds : List D} (r : Rel K (th θ p) π α σ H ρ) (np : ¬ θ p) (h : H p = some (.lst vs)) (hd : DpAll K (hidS (Sof (th θ p) α) H) vs ds) (hi : i < ρ.length) (hn : ∀ ds, ρ[i]? ≠ some (.io ds)) :
    ∃ α', Rel K θ π α' (σ.set i (some (.ref p))) H (ρ.set i (.ow ds)) ∧ Ex (hidS (Sof (th θ p) α) H) (hidS (Sof θ α') H) := by
  have hπ : π i = none := by
    cases q : π i with
    | none => rfl
    | some a => obtain ⟨ds, z⟩ := r.pin i a q; exact absurd z (hn ds)
  have hx : Ex (hidS (Sof (th θ p) α) H) (hidS (Sof θ (fun k => if k = i then some p else α k)) H) := fun b o q => by
    unfold hidS at q ⊢
    split at q
    · cases q
    · rename_i hh
      rw [if_neg]
      · exact q
      · rintro (z | ⟨k, z⟩)
        · exact hh (.inl (.inl z))
        · by_cases e : k = i
          · subst e; simp at z; exact hh (Sof_th.mpr (.inr z.symm))
          · exact hh (.inr ⟨k, by simpa [e] using z⟩)
  refine ⟨fun k => if k = i then some p else α k, ⟨by simpa using r.len, fun k l b q1 q2 => ?_, fun k b q => ?_, fun b z => r.lv b (.inl z), fun k b q => ?_, fun k b q => ?_, r.tbF h, fun k s q => ?_⟩, hx⟩
  · by_cases e1 : k = i
    · by_cases e2 : l = i
      · rw [e1, e2]
      · subst e1
        simp at q1
        subst q1
        exact absurd (Or.inr rfl) (r.ap l p (by simpa [e2] using q2))
    · by_cases e2 : l = i
      · subst e2
        simp at q2
        subst q2
        exact absurd (Or.inr rfl) (r.ap k p (by simpa [e1] using q1))
      · exact r.inj k l b (by simpa [e1] using q1) (by simpa [e2] using q2)
  · by_cases e1 : k = i
    · subst e1; simp at q; subst q; exact np
    · exact fun z => r.ap k b (by simpa [e1] using q) (.inl z)
  · by_cases e1 : k = i
    · subst e1; exact ⟨_, List.getElem?_set_self hi, trivial⟩
    · obtain ⟨s, z1, z2⟩ := r.dom k b (by simpa [e1] using q)
      exact ⟨s, by rw [List.getElem?_set_ne (Ne.symm e1)]; exact z1, z2⟩
  · have e1 : k ≠ i := fun z => by subst z; rw [hπ] at q; cases q
    obtain ⟨es, z⟩ := r.pin k b q
    exact ⟨es, by rw [List.getElem?_set_ne (Ne.symm e1)]; exact z⟩
  · by_cases e1 : k = i
    · subst e1
      rw [List.getElem?_set_self hi] at q
      cases q
      exact ⟨p, vs, by simp, hπ, List.getElem?_set_self (by rw [← r.len]; exact hi), h, dpA_mono hx hd⟩
    · rw [List.getElem?_set_ne (Ne.symm e1)] at q
      have z := (r.sl k s q).re (θ' := θ) (α' := fun k => if k = i then some p else α k) (H' := H) (by simp [e1]) hx fun _ _ _ z => z
      have es : (σ.set i (some (V.ref p)))[k]? = σ[k]? := List.getElem?_set_ne (Ne.symm e1)
      cases s with
      | no => trivial
      | va d => obtain ⟨w, z1, z2⟩ := z; exact ⟨w, es.trans z1, z2⟩
      | ow ds => obtain ⟨a, vs, z1, z2, z3, z4⟩ := z; exact ⟨a, vs, z1, z2, es.trans z3, z4⟩
      | io ds => obtain ⟨a, vs, z1, z2, z3, z4⟩ := z; exact ⟨a, vs, z1, z2, es.trans z3, z4⟩
      | ex a => exact es.trans z
theorem dSetO {i : Nat} {s : Stmt} {w : WA} (h : PS X s (tAsg (cF K W w) (gName i))) : PS X s (cS K W (wSetO i w)) := psI h fun D σ H ⟨θ, π, α, ρ, B, hR, hw, hf⟩ =>
  ⟨θ, π, α, ρ, _, _, hR, hw, fun α1 p vs H1 ds ρ1 R1 s1 np h1 p1 w1 => by
    obtain ⟨a1, a2, a3⟩ := asgV_of w1
    obtain ⟨α', r, s⟩ := R1.own np h1 p1 a1 a2
    exact hf.nx α' _ H1 _ r ⟨s1.1.trans s, s1.2⟩ a3, hf.exi⟩
theorem dRet {s : Stmt} {w : WE} (h : PS X s (tRet (cE K W w))) : PS X s (cS K W (wRet w)) := psI h fun D σ H ⟨θ, π, α, ρ, B, hR, hw, hf⟩ =>
  ⟨θ, π, α, ρ, _, _, hR, hw, fun α1 v H1 d ρ1 R1 s1 p1 w1 => hf.rt α1 σ H1 v d ρ1 R1 s1 p1 w1, hf.exi⟩
def wRetF (w : WA) : WS := fun B ρ => w ρ B.rf B.rs
theorem dRetF {s : Stmt} {w : WA} (h : PS X s (tRet (cF K W w))) : PS X s (cS K W (wRetF w)) := psI h fun D σ H ⟨θ, π, α, ρ, B, hR, hw, hf⟩ =>
  ⟨θ, π, α, ρ, _, _, hR, hw, fun α1 p vs H1 ds ρ1 R1 s1 np h1 p1 w1 => hf.rf α1 σ p vs H1 ds ρ1 R1 s1 np h1 p1 w1, hf.exi⟩
theorem dDrop {s : Stmt} {w : WE} (h : PS X s (tDrop (cE K W w))) : PS X s (cS K W (wDrop w)) := psI h fun D σ H ⟨θ, π, α, ρ, B, hR, hw, hf⟩ =>
  ⟨θ, π, α, ρ, _, _, hR, hw, fun α1 v H1 d ρ1 R1 s1 p1 w1 => hf.nx α1 σ H1 ρ1 R1 s1 w1, hf.exi⟩
theorem dIfS {s : Stmt} {t : WT} {a b : WS} (h : PS X s (tIfS (cT K W t) (cS K W a) (cS K W b))) : PS X s (cS K W (wIfS t a b)) := psI h fun D σ H ⟨θ, π, α, ρ, B, hR, hw, hf⟩ =>
  ⟨θ, π, α, ρ, _, _, hR, hw, fun α1 H1 c ρ1 R1 s1 w1 => by
    cases c with
    | true => rw [if_pos rfl] at w1 ⊢; exact ⟨θ, π, α1, ρ1, B, R1, w1, hf.step s1⟩
    | false => rw [if_neg Bool.false_ne_true] at w1 ⊢; exact ⟨θ, π, α1, ρ1, B, R1, w1, hf.step s1⟩, hf.exi⟩
theorem dRaise {s : Stmt} {c : Addr} (h : PS X s (fun _ σ H => W (.ref c) none σ H)) : PS X s (cS K W (wRaise c)) := psI h fun D σ H ⟨θ, π, α, ρ, B, hR, hw, hf⟩ => hf.rs α σ H c ρ hR (Stp.refl ..) hw

/-! lists in their slots, changed -/
/-- what an owned slot holds -/
def ownd (ρ : En) (j : Nat) (k : List D → (List D → En) → Prop) : Prop := match ρ[j]? with
  | some (.ow ds) => k ds fun es => ρ.set j (.ow es)
  | some (.io ds) => k ds fun es => ρ.set j (.io es)
  | _ => False
theorem Rel.change {j : Nat} {k : List D → (List D → En) → Prop} (r : Rel K θ π α σ H ρ) (h : ownd ρ j k) : ∃ a vs ds f, σ[j]? = some (some (.ref a)) ∧ H a = some (.lst vs) ∧ DpAll K (hidS (Sof θ α) H) vs ds ∧ k ds f ∧
    ∀ vs' es, DpAll K (hidS (Sof θ α) H) vs' es → Rel K θ π α σ (upd H a (.lst vs')) (f es) ∧ Stp θ α H α (upd H a (.lst vs')) := by
  have key : ∀ (io : Bool) (a : Addr) (vs : List V) (ds : List D), α j = some a → j < ρ.length → H a = some (.lst vs) → (io = false → π j = none ∧ ρ[j]? = some (.ow ds)) → (io = true → π j = some a ∧ ρ[j]? = some (.io ds)) → σ[j]? = some (some (.ref a)) →
      ∀ vs' es, DpAll K (hidS (Sof θ α) H) vs' es → Rel K θ π α σ (upd H a (.lst vs')) (ρ.set j (if io then .io es else .ow es)) ∧ Stp θ α H α (upd H a (.lst vs')) := by
    intro io a vs ds ha hj h1 hio0 hio1 hs vs' es hd
    have hS : Sof θ α a := .inr ⟨j, ha⟩
    have hh : hidS (Sof θ α) (upd H a (.lst vs')) = hidS (Sof θ α) H := by
      funext b
      unfold hidS
      by_cases z : Sof θ α b
      · rw [if_pos z, if_pos z]
      · rw [if_neg z, if_neg z, upd_ne (fun q => by subst q; exact z hS)]
    refine ⟨⟨by simpa using r.len, r.inj, r.ap, fun b z => ?_, fun k b q => ?_, fun k b q => ?_, fun b z => ⟨(r.tb b z).1, by rw [upd_ne (fun q => by subst q; exact r.ap j b ha (r.tb b z).1)]; exact (r.tb b z).2⟩, fun k s q => ?_⟩, ⟨by rw [hh]; exact Ex.refl _, fun b z => .inl (upd_ne (fun q => by subst q; exact r.ap j b ha z))⟩⟩
    · rw [upd_ne (fun q => by subst q; exact r.ap j b ha z)]; exact r.lv b z
    · by_cases e1 : k = j
      · subst e1; exact ⟨_, List.getElem?_set_self hj, by cases io <;> trivial⟩
      · obtain ⟨s, z1, z2⟩ := r.dom k b q
        exact ⟨s, by rw [List.getElem?_set_ne (Ne.symm e1)]; exact z1, z2⟩
    · by_cases e1 : k = j
      · subst e1
        cases io with
        | false => rw [(hio0 rfl).1] at q; cases q
        | true => exact ⟨es, by rw [List.getElem?_set_self hj]; rfl⟩
      · obtain ⟨s, z1⟩ := r.pin k b q
        exact ⟨s, by rw [List.getElem?_set_ne (Ne.symm e1)]; exact z1⟩
    · by_cases e1 : k = j
      · subst e1
        rw [List.getElem?_set_self hj] at q
        cases q
        cases io with
        | false => exact ⟨a, vs', ha, (hio0 rfl).1, hs, upd_same, by rw [hh]; exact hd⟩
        | true => exact ⟨a, vs', ha, (hio1 rfl).1, hs, upd_same, by rw [hh]; exact hd⟩
      · rw [List.getElem?_set_ne (Ne.symm e1)] at q
        exact (r.sl k s q).re rfl (by rw [hh]; exact Ex.refl _) fun b ws hb z => by
          rw [upd_ne (fun q => by subst q; exact e1 (r.inj k j b hb ha))]; exact z
  unfold Den.ownd at h
  split at h
  · rename_i ds e
    obtain ⟨a, vs, h1, h2, h3, h4, h5⟩ := r.sl j _ e
    exact ⟨a, vs, ds, _, h3, h4, h5, h, fun vs' es hd => key false a vs ds h1 (List.getElem?_eq_some_iff.mp e).1 h4 (fun _ => ⟨h2, e⟩) (fun z => by cases z) h3 vs' es hd⟩
  · rename_i ds e
    obtain ⟨a, vs, h1, h2, h3, h4, h5⟩ := r.sl j _ e
    exact ⟨a, vs, ds, _, h3, h4, h5, h, fun vs' es hd => key true a vs ds h1 (List.getElem?_eq_some_iff.mp e).1 h4 (fun z => by cases z) (fun _ => ⟨h2, e⟩) h3 vs' es hd⟩
  · exact h.elim
/-- xs.append(e) -/
def wApp (j : Nat) (w : WE) : WS := fun B ρ => (∃ k, ownd ρ j k) ∧ w ρ (fun d ρ' => ownd ρ' j fun ds f => ds.length < sizeLine ∧ B.nx (f (ds ++ [d]))) B.rs
theorem dApp {j : Nat} {s : Stmt} {w : WE} (h : PS X s (tDrop (tBM K "list" rAppend (tVar j) (tCons (cE K W w) tNil)))) : PS X s (cS K W (wApp j w)) := psI h fun D σ H ⟨θ, π, α, ρ, B, hR, hw, hf⟩ => by
  obtain ⟨⟨k0, hk0⟩, hw⟩ := hw
  obtain ⟨a0, vs0, ds0, f0, hs0, h0, _, _, _⟩ := hR.change hk0
  refine ⟨.ref a0, hs0, .inl ⟨rfl, vs0, .inl (.inl h0)⟩, θ, π, α, ρ, _, _, hR, hw, fun α1 v H1 d ρ1 R1 s1 p1 w1 => ?_, hf.exi⟩
  obtain ⟨a, vs, ds, f, hs, h1, hd, ⟨hl, hn⟩, hc⟩ := R1.change w1
  rw [hs0] at hs
  cases hs
  obtain ⟨r2, s2⟩ := hc (vs ++ [v]) (ds ++ [d]) (dpA_app hd (.cons p1 .nil))
  exact ⟨a0, vs, v, rfl, rfl, h1, by rw [dpA_len hd]; exact hl, hf.nx α1 σ _ _ r2 (s1.trans s2) hn⟩
/-- xs[i] = e -/
def wPut (j : Nat) (w : WE) (wi : WL) : WS := fun B ρ => w ρ (fun d ρ1 => (∃ k, ownd ρ1 j k) ∧ wi ρ1 (fun L ρ2 => ∃ (z : Int), L ρ2 (.int z) ∧ ownd ρ2 j fun ds f => ∃ m, ixN ds.length z = some m ∧ B.nx (f (ds.set m d))) B.rs) B.rs
theorem dPut {j : Nat} {s : Stmt} {w : WE} {wi : WL} (h : PS X s (tAsg (cE K W w) (gSub (tVar j) (cL K W wi) rSetL))) : PS X s (cS K W (wPut j w wi)) := psI h fun D σ H ⟨θ, π, α, ρ, B, hR, hw, hf⟩ => by
  refine ⟨θ, π, α, ρ, _, _, hR, hw, fun α1 v H1 d ρ1 R1 s1 p1 w1 => ?_, hf.exi⟩
  obtain ⟨⟨k0, hk0⟩, w1⟩ := w1
  obtain ⟨a0, vs0, ds0, f0, hs0, h0, _, _, _⟩ := R1.change hk0
  refine ⟨.ref a0, hs0, θ, π, α1, ρ1, _, _, R1, w1, fun α2 u H2 L ρ2 R2 s2 l2 w2 => ?_, hf.exi.step s1⟩
  obtain ⟨z, hz, w2⟩ := w2
  have ez := (l2 α2 H2 ρ2 R2 (Stp.refl ..) _ hz).int
  subst ez
  obtain ⟨a, vs, ds, f, hs, h1, hd, ⟨m, hm, hn⟩, hc⟩ := R2.change w2
  rw [hs0] at hs
  cases hs
  obtain ⟨r3, s3⟩ := hc (vs.set m v) (ds.set m d) (dpA_set (dp_mono s2.1 p1) m hd)
  exact ⟨a0, vs, z, m, rfl, rfl, h1, by rw [dpA_len hd]; exact hm, hf.nx α2 σ _ _ r3 ((s1.trans s2).trans s3) hn⟩
/-- a, b, c = a list's items, a tuple's (read, not kept) -/
def wUnp (is : List Nat) (w : WL) : WS := fun B ρ => w ρ (fun L ρ1 => ∃ ds, L ρ1 (.list ds) ∧ asgAll is ds ρ1 B.nx) B.rs
def wUnpT (is : List Nat) (w : WL) : WS := fun B ρ => w ρ (fun L ρ1 => ∃ ds, L ρ1 (.tuple ds) ∧ asgAll is ds ρ1 B.nx) B.rs
theorem dUnp {is : List Nat} {s : Stmt} {w : WL} {n : Nat} (h : PS X s (tAsg (cL K W w) (gLst K n (gNames is)))) (hn : is.length = n := by rfl) : PS X s (cS K W (wUnp is w)) := psI h fun D σ H ⟨θ, π, α, ρ, B, hR, hw, hf⟩ => by
  refine ⟨θ, π, α, ρ, _, _, hR, hw, fun α1 v H1 L ρ1 R1 s1 l1 w1 => ?_, hf.exi⟩
  obtain ⟨ds, hl, w1⟩ := w1
  obtain ⟨a, vs, rfl, h1, hd⟩ := (l1 α1 H1 ρ1 R1 (Stp.refl ..) _ hl).lst
  exact ⟨a, vs, rfl, h1, by rw [dpA_len hd, asgAll_len w1, hn], can_names is vs σ H1 _ R1 hd w1 fun α' σ' ρ' r s k => hf.nx α' σ' H1 ρ' r (s1.trans s) k⟩
theorem dUnpT {is : List Nat} {s : Stmt} {w : WL} {n : Nat} (h : PS X s (tAsg (cL K W w) (gTup K n (gNames is)))) (hn : is.length = n := by rfl) : PS X s (cS K W (wUnpT is w)) := psI h fun D σ H ⟨θ, π, α, ρ, B, hR, hw, hf⟩ => by
  refine ⟨θ, π, α, ρ, _, _, hR, hw, fun α1 v H1 L ρ1 R1 s1 l1 w1 => ?_, hf.exi⟩
  obtain ⟨ds, hl, w1⟩ := w1
  obtain ⟨a, vs, rfl, h1, hd⟩ := (l1 α1 H1 ρ1 R1 (Stp.refl ..) _ hl).tup
  exact ⟨a, vs, rfl, h1, by rw [dpA_len hd, asgAll_len w1, hn], can_names is vs σ H1 _ R1 hd w1 fun α' σ' ρ' r s k => hf.nx α' σ' H1 ρ' r (s1.trans s) k⟩

/-! what is walked -/
abbrev WI := En → (List D → En → Prop) → EC → Prop
def Walks (K : PySem.W.Frag) (J : It) (G : Hp) (ds : List D) : Prop := ∀ (S2 : Addr → Prop) (H2 : Hp) (i : Nat), Live S2 H2 → Ex G (hidS S2 H2) → (i = ds.length → J.stop i H2) ∧ ∀ d, ds[i]? = some d → J.go i H2 ∧ ∀ x H3, J.yld i H2 x H3 → Ex H2 H3 ∧ Dp K (hidS S2 H3) x d
def cI (K : PySem.W.Frag) (W : WX) (w : WI) : TI := fun σ H R' => ∃ θ π α ρ R E, Rel K θ π α σ H ρ ∧ w ρ R E ∧
  (∀ α' J H' ds ρ', Rel K θ π α' σ H' ρ' → Stp θ α H α' H' → Walks K J (hidS (Sof θ α') H') ds → R ds ρ' → R' J H') ∧ Exi K W θ π α σ H E
theorem walks_list {a : Addr} {G : Hp} {vs : List V} {ds : List D} (h : SqL K G a vs) (hd : DpAll K G vs ds) : Walks K (Itl K a) G ds := fun S2 H2 i hl hx => by
  have h2 : SqL K H2 a vs := ex_l (hx.trans hidS_ex) h
  refine ⟨fun e => ⟨vs, h2, by rw [dpA_len hd, e]; exact Nat.le_refl _⟩, fun d hi => ?_⟩
  obtain ⟨v, q1, q2⟩ := dpA_get hd hi
  refine ⟨⟨vs, v, h2, q1⟩, fun x H3 y => ?_⟩
  obtain ⟨e, y⟩ := y
  subst e
  have z := y vs h2
  rw [q1] at z
  cases z
  exact ⟨Ex.refl _, dp_mono hx q2⟩
theorem walks_tup {a : Addr} {G : Hp} {vs : List V} {ds : List D} (h : SqT K G a vs) (hd : DpAll K G vs ds) : Walks K (Itt K a) G ds := fun S2 H2 i hl hx => by
  have h2 : SqT K H2 a vs := ex_t (hx.trans hidS_ex) h
  refine ⟨fun e => ⟨vs, h2, by rw [dpA_len hd, e]; exact Nat.le_refl _⟩, fun d hi => ?_⟩
  obtain ⟨v, q1, q2⟩ := dpA_get hd hi
  refine ⟨⟨vs, v, h2, q1⟩, fun x H3 y => ?_⟩
  obtain ⟨e, y⟩ := y
  subst e
  have z := y vs h2
  rw [q1] at z
  cases z
  exact ⟨Ex.refl _, dp_mono hx q2⟩
def rng (lo : Int) (n : Nat) : List D := (List.range n).map fun k => .int (lo + (k : Nat))
theorem walks_rng {lo : Int} {n : Nat} {G : Hp} : Walks K (Itr lo n) G (rng lo n) := fun S2 H2 i hl hx => by
  refine ⟨fun e => ?_, fun d hi => ?_⟩
  · show n ≤ i
    rw [e]; simp [rng]
  · unfold rng at hi
    rw [List.getElem?_map] at hi
    cases q : (List.range n)[i]? with
    | none => rw [q] at hi; cases hi
    | some k =>
      rw [q] at hi
      cases hi
      obtain ⟨h1, h2⟩ := List.getElem?_eq_some_iff.mp q
      simp at h1 h2
      subst h2
      exact ⟨h1, fun x H3 ⟨e, y⟩ => by subst e y; exact ⟨Ex.refl _, .int _⟩⟩
/-- over a list, a tuple -/
def wiL (w : WE) : WI := fun ρ R E => w ρ (fun d ρ' => ∃ ds, d = .list ds ∧ R ds ρ') E
def wiT (w : WE) : WI := fun ρ R E => w ρ (fun d ρ' => ∃ ds, d = .tuple ds ∧ R ds ρ') E
/-- range(n), range(a, b) -/
def wiR1 (wa : WA) : WI := fun ρ R E => wa ρ (fun ds ρ' => ∃ n : Int, ds = [.int n] ∧ (-(2 ^ 62) ≤ n ∧ n < 2 ^ 62) ∧ R (rng 0 n.toNat) ρ') E
def wiR2 (wa : WA) : WI := fun ρ R E => wa ρ (fun ds ρ' => ∃ a b : Int, ds = [.int a, .int b] ∧ (-(2 ^ 62) ≤ a ∧ a < 2 ^ 62 ∧ -(2 ^ 62) ≤ b ∧ b < 2 ^ 62) ∧ R (rng a (b - a).toNat) ρ') E
theorem diL {tg e : Expr} {w : WE} (h : PI X tg e (iList K (cE K W w))) : PI X tg e (cI K W (wiL w)) := piI h fun σ H Q ⟨θ, π, α, ρ, R, E, hR, hw, hq, he⟩ =>
  ⟨θ, π, α, ρ, _, E, hR, hw, fun α1 v H1 d ρ1 R1 s1 p1 w1 => by
    obtain ⟨ds, rfl, w1⟩ := w1
    cases p1 with
    | lst h1 hs => exact ⟨_, rfl, ⟨_, ex_l hidS_ex h1⟩, hq α1 _ H1 ds ρ1 R1 s1 (walks_list h1 hs) w1⟩, he⟩
theorem diT {tg e : Expr} {w : WE} (h : PI X tg e (iTup K (cE K W w))) : PI X tg e (cI K W (wiT w)) := piI h fun σ H Q ⟨θ, π, α, ρ, R, E, hR, hw, hq, he⟩ =>
  ⟨θ, π, α, ρ, _, E, hR, hw, fun α1 v H1 d ρ1 R1 s1 p1 w1 => by
    obtain ⟨ds, rfl, w1⟩ := w1
    cases p1 with
    | tup h1 hs => exact ⟨_, rfl, ⟨_, ex_t hidS_ex h1⟩, hq α1 _ H1 ds ρ1 R1 s1 (walks_tup h1 hs) w1⟩, he⟩
theorem dp_int {v : V} {i : Int} (h : Dp K H v (.int i)) : v = .int i := by cases h; rfl
theorem diR1 {tg e : Expr} {n : Nat} {w : WA} (h : PI X tg e (iRng1 (cA K W n w))) : PI X tg e (cI K W (wiR1 w)) := piI h fun σ H Q ⟨θ, π, α, ρ, R, E, hR, hw, hq, he⟩ =>
  ⟨θ, π, α, ρ, _, E, hR, hw, fun α1 vs H1 ds ρ1 R1 s1 p1 l1 w1 => by
    obtain ⟨n, rfl, ⟨b1, b2⟩, w1⟩ := w1
    cases p1 with
    | cons h1 hs =>
      cases hs
      cases dp_int h1
      exact ⟨n, rfl, b1, b2, hq α1 _ H1 _ ρ1 R1 s1 walks_rng w1⟩, he⟩
theorem diR2 {tg e : Expr} {n : Nat} {w : WA} (h : PI X tg e (iRng2 (cA K W n w))) : PI X tg e (cI K W (wiR2 w)) := piI h fun σ H Q ⟨θ, π, α, ρ, R, E, hR, hw, hq, he⟩ =>
  ⟨θ, π, α, ρ, _, E, hR, hw, fun α1 vs H1 ds ρ1 R1 s1 p1 l1 w1 => by
    obtain ⟨a, b, rfl, bs, w1⟩ := w1
    cases p1 with
    | cons h1 hs =>
      cases hs with
      | cons h2 hs =>
        cases hs
        cases dp_int h1
        cases dp_int h2
        exact ⟨a, b, rfl, bs, hq α1 _ H1 _ ρ1 R1 s1 walks_rng w1⟩, he⟩

/-! loops -/
def wFor (wi : WI) (wg : WG) (wb : WS) : WS := fun B ρ => wi ρ (fun ds ρ1 => ∃ Inv : Nat → En → Prop, Inv 0 ρ1 ∧
  (∀ i d ρ', ds[i]? = some d → Inv i ρ' → wg d ρ' (fun ρ2 => wb { B with nx := Inv (i + 1), ct := Inv (i + 1), bk := B.nx } ρ2) B.rs) ∧ ∀ ρ', Inv ds.length ρ' → B.nx ρ') B.rs
theorem dFor {s : Stmt} {wi : WI} {wg : WG} {wb : WS} (h : PS X s (tFor (cI K W wi) (cG K W wg) (cS K W wb))) : PS X s (cS K W (wFor wi wg wb)) := psI h fun De σ H ⟨θ, π, α, ρ, B, hR, hw, hf⟩ => by
  refine ⟨θ, π, α, ρ, _, _, hR, hw, fun α1 J H1 ds ρ1 R1 s1 hJ w1 => ?_, hf.exi⟩
  obtain ⟨Inv, i0, step, fin⟩ := w1
  refine ⟨fun i m σ' H' => m = ds.length - i ∧ i ≤ ds.length ∧ ∃ α' ρ', Rel K θ π α' σ' H' ρ' ∧ Stp θ α1 H1 α' H' ∧ Inv i ρ', ⟨_, rfl, Nat.zero_le _, α1, ρ1, R1, Stp.refl .., i0⟩, ?_⟩
  rintro i m σ' H' ⟨rfl, hi, α', ρ', R', s', iv⟩
  obtain ⟨j1, j2⟩ := hJ _ H' i R'.live s'.1
  by_cases hlt : i < ds.length
  · obtain ⟨g1, g2⟩ := j2 ds[i] (by simp [hlt])
    refine .inr ⟨g1, fun σ2 H2 => ∃ α2 ρ2, Rel K θ π α2 σ2 H2 ρ2 ∧ Stp θ α1 H1 α2 H2 ∧ Inv (i + 1) ρ2, fun σ2 H2 ⟨α2, ρ2, r2, s2, v2⟩ => ⟨ds.length - (i + 1), by omega, rfl, hlt, α2, ρ2, r2, s2, v2⟩, fun x H3 y => ?_⟩
    obtain ⟨ex, dp⟩ := g2 x H3 y
    refine ⟨θ, π, α', ρ', ds[i], _, _, R'.ext ex, dp, step i ds[i] ρ' (by simp [hlt]) iv, fun α4 σ4 H4 ρ4 R4 s4 w4 => ?_, hf.exi.step ((s1.trans s').trans (R'.stp ex))⟩
    have s5 := (s'.trans (R'.stp ex)).trans s4
    refine ⟨θ, π, α4, ρ4, _, R4, w4, ⟨fun α6 σ6 H6 ρ6 R6 s6 w6 => ⟨α6, ρ6, R6, s5.trans s6, w6⟩, fun α6 σ6 H6 ρ6 R6 s6 w6 => hf.nx α6 σ6 H6 ρ6 R6 ((s1.trans s5).trans s6) w6, fun α6 σ6 H6 ρ6 R6 s6 w6 => ⟨α6, ρ6, R6, s5.trans s6, w6⟩, (hf.step (s1.trans s5)).rt, (hf.step (s1.trans s5)).rf, (hf.step (s1.trans s5)).rs⟩⟩
  · have e : i = ds.length := by omega
    refine .inl ⟨j1 e, hf.nx α' σ' H' ρ' R' (s1.trans s') (fin ρ' (by rw [← e]; exact iv))⟩
/-- a for, turn by turn -/
def forRun (wg : WG) (wb : WS) (B : Bx) : List D → En → Prop
  | [], ρ => B.nx ρ
  | d :: ds, ρ => wg d ρ (fun ρ2 => wb { B with nx := forRun wg wb B ds, ct := forRun wg wb B ds, bk := B.nx } ρ2) B.rs
theorem for_run {wg : WG} {wb : WS} {B : Bx} {ds : List D} {ρ : En} (h : forRun wg wb B ds ρ) : ∃ Inv : Nat → En → Prop, Inv 0 ρ ∧
    (∀ i d ρ', ds[i]? = some d → Inv i ρ' → wg d ρ' (fun ρ2 => wb { B with nx := Inv (i + 1), ct := Inv (i + 1), bk := B.nx } ρ2) B.rs) ∧ ∀ ρ', Inv ds.length ρ' → B.nx ρ' := by
  refine ⟨fun i => forRun wg wb B (ds.drop i), h, fun i d ρ' hi iv => ?_, fun ρ' iv => ?_⟩
  · obtain ⟨hlt, e⟩ := List.getElem?_eq_some_iff.mp hi
    dsimp only at iv
    rw [List.drop_eq_getElem_cons hlt, e] at iv
    exact iv
  · dsimp only at iv
    rw [List.drop_length] at iv
    exact iv
def wWhile (t : WT) (wb : WS) : WS := fun B ρ => ∃ Inv : Nat → En → Prop, (∃ m, Inv m ρ) ∧ ∀ m ρ', Inv m ρ' → t ρ' (fun c ρ1 => if c = true then wb { B with nx := fun ρ2 => ∃ m', m' < m ∧ Inv m' ρ2, ct := fun ρ2 => ∃ m', m' < m ∧ Inv m' ρ2, bk := B.nx } ρ1 else B.nx ρ1) B.rs
theorem dWhile {s : Stmt} {t : WT} {wb : WS} (h : PS X s (tWhile (cT K W t) (cS K W wb))) : PS X s (cS K W (wWhile t wb)) := psI h fun De σ H ⟨θ, π, α, ρ, B, hR, hw, hf⟩ => by
  obtain ⟨Inv, ⟨m0, i0⟩, step⟩ := hw
  refine ⟨fun m σ' H' => ∃ α' ρ', Rel K θ π α' σ' H' ρ' ∧ Stp θ α H α' H' ∧ Inv m ρ', ⟨m0, α, ρ, hR, Stp.refl .., i0⟩, ?_⟩
  rintro m σ' H' ⟨α', ρ', R', s', iv⟩
  refine ⟨θ, π, α', ρ', _, _, R', step m ρ' iv, fun α1 H1 c ρ1 R1 s1 w1 => ?_, hf.exi.step s'⟩
  cases c with
  | true =>
    rw [if_pos rfl] at w1 ⊢
    refine ⟨fun σ2 H2 => ∃ m', m' < m ∧ ∃ α2 ρ2, Rel K θ π α2 σ2 H2 ρ2 ∧ Stp θ α H α2 H2 ∧ Inv m' ρ2, fun σ2 H2 z => z, ?_⟩
    have s5 := s'.trans s1
    refine ⟨θ, π, α1, ρ1, _, R1, w1, ⟨fun α6 σ6 H6 ρ6 R6 s6 ⟨m', hm, w6⟩ => ⟨m', hm, α6, ρ6, R6, s5.trans s6, w6⟩, fun α6 σ6 H6 ρ6 R6 s6 w6 => hf.nx α6 σ6 H6 ρ6 R6 (s5.trans s6) w6, fun α6 σ6 H6 ρ6 R6 s6 ⟨m', hm, w6⟩ => ⟨m', hm, α6, ρ6, R6, s5.trans s6, w6⟩, (hf.step s5).rt, (hf.step s5).rf, (hf.step s5).rs⟩⟩
  | false =>
    rw [if_neg Bool.false_ne_true] at w1 ⊢
    exact hf.nx α1 σ' H1 ρ1 R1 (s'.trans s1) w1
end
end Den

namespace Den
variable [Tbs]
open PySem L2 Evl PySem.Spec PyProof.Rows
open Classical

def NoE : EC := fun _ _ => False
section
variable {K : PySem.W.Frag} {W : WX} {X : Cx} {θ : Addr → Prop} {π α : Nat → Option Addr} {σ σ2 : L2.St} {H H1 : Hp} {ρ : En} {p : Addr} {o : HO}
theorem Exi.no : Exi K W θ π α σ H NoE := fun _ _ _ _ _ _ _ h => h.elim

/-! slots wiped and put back -/
def setAll (vs : List Nat) (f : Nat → Sl) (ρ : En) : En := vs.foldr (fun v r => r.set v (f v)) ρ
def wipeE (ρ : En) (vs : List Nat) : En := setAll vs (fun _ => .no) ρ
def keepVa (ρ : En) (v : Nat) : Sl := match ρ[v]? with
  | some (.va d) => .va d
  | _ => .no
def back (ρ : En) (vs : List Nat) (ρ4 : En) : En := setAll vs (keepVa ρ) ρ4
def nonown (ρ : En) (v : Nat) : Prop := match ρ[v]? with
  | some (.ow _) => False
  | some (.io _) => False
  | _ => True
def okw (ρ : En) : List Nat → Prop
  | [] => True
  | v :: vs => nonown ρ v ∧ okw ρ vs
theorem okw_mem {v : Nat} : ∀ {vs : List Nat}, okw ρ vs → v ∈ vs → nonown ρ v
  | _ :: _, h, m => by
    rcases List.mem_cons.mp m with e | m
    · rw [e]; exact h.1
    · exact okw_mem h.2 m
theorem setAll_len (vs : List Nat) (f : Nat → Sl) (ρ : En) : (setAll vs f ρ).length = ρ.length := by
  induction vs with
  | nil => rfl
  | cons v vs ih => show ((setAll vs f ρ).set v (f v)).length = _; rw [List.length_set, ih]
theorem setAll_out {f : Nat → Sl} {k : Nat} : ∀ {vs : List Nat}, k ∉ vs → (setAll vs f ρ)[k]? = ρ[k]?
  | [], _ => rfl
  | v :: vs, h => by
    show ((setAll vs f ρ).set v (f v))[k]? = _
    rw [List.getElem?_set_ne (fun e => h (by rw [e]; exact List.mem_cons_self))]
    exact setAll_out fun m => h (List.mem_cons_of_mem _ m)
theorem setAll_in {f : Nat → Sl} {k : Nat} (hk : k < ρ.length) : ∀ {vs : List Nat}, k ∈ vs → (setAll vs f ρ)[k]? = some (f k)
  | v :: vs, h => by
    show ((setAll vs f ρ).set v (f v))[k]? = _
    by_cases e : v = k
    · subst e; exact List.getElem?_set_self (by rw [setAll_len]; exact hk)
    · rw [List.getElem?_set_ne e]
      rcases List.mem_cons.mp h with z | z
      · exact absurd z.symm e
      · exact setAll_in hk z
theorem wipe_out {k : Nat} : ∀ {vs : List Nat}, k ∉ vs → (wipe σ vs)[k]? = σ[k]?
  | [], _ => rfl
  | v :: vs, h => by
    show ((wipe σ vs).set v none)[k]? = _
    rw [List.getElem?_set_ne (fun e => h (by rw [e]; exact List.mem_cons_self))]
    exact wipe_out fun m => h (List.mem_cons_of_mem _ m)
theorem wipe_in {k : Nat} (hk : k < σ.length) : ∀ {vs : List Nat}, k ∈ vs → (wipe σ vs)[k]? = some none
  | v :: vs, h => by
    show ((wipe σ vs).set v none)[k]? = _
    by_cases e : v = k
    · subst e; exact List.getElem?_set_self (by rw [wipe_length]; exact hk)
    · rw [List.getElem?_set_ne e]
      rcases List.mem_cons.mp h with z | z
      · exact absurd z.symm e
      · exact wipe_in hk z
theorem wipe_put {i : Nat} {x : Option V} {vs : List Nat} (h : i ∈ vs) : wipe (σ.set i x) vs = wipe σ vs := by
  apply List.ext_getElem?
  intro k
  by_cases hk : k ∈ vs
  · by_cases hl : k < σ.length
    · rw [wipe_in (by simpa using hl) hk, wipe_in hl hk]
    · rw [List.getElem?_eq_none (by rw [wipe_length]; simpa using hl), List.getElem?_eq_none (by rw [wipe_length]; simpa using hl)]
  · rw [wipe_out hk, wipe_out hk, List.getElem?_set_ne (fun e => hk (by rw [← e]; exact h))]
theorem nonown_pi {k : Nat} {a : Addr} (r : Rel K θ π α σ H ρ) (n : nonown ρ k) (h : α k = some a) : False := by
  obtain ⟨s, h1, h2⟩ := r.dom k a h
  unfold nonown at n
  rw [h1] at n
  cases s with
  | ow => exact n
  | io => exact n
  | no => exact h2
  | va => exact h2
  | ex => exact h2
theorem Rel.wiped {vs : List Nat} (r : Rel K θ π α σ H ρ) (h : okw ρ vs) : Rel K θ π α (wipe σ vs) H (wipeE ρ vs) := by
  refine ⟨by unfold wipeE; rw [setAll_len, wipe_length]; exact r.len, r.inj, r.ap, r.lv, fun k a q => ?_, fun k a q => ?_, r.tb, fun k s q => ?_⟩
  · have hk : k ∉ vs := fun m => nonown_pi r (okw_mem h m) q
    obtain ⟨s, z⟩ := r.dom k a q
    exact ⟨s, by unfold wipeE; rw [setAll_out hk]; exact z.1, z.2⟩
  · obtain ⟨ds, z⟩ := r.pin k a q
    have hk : k ∉ vs := fun m => by
      have n := okw_mem h m
      unfold nonown at n
      rw [z] at n
      exact n
    exact ⟨ds, by unfold wipeE; rw [setAll_out hk]; exact z⟩
  · by_cases hk : k ∈ vs
    · by_cases hl : k < ρ.length
      · unfold wipeE at q; rw [setAll_in hl hk] at q; cases q; trivial
      · unfold wipeE at q; rw [List.getElem?_eq_none (by rw [setAll_len]; omega)] at q; cases q
    · unfold wipeE at q
      rw [setAll_out hk] at q
      have z := r.sl k s q
      have es : (wipe σ vs)[k]? = σ[k]? := wipe_out hk
      cases s with
      | no => trivial
      | va d => obtain ⟨w, z1, z2⟩ := z; exact ⟨w, es.trans z1, z2⟩
      | ow ds => obtain ⟨a, vs, z1, z2, z3, z4⟩ := z; exact ⟨a, vs, z1, z2, es.trans z3, z4⟩
      | io ds => obtain ⟨a, vs, z1, z2, z3, z4⟩ := z; exact ⟨a, vs, z1, z2, es.trans z3, z4⟩
      | ex a => exact es.trans z
theorem Rel.backed {α1 : Nat → Option Addr} {θ0 : Addr → Prop} {α0 : Nat → Option Addr} {H0 : Hp} {ρ4 : En} {vs : List Nat} (r : Rel K θ π α1 σ2 H1 ρ4) (h : okw ρ4 vs) (e : wipe σ2 vs = wipe σ vs) (r0 : Rel K θ π α0 σ H0 ρ) (s : Stp θ α0 H0 α1 H1) : Rel K θ π α1 σ H1 (back ρ vs ρ4) := by
  have hl : σ2.length = σ.length := by have z := congrArg List.length e; rw [wipe_length, wipe_length] at z; exact z
  have es : ∀ k, k ∉ vs → σ2[k]? = σ[k]? := fun k hk => by rw [← wipe_out (vs := vs) hk, e, wipe_out hk]
  refine ⟨by unfold back; rw [setAll_len, r.len, hl], r.inj, r.ap, r.lv, fun k a q => ?_, fun k a q => ?_, r.tb, fun k s' q => ?_⟩
  · have hk : k ∉ vs := fun m => nonown_pi r (okw_mem h m) q
    obtain ⟨s, z⟩ := r.dom k a q
    exact ⟨s, by unfold back; rw [setAll_out hk]; exact z.1, z.2⟩
  · obtain ⟨ds, z⟩ := r.pin k a q
    have hk : k ∉ vs := fun m => by
      have n := okw_mem h m
      unfold nonown at n
      rw [z] at n
      exact n
    exact ⟨ds, by unfold back; rw [setAll_out hk]; exact z⟩
  · by_cases hk : k ∈ vs
    · by_cases hl : k < ρ4.length
      · unfold back at q
        rw [setAll_in hl hk] at q
        cases q
        unfold keepVa
        split
        · rename_i d q
          obtain ⟨v, q1, q2⟩ := r0.sl k _ q
          exact ⟨v, q1, dp_mono s.1 q2⟩
        · trivial
      · unfold back at q; rw [List.getElem?_eq_none (by rw [setAll_len]; omega)] at q; cases q
    · unfold back at q
      rw [setAll_out hk] at q
      have z := r.sl k s' q
      have es := es k hk
      cases s' with
      | no => trivial
      | va d => obtain ⟨w, z1, z2⟩ := z; exact ⟨w, es.symm.trans z1, z2⟩
      | ow ds => obtain ⟨a, vs, z1, z2, z3, z4⟩ := z; exact ⟨a, vs, z1, z2, es.symm.trans z3, z4⟩
      | io ds => obtain ⟨a, vs, z1, z2, z3, z4⟩ := z; exact ⟨a, vs, z1, z2, es.symm.trans z3, z4⟩
      | ex a => exact es.symm.trans z

/-! list comprehensions -/
/-- a target that stores names of vs alone -/
def cGv (K : PySem.W.Frag) (W : WX) (vs : List Nat) (w : WG) : TG := fun v σ H Q => ∃ θ π α ρ d R E, Rel K θ π α σ H ρ ∧ Dp K (hidS (Sof θ α) H) v d ∧ w d ρ R E ∧
  (∀ α' σ' H' ρ', Rel K θ π α' σ' H' ρ' → Stp θ α H α' H' → wipe σ' vs = wipe σ vs → R ρ' → Q σ' H') ∧ Exi K W θ π α σ H E
theorem dgvName {i : Nat} {vs : List Nat} {e : Expr} (h : PG X e (gName i)) (hi : i ∈ vs) : PG X e (cGv K W vs (wgName i)) := pgI h fun v σ H Q => by
  rintro ⟨θ, π, α, ρ, d, R, E, hR, hd, hw, hq, he⟩
  obtain ⟨h1, h2, h3⟩ := asgV_of hw
  obtain ⟨α', r, s⟩ := hR.put h1 h2 hd
  exact hq α' _ H _ r s (wipe_put hi) h3
theorem can_namesV {ws : List Nat} : ∀ (is : List Nat) {θ : Addr → Prop} {π α : Nat → Option Addr} {ρ : En} {ds : List D} {k : En → Prop} (vs : List V) (σ : L2.St) (H : Hp) (Q : L2.St → Hp → Prop), (∀ i ∈ is, i ∈ ws) → Rel K θ π α σ H ρ → DpAll K (hidS (Sof θ α) H) vs ds → asgAll is ds ρ k →
    (∀ α' σ' ρ', Rel K θ π α' σ' H ρ' → Stp θ α H α' H → wipe σ' ws = wipe σ ws → k ρ' → Q σ' H) → gNames is vs σ H Q
  | [], _, _, _, _, [], _, vs, σ, H, Q, _, r, hd, h, q => by
    cases hd
    exact ⟨rfl, q _ _ _ r (Stp.refl ..) rfl h⟩
  | [], _, _, _, _, _ :: _, _, vs, σ, H, Q, _, r, hd, h, q => h.elim
  | _ :: _, _, _, _, _, [], _, vs, σ, H, Q, _, r, hd, h, q => h.elim
  | i :: is, θ, π, α, ρ, d :: ds, k, vs, σ, H, Q, hm, r, hd, h, q => by
    cases hd with
    | cons h1 hs =>
      obtain ⟨a1, a2, a3⟩ := asgV_of h
      obtain ⟨α', r', s'⟩ := r.put a1 a2 h1
      refine ⟨_, _, rfl, ?_⟩
      exact can_namesV is _ _ H Q (fun i hi => hm i (List.mem_cons_of_mem _ hi)) r' (dpA_mono s'.1 hs) a3 fun α2 σ2 ρ2 r2 s2 e2 k2 => q α2 σ2 ρ2 r2 (s'.trans s2) (e2.trans (wipe_put (hm i List.mem_cons_self))) k2
theorem dgvTup {is : List Nat} {ws : List Nat} {e : Expr} {n : Nat} (h : PG X e (gTup K n (gNames is))) (hi : ∀ i ∈ is, i ∈ ws) (hn : is.length = n := by rfl) : PG X e (cGv K W ws (wgTup is)) := pgI h fun v σ H Q => by
  rintro ⟨θ, π, α, ρ, d, R, E, hR, hd, hw, hq, he⟩
  obtain ⟨ds, rfl, hw⟩ := hw
  cases hd with
  | tup h1 hs => exact ⟨_, _, rfl, ex_t hidS_ex h1, by rw [dpA_len hs, asgAll_len hw, hn], can_namesV is _ σ H Q hi hR hs hw fun α' σ' ρ' r s e k => hq α' σ' H ρ' r s e k⟩
def wLc (vs : List Nat) (wi : WI) (wg : WG) (wt : WT) (we : WE) : WA := fun ρ R E => wi ρ (fun ds ρ1 => ∃ Inv : Nat → List D → En → Prop, Inv 0 [] ρ1 ∧
  (∀ i d acc ρ', ds[i]? = some d → Inv i acc ρ' → okw ρ' vs ∧ wg d (wipeE ρ' vs) (fun ρ2 => wt ρ2 (fun b ρ3 =>
    if b = true then we ρ3 (fun y ρ4 => acc.length < sizeLine ∧ okw ρ4 vs ∧ Inv (i + 1) (acc ++ [y]) (back ρ' vs ρ4)) NoE else okw ρ3 vs ∧ Inv (i + 1) acc (back ρ' vs ρ3)) NoE) NoE) ∧
  ∀ acc ρ', Inv ds.length acc ρ' → R acc ρ') E
def wYes : WT := fun ρ R _ => R true ρ
theorem dYes : PTs X [] (cT K W wYes) := ptsI pts_nil fun σ H Q ⟨θ, π, α, ρ, R, E, hR, hw, hq, he⟩ => hq α H true ρ hR (Stp.refl ..) hw
/-- a comprehension, turn by turn -/
def lcRun (vs : List Nat) (wg : WG) (wt : WT) (we : WE) (R : List D → En → Prop) : List D → List D → En → Prop
  | [], acc, ρ => R acc ρ
  | d :: ds, acc, ρ => okw ρ vs ∧ wg d (wipeE ρ vs) (fun ρ2 => wt ρ2 (fun b ρ3 =>
    if b = true then we ρ3 (fun y ρ4 => acc.length < sizeLine ∧ okw ρ4 vs ∧ lcRun vs wg wt we R ds (acc ++ [y]) (back ρ vs ρ4)) NoE else okw ρ3 vs ∧ lcRun vs wg wt we R ds acc (back ρ vs ρ3)) NoE) NoE
theorem lc_run {vs : List Nat} {wg : WG} {wt : WT} {we : WE} {R : List D → En → Prop} {ds : List D} {ρ : En} (h : lcRun vs wg wt we R ds [] ρ) : ∃ Inv : Nat → List D → En → Prop, Inv 0 [] ρ ∧
    (∀ i d acc ρ', ds[i]? = some d → Inv i acc ρ' → okw ρ' vs ∧ wg d (wipeE ρ' vs) (fun ρ2 => wt ρ2 (fun b ρ3 =>
      if b = true then we ρ3 (fun y ρ4 => acc.length < sizeLine ∧ okw ρ4 vs ∧ Inv (i + 1) (acc ++ [y]) (back ρ' vs ρ4)) NoE else okw ρ3 vs ∧ Inv (i + 1) acc (back ρ' vs ρ3)) NoE) NoE) ∧
    ∀ acc ρ', Inv ds.length acc ρ' → R acc ρ' := by
  refine ⟨fun i => lcRun vs wg wt we R (ds.drop i), h, fun i d acc ρ' hi iv => ?_, fun acc ρ' iv => ?_⟩
  · obtain ⟨hlt, e⟩ := List.getElem?_eq_some_iff.mp hi
    dsimp only at iv
    rw [List.drop_eq_getElem_cons hlt, e] at iv
    exact iv
  · dsimp only at iv
    rw [List.drop_length] at iv
    exact iv
theorem can_lc {vs : List Nat} {wi : WI} {wg : WG} {wt : WT} {we : WE} (σ : L2.St) (H : Hp) (Q : VK) : cF K W (wLc vs wi wg wt we) σ H Q → tLc (cI K W wi) (cGv K W vs wg) (cT K W wt) (cE K W we) vs σ H Q := by
  rintro ⟨θ, π, α, ρ, R, E, hR, hw, hq, he⟩
  refine ⟨θ, π, α, ρ, _, E, hR, hw, fun α1 J H1 ds ρ1 R1 s1 hJ w1 => ?_, he⟩
  obtain ⟨Inv, i0, step, fin⟩ := w1
  intro Da hD
  have e1 := hid_new (θ := θ) (α := α1) (o := .lst []) hD
  have nD : ¬ θ Da := fun z => R1.lv Da z hD
  have sF0 : Ex (hidS (Sof θ α1) H1) (hidS (Sof (th θ Da) α1) (upd H1 Da (.lst []))) := by rw [e1]; exact Ex.refl _
  refine ⟨fun i m H' => m = ds.length - i ∧ i ≤ ds.length ∧ ∃ α' ρ' xs acc, Rel K (th θ Da) π α' σ H' ρ' ∧ Ex (hidS (Sof θ α1) H1) (hidS (Sof (th θ Da) α') H') ∧ (∀ b, θ b → FrO (H1 b) (H' b)) ∧ H' Da = some (.lst xs) ∧ DpAll K (hidS (Sof (th θ Da) α') H') xs acc ∧ Inv i acc ρ',
    ⟨_, rfl, Nat.zero_le _, α1, ρ1, [], [], R1.hideNew hD, sF0, fun b hb => .inl (upd_ne (fun z => by subst z; exact nD hb)), upd_same, .nil, i0⟩, ?_⟩
  rintro i m H' ⟨rfl, hi, α', ρ', xs, acc, R', x', f', hDa, hA, iv⟩
  obtain ⟨j1, j2⟩ := hJ _ H' i R'.live x'
  by_cases hlt : i < ds.length
  · obtain ⟨g1, g2⟩ := j2 ds[i] (by simp [hlt])
    refine .inr ⟨g1, fun H2 => i + 1 ≤ ds.length ∧ ∃ α' ρ' xs acc, Rel K (th θ Da) π α' σ H2 ρ' ∧ Ex (hidS (Sof θ α1) H1) (hidS (Sof (th θ Da) α') H2) ∧ (∀ b, θ b → FrO (H1 b) (H2 b)) ∧ H2 Da = some (.lst xs) ∧ DpAll K (hidS (Sof (th θ Da) α') H2) xs acc ∧ Inv (i + 1) acc ρ',
      fun H2 ⟨l2, z⟩ => ⟨ds.length - (i + 1), by omega, rfl, l2, z⟩, fun x H3 y => ?_⟩
    obtain ⟨ex, dp⟩ := g2 x H3 y
    obtain ⟨ok, w2⟩ := step i ds[i] acc ρ' (by simp [hlt]) iv
    have R3 := R'.ext ex
    have s3 := R'.stp ex
    refine ⟨th θ Da, π, α', wipeE ρ' vs, ds[i], _, _, R3.wiped ok, dp, w2, fun α4 σ4 H4 ρ4 R4 s4 e4 w4 => ?_, Exi.no⟩
    refine ⟨e4.trans (by
      apply List.ext_getElem?
      intro k
      by_cases hk : k ∈ vs
      · by_cases hl : k < σ.length
        · rw [wipe_in (by rw [wipe_length]; exact hl) hk, wipe_in hl hk]
        · rw [List.getElem?_eq_none (by rw [wipe_length, wipe_length]; omega), List.getElem?_eq_none (by rw [wipe_length]; omega)]
      · rw [wipe_out hk]), ?_⟩
    have e4' : wipe σ4 vs = wipe σ vs := e4.trans (by
      apply List.ext_getElem?
      intro k
      by_cases hk : k ∈ vs
      · by_cases hl : k < σ.length
        · rw [wipe_in (by rw [wipe_length]; exact hl) hk, wipe_in hl hk]
        · rw [List.getElem?_eq_none (by rw [wipe_length, wipe_length]; omega), List.getElem?_eq_none (by rw [wipe_length]; omega)]
      · rw [wipe_out hk])
    refine ⟨th θ Da, π, α4, ρ4, _, _, R4, w4, fun α5 H5 b ρ5 R5 s5 w5 => ?_, Exi.no⟩
    have s5' := (s3.trans s4).trans s5
    have hDa5 : H5 Da = some (.lst xs) := ((s5'.2 Da (.inr rfl)).lst hDa).trans hDa
    have f5 : ∀ b, θ b → FrO (H1 b) (H5 b) := fun b hb => (f' b hb).trans (s5'.2 b (.inl hb))
    cases b with
    | true =>
      rw [if_pos rfl] at w5
      refine iteT ?_
      refine ⟨th θ Da, π, α5, ρ5, _, _, R5, w5, fun α6 v6 H6 y6 ρ6 R6 s6 p6 w6 => ?_, Exi.no⟩
      obtain ⟨hl, ok6, iv6⟩ := w6
      have s6' := s5'.trans s6
      have hDa6 : H6 Da = some (.lst xs) := ((s6.2 Da (.inr rfl)).lst hDa5).trans hDa5
      have hS : Sof (th θ Da) α6 Da := .inl (.inr rfl)
      have hh : hidS (Sof (th θ Da) α6) (upd H6 Da (.lst (xs ++ [v6]))) = hidS (Sof (th θ Da) α6) H6 := by
        funext b
        unfold hidS
        by_cases z : Sof (th θ Da) α6 b
        · rw [if_pos z, if_pos z]
        · rw [if_neg z, if_neg z, upd_ne (fun q => by subst q; exact z hS)]
      have Rb := Rel.backed (θ0 := θ) R6 ok6 e4' R' s6'
      have hA6 := dpA_mono s6'.1 hA
      refine ⟨xs, hDa6, by rw [dpA_len hA]; exact hl, hlt, α6, _, _, _, ⟨Rb.len, Rb.inj, Rb.ap, fun b z => ?_, Rb.dom, Rb.pin, fun b z => ⟨(Rb.tb b z).1, by obtain ⟨ps, q, k⟩ := (Rb.tb b z).2; exact ⟨ps, by rw [upd_ne (fun e => by subst e; rw [hDa6] at q; cases q)]; exact q, k⟩⟩, fun k s q => (Rb.sl k s q).re rfl (by rw [hh]; exact Ex.refl _) fun a ws ha hb => ?_⟩, by rw [hh]; exact x'.trans s6'.1, fun b hb => ?_, upd_same, by rw [hh]; exact dpA_app hA6 (.cons p6 .nil), iv6⟩
      · by_cases q : b = Da
        · subst q; rw [upd_same]; intro z; cases z
        · rw [upd_ne q]; exact Rb.lv b z
      · rw [upd_ne (fun q => by subst q; exact Rb.ap k _ ha (.inr rfl))]; exact hb
      · rw [upd_ne (fun q => by subst q; exact nD hb)]
        exact (f5 b hb).trans (s6.2 b (.inl hb))
    | false =>
      rw [if_neg Bool.false_ne_true] at w5
      refine iteF ?_
      obtain ⟨ok5, iv5⟩ := w5
      exact ⟨hlt, α5, _, xs, acc, Rel.backed (θ0 := θ) R5 ok5 e4' R' s5', x'.trans s5'.1, f5, hDa5, dpA_mono s5'.1 hA, iv5⟩
  · have e : i = ds.length := by omega
    refine .inl ⟨j1 e, ?_⟩
    exact hq α' Da xs H' acc ρ' R' ⟨s1.1.trans x', fun b hb => (s1.2 b hb).trans (f' b hb)⟩ nD hDa hA (fin acc ρ' (by rw [← e]; exact iv))
end
end Den

namespace Den
variable [Tbs]
open PySem L2 Evl PySem.Spec PyProof.Rows
open Classical

/-! arguments: data, or a list that is lent -/
inductive Ar where
  | v (d : D) | io (j : Nat)
abbrev WM := En → (List Ar → En → Prop) → EC → Prop
abbrev WF := En → RC → EC → Prop
abbrev WFF := En → (List D → En → Prop) → EC → Prop
inductive ArAll (K : PySem.W.Frag) (σ : L2.St) (G : Hp) : List V → List Ar → Prop
  | nil : ArAll K σ G [] []
  | v {x : V} {d : D} {vs : List V} {as : List Ar} : Dp K G x d → ArAll K σ G vs as → ArAll K σ G (x :: vs) (.v d :: as)
  | io {x : V} {j : Nat} {vs : List V} {as : List Ar} : σ[j]? = some (some x) → ArAll K σ G vs as → ArAll K σ G (x :: vs) (.io j :: as)
def cM (K : PySem.W.Frag) (W : WX) (n : Nat) (w : WM) : TA := fun σ H Q => ∃ θ π α ρ R E, Rel K θ π α σ H ρ ∧ w ρ R E ∧
  (∀ α' vs H' as ρ', Rel K θ π α' σ H' ρ' → Stp θ α H α' H' → ArAll K σ (hidS (Sof θ α') H') vs as → as.length = n → R as ρ' → Q vs H') ∧ Exi K W θ π α σ H E
def wmNil : WM := fun ρ R _ => R [] ρ
def wmV (wa : WE) (wr : WM) : WM := fun ρ R E => wa ρ (fun d ρ1 => wr ρ1 (fun as ρ2 => R (.v d :: as) ρ2) E) E
def wmIo (j : Nat) (wr : WM) : WM := fun ρ R E => (∃ d, rd ρ j = some d) ∧ wr ρ (fun as ρ2 => R (.io j :: as) ρ2) E
/-- the parameters' slots -/
def pars (ρ : En) : List Ar → Option (List Sl)
  | [] => some []
  | .v d :: r => (pars ρ r).map (.va d :: ·)
  | .io j :: r => match ρ[j]? with
    | some (.ow ds) => (pars ρ r).map (.io ds :: ·)
    | some (.io ds) => (pars ρ r).map (.io ds :: ·)
    | _ => none
def ios : List Ar → List Nat
  | [] => []
  | .v _ :: r => ios r
  | .io j :: r => j :: ios r
def setOwn (ρ : En) (j : Nat) (es : List D) : En := match ρ[j]? with
  | some (.ow _) => ρ.set j (.ow es)
  | some (.io _) => ρ.set j (.io es)
  | _ => ρ
def upds (ρ : En) : List Ar → List Sl → En
  | .v _ :: r, _ :: o => upds ρ r o
  | .io j :: r, .io es :: o => setOwn (upds ρ r o) j es
  | _, _ => ρ
section
variable {K : PySem.W.Frag} {W : WX} {X : Cx} {θ : Addr → Prop} {π α : Nat → Option Addr} {σ σ2 : L2.St} {H H1 : Hp} {ρ : En} {p : Addr} {o : HO} {G G' : Hp}
theorem arA_mono (e : Ex G G') : ∀ {vs : List V} {as : List Ar}, ArAll K σ G vs as → ArAll K σ G' vs as
  | _, _, .nil => .nil
  | _, _, .v h r => .v (dp_mono e h) (arA_mono e r)
  | _, _, .io h r => .io h (arA_mono e r)
theorem dmNil : PA X [] (cM K W 0 wmNil) := paI pa_nil fun σ H Q ⟨θ, π, α, ρ, R, E, hR, hw, hq, he⟩ => hq α [] H [] ρ hR (Stp.refl ..) .nil rfl hw
theorem dmV {e : Expr} {es : List Expr} {n : Nat} {wa : WE} {wr : WM} (ha : PE X e (cE K W wa)) (hr : PA X es (cM K W n wr)) (hs : starEach (e :: es) X.env = (false, eval e X.env) :: starEach es X.env := by rfl) : PA X (e :: es) (cM K W (n + 1) (wmV wa wr)) :=
  paI (pa_cons ha hr hs) fun σ H Q ⟨θ, π, α, ρ, R, E, hR, hw, hq, he⟩ => by
    refine ⟨θ, π, α, ρ, _, E, hR, hw, fun α1 v1 H1 d ρ1 R1 s1 p1 w1 => ?_, he⟩
    refine ⟨θ, π, α1, ρ1, _, E, R1, w1, fun α2 vs H2 as ρ2 R2 s2 p2 l2 w2 => ?_, he.step s1⟩
    exact hq α2 (v1 :: vs) H2 (.v d :: as) ρ2 R2 (s1.trans s2) (.v (dp_mono s2.1 p1) p2) (by simp [l2]) w2
theorem dmIo {j : Nat} {x : Str} {pos : Pos} {es : List Expr} {n : Nat} {wr : WM} (ha : PE X (.Name x pos) (tVar j)) (hr : PA X es (cM K W n wr)) (hs : starEach (.Name x pos :: es) X.env = (false, eval (.Name x pos) X.env) :: starEach es X.env := by rfl) : PA X (.Name x pos :: es) (cM K W (n + 1) (wmIo j wr)) :=
  paI (pa_cons ha hr hs) fun σ H Q ⟨θ, π, α, ρ, R, E, hR, hw, hq, he⟩ => by
    obtain ⟨⟨d, hd⟩, hw⟩ := hw
    obtain ⟨v, h1, h2⟩ := hR.rd hd
    refine ⟨v, h1, θ, π, α, ρ, _, E, hR, hw, fun α2 vs H2 as ρ2 R2 s2 p2 l2 w2 => ?_, he⟩
    exact hq α2 (v :: vs) H2 (.io j :: as) ρ2 R2 s2 (.io h1 p2) (by simp [l2]) w2
theorem upds_len : ∀ (as : List Ar) (os : List Sl), (upds ρ as os).length = ρ.length
  | [], os => by cases os <;> rfl
  | .v _ :: r, [] => rfl
  | .v _ :: r, _ :: o => upds_len r o
  | .io j :: r, [] => rfl
  | .io j :: r, .io es :: o => by
    show (setOwn (upds ρ r o) j es).length = _
    unfold setOwn
    split
    · rw [List.length_set, upds_len r o]
    · rw [List.length_set, upds_len r o]
    · exact upds_len r o
  | .io j :: r, .no :: o => rfl
  | .io j :: r, .va _ :: o => rfl
  | .io j :: r, .ow _ :: o => rfl
  | .io j :: r, .ex _ :: o => rfl
theorem setOwn_ne {i j : Nat} {es : List D} (h : i ≠ j) : (setOwn ρ j es)[i]? = ρ[i]? := by
  unfold setOwn
  split
  · exact List.getElem?_set_ne (Ne.symm h)
  · exact List.getElem?_set_ne (Ne.symm h)
  · rfl
theorem upds_out {i : Nat} : ∀ {as : List Ar} {os : List Sl}, i ∉ ios as → (upds ρ as os)[i]? = ρ[i]?
  | [], os, _ => by cases os <;> rfl
  | .v _ :: r, [], _ => rfl
  | .v _ :: r, _ :: o, h => upds_out (as := r) (os := o) h
  | .io j :: r, [], _ => rfl
  | .io j :: r, .io es :: o, h => by
    show (setOwn (upds ρ r o) j es)[i]? = _
    rw [setOwn_ne (fun e => h (by rw [e]; exact List.mem_cons_self))]
    exact upds_out fun m => h (List.mem_cons_of_mem _ m)
  | .io j :: r, .no :: o, _ => rfl
  | .io j :: r, .va _ :: o, _ => rfl
  | .io j :: r, .ow _ :: o, _ => rfl
  | .io j :: r, .ex _ :: o, _ => rfl
theorem ios_at {k j : Nat} : ∀ {as : List Ar}, as[k]? = some (.io j) → j ∈ ios as := fun {as} => by
  induction as generalizing k with
  | nil => intro h; simp at h
  | cons a r ih =>
    intro h
    cases k with
    | zero => simp at h; subst h; exact List.mem_cons_self
    | succ k =>
      have z := ih (k := k) (by simpa using h)
      cases a with
      | v d => exact z
      | io l => exact List.mem_cons_of_mem _ z
theorem ios_of {j : Nat} : ∀ {as : List Ar}, j ∈ ios as → ∃ k : Nat, as[k]? = some (Ar.io j) := fun {as} => by
  induction as with
  | nil => intro h; cases h
  | cons a r ih =>
    intro h
    cases a with
    | v d => obtain ⟨k, z⟩ := ih h; exact ⟨k + 1, by simpa using z⟩
    | io l =>
      rcases List.mem_cons.mp h with e | h
      · exact ⟨0, by rw [e]; rfl⟩
      · obtain ⟨k, z⟩ := ih h; exact ⟨k + 1, by simpa using z⟩
theorem ios_inj : ∀ {as : List Ar} {k l j : Nat}, (ios as).Nodup → as[k]? = some (.io j) → as[l]? = some (.io j) → k = l := fun {as} => by
  induction as with
  | nil => intro k l j _ h; simp at h
  | cons a r ih =>
    intro k l j nd h1 h2
    cases a with
    | v d =>
      cases k with
      | zero => simp at h1
      | succ k => cases l with
        | zero => simp at h2
        | succ l => exact congrArg (· + 1) (ih (k := k) (l := l) (j := j) nd (by simpa using h1) (by simpa using h2))
    | io m =>
      have nd' : m ∉ ios r ∧ (ios r).Nodup := List.nodup_cons.mp nd
      cases k with
      | zero => cases l with
        | zero => rfl
        | succ l =>
          simp at h1
          subst h1
          exact absurd (ios_at (k := l) (by simpa using h2)) nd'.1
      | succ k => cases l with
        | zero =>
          simp at h2
          subst h2
          exact absurd (ios_at (k := k) (by simpa using h1)) nd'.1
        | succ l => exact congrArg (· + 1) (ih (k := k) (l := l) (j := j) nd'.2 (by simpa using h1) (by simpa using h2))
theorem upds_in {j : Nat} {es : List D} : ∀ {as : List Ar} {os : List Sl} {k : Nat}, (ios as).Nodup → as[k]? = some (.io j) → os[k]? = some (.io es) → (∀ (i : Nat) (s : Sl), os[i]? = some s → ∀ l : Nat, as[i]? = some (Ar.io l) → ∃ e, s = Sl.io e) → as.length = os.length →
    (∀ ds, ρ[j]? = some (.ow ds) → (upds ρ as os)[j]? = some (.ow es)) ∧ (∀ ds, ρ[j]? = some (.io ds) → (upds ρ as os)[j]? = some (.io es)) := fun {as} => by
  induction as with
  | nil => intro os k _ h; simp at h
  | cons a r ih =>
    intro os k nd h1 h2 hall hl
    cases os with
    | nil => simp at hl
    | cons s o =>
      have hall' : ∀ (i : Nat) (s : Sl), o[i]? = some s → ∀ l : Nat, r[i]? = some (Ar.io l) → ∃ e, s = Sl.io e := fun i s q l q2 => hall (i + 1) s (by simpa using q) l (by simpa using q2)
      have hl' : r.length = o.length := by simpa using hl
      cases a with
      | v d =>
        cases k with
        | zero => simp at h1
        | succ k => exact ih (k := k) nd (by simpa using h1) (by simpa using h2) hall' hl'
      | io m =>
        have nd' : m ∉ ios r ∧ (ios r).Nodup := List.nodup_cons.mp nd
        obtain ⟨e0, he0⟩ := hall 0 s rfl m rfl
        subst he0
        cases k with
        | zero =>
          simp at h1 h2
          subst h1 h2
          refine ⟨fun ds q => ?_, fun ds q => ?_⟩
          · show (setOwn (upds ρ r o) m e0)[m]? = _
            have z : (upds ρ r o)[m]? = some (.ow ds) := by rw [upds_out nd'.1]; exact q
            unfold setOwn
            rw [z]
            exact List.getElem?_set_self (List.getElem?_eq_some_iff.mp z).1
          · show (setOwn (upds ρ r o) m e0)[m]? = _
            have z : (upds ρ r o)[m]? = some (.io ds) := by rw [upds_out nd'.1]; exact q
            unfold setOwn
            rw [z]
            exact List.getElem?_set_self (List.getElem?_eq_some_iff.mp z).1
        | succ k =>
          have hne : j ≠ m := fun q => by
            subst q
            exact nd'.1 (ios_at (k := k) (by simpa using h1))
          obtain ⟨z1, z2⟩ := ih (k := k) nd'.2 (by simpa using h1) (by simpa using h2) hall' hl'
          exact ⟨fun ds q => by show (setOwn (upds ρ r o) m e0)[j]? = _; rw [setOwn_ne hne]; exact z1 ds q, fun ds q => by show (setOwn (upds ρ r o) m e0)[j]? = _; rw [setOwn_ne hne]; exact z2 ds q⟩
/-- what the parameters' slots are -/
theorem pars_at : ∀ {as : List Ar} {ps : List Sl}, pars ρ as = some ps → ps.length = as.length ∧ ∀ k : Nat, (∀ d : D, as[k]? = some (Ar.v d) → ps[k]? = some (Sl.va d)) ∧ ∀ j : Nat, as[k]? = some (Ar.io j) → ∃ ds : List D, ps[k]? = some (Sl.io ds) ∧ (ρ[j]? = some (.ow ds) ∨ ρ[j]? = some (.io ds)) := fun {as} => by
  induction as with
  | nil => intro ps h; cases h; exact ⟨rfl, fun k => ⟨fun d q => by simp at q, fun d q => by simp at q⟩⟩
  | cons a r ih =>
    intro ps h
    cases a with
    | v d =>
      unfold pars at h
      cases q : pars ρ r with
      | none => rw [q] at h; cases h
      | some p =>
        rw [q] at h
        cases h
        obtain ⟨l, z⟩ := ih q
        refine ⟨by simp [l], fun k => ?_⟩
        cases k with
        | zero => exact ⟨fun d q => by simp at q; subst q; rfl, fun d q => by simp at q⟩
        | succ k => exact ⟨fun d q => by simpa using (z k).1 d (by simpa using q), fun j q => by simpa using (z k).2 j (by simpa using q)⟩
    | io m =>
      unfold pars at h
      split at h
      · rename_i ds e
        cases q : pars ρ r with
        | none => rw [q] at h; cases h
        | some p =>
          rw [q] at h
          cases h
          obtain ⟨l, z⟩ := ih q
          refine ⟨by simp [l], fun k => ?_⟩
          cases k with
          | zero => exact ⟨fun d q => by simp at q, fun d q => by simp at q; subst q; exact ⟨ds, rfl, .inl e⟩⟩
          | succ k => exact ⟨fun d q => by simpa using (z k).1 d (by simpa using q), fun j q => by simpa using (z k).2 j (by simpa using q)⟩
      · rename_i ds e
        cases q : pars ρ r with
        | none => rw [q] at h; cases h
        | some p =>
          rw [q] at h
          cases h
          obtain ⟨l, z⟩ := ih q
          refine ⟨by simp [l], fun k => ?_⟩
          cases k with
          | zero => exact ⟨fun d q => by simp at q, fun d q => by simp at q; subst q; exact ⟨ds, rfl, .inr e⟩⟩
          | succ k => exact ⟨fun d q => by simpa using (z k).1 d (by simpa using q), fun j q => by simpa using (z k).2 j (by simpa using q)⟩
      · cases h
theorem arA_len : ∀ {vs : List V} {as : List Ar}, ArAll K σ G vs as → vs.length = as.length
  | _, _, .nil => rfl
  | _, _, .v _ r => by simp [arA_len r]
  | _, _, .io _ r => by simp [arA_len r]
theorem arA_at : ∀ {vs : List V} {as : List Ar} {k : Nat} {a : Ar}, ArAll K σ G vs as → as[k]? = some a → ∃ x, vs[k]? = some x ∧ match a with | .v d => Dp K G x d | .io j => σ[j]? = some (some x)
  | _, _, k, a, .nil, h => by simp at h
  | _, _, 0, a, .v q _, h => by simp at h; subst h; exact ⟨_, rfl, q⟩
  | _, _, 0, a, .io q _, h => by simp at h; subst h; exact ⟨_, rfl, q⟩
  | _, _, k + 1, a, .v _ r, h => by
    obtain ⟨x, z1, z2⟩ := arA_at (k := k) r (by simpa using h)
    exact ⟨x, by simpa using z1, z2⟩
  | _, _, k + 1, a, .io _ r, h => by
    obtain ⟨x, z1, z2⟩ := arA_at (k := k) r (by simpa using h)
    exact ⟨x, by simpa using z1, z2⟩

/-! a def's promise, over data -/
def toSp (K : PySem.W.Frag) (n : Nat) (S : WF) : Sp := fun vs H Q E => ∃ θ β ps R E', vs.length = n ∧ Rel K θ β β (vs.map some) H ps ∧ S ps R E' ∧
  (∀ v H' d os, Rel K θ β β (vs.map some) H' os → Ex (hidS (Sof θ β) H) (hidS (Sof θ β) H') → (∀ b, θ b → FrO (H b) (H' b)) → Dp K (hidS (Sof θ β) H') v d → R d os → Q v H') ∧
  ∀ H' c os, Rel K θ β β (vs.map some) H' os → Ex (hidS (Sof θ β) H) (hidS (Sof θ β) H') → (∀ b, θ b → FrO (H b) (H' b)) → E' c os → E (.ref c) none H'
def toSpF (K : PySem.W.Frag) (n : Nat) (S : WFF) : Sp := fun vs H Q E => ∃ θ β ps R E', vs.length = n ∧ Rel K θ β β (vs.map some) H ps ∧ S ps R E' ∧
  (∀ p xs H' ds os, Rel K (th θ p) β β (vs.map some) H' os → Ex (hidS (Sof θ β) H) (hidS (Sof (th θ p) β) H') → (∀ b, θ b → FrO (H b) (H' b)) → ¬ θ p → H' p = some (.lst xs) → DpAll K (hidS (Sof (th θ p) β) H') xs ds → R ds os → Q (.ref p) H') ∧
  ∀ H' c os, Rel K θ β β (vs.map some) H' os → Ex (hidS (Sof θ β) H) (hidS (Sof θ β) H') → (∀ b, θ b → FrO (H b) (H' b)) → E' c os → E (.ref c) none H'
/-- the callee's view of the caller's state -/
structure View (K : PySem.W.Frag) (θ : Addr → Prop) (π α : Nat → Option Addr) (σ : L2.St) (ρ : En) (vs : List V) (as : List Ar) (θ' : Addr → Prop) (β : Nat → Option Addr) : Prop where
  hid : ∀ b, Sof θ' β b ↔ Sof θ α b
  sub : ∀ b, θ b → θ' b
  back : ∀ H0 H1 os, Rel K θ π α σ H0 ρ → Rel K θ' β β (vs.map some) H1 os → Ex (hidS (Sof θ α) H0) (hidS (Sof θ α) H1) → (∀ b, θ' b → FrO (H0 b) (H1 b)) → Rel K θ π α σ H1 (upds ρ as os)
  backF : ∀ H0 H1 os p, Rel K θ π α σ H0 ρ → Rel K (th θ' p) β β (vs.map some) H1 os → Ex (hidS (Sof θ α) H0) (hidS (Sof (th θ p) α) H1) → (∀ b, θ' b → FrO (H0 b) (H1 b)) → ¬ θ' p → Rel K (th θ p) π α σ H1 (upds ρ as os)
theorem view_of {vs : List V} {as : List Ar} {ps : List Sl} (r : Rel K θ π α σ H ρ) (ha : ArAll K σ (hidS (Sof θ α) H) vs as) (hp : pars ρ as = some ps) (nd : (ios as).Nodup) :
    ∃ θ' β, Rel K θ' β β (vs.map some) H ps ∧ View K θ π α σ ρ vs as θ' β := by
  obtain ⟨hl, hat⟩ := pars_at hp
  have hva := arA_len ha
  let β : Nat → Option Addr := fun k => match as[k]? with
    | some (.io j) => α j
    | _ => none
  let θ' : Addr → Prop := fun b => θ b ∨ ∃ i, α i = some b ∧ i ∉ ios as
  have hβ : ∀ (k : Nat) (a : Addr), β k = some a → ∃ j : Nat, as[k]? = some (Ar.io j) ∧ α j = some a := fun k a q => by
    simp only [β] at q
    split at q
    · rename_i j e; exact ⟨j, e, q⟩
    · cases q
  have hβ' : ∀ (k j : Nat), as[k]? = some (Ar.io j) → β k = α j := fun k j q => by simp only [β]; rw [q]
  have hid : ∀ b, Sof θ' β b ↔ Sof θ α b := fun b => by
    constructor
    · rintro ((h | ⟨i, h, _⟩) | ⟨k, h⟩)
      · exact .inl h
      · exact .inr ⟨i, h⟩
      · obtain ⟨j, _, h⟩ := hβ k b h; exact .inr ⟨j, h⟩
    · rintro (h | ⟨i, h⟩)
      · exact .inl (.inl h)
      · by_cases m : i ∈ ios as
        · obtain ⟨k, q⟩ := ios_of m
          exact .inr ⟨k, by rw [hβ' k i q]; exact h⟩
        · exact .inl (.inr ⟨i, h, m⟩)
  have hS : Sof θ' β = Sof θ α := funext fun b => propext (hid b)
  have inj : ∀ i j a, β i = some a → β j = some a → i = j := fun i j a q1 q2 => by
    obtain ⟨x, e1, f1⟩ := hβ i a q1
    obtain ⟨y, e2, f2⟩ := hβ j a q2
    obtain rfl := r.inj x y a f1 f2
    exact ios_inj nd e1 e2
  have hioAt : ∀ (k j : Nat), as[k]? = some (Ar.io j) → ∃ a ds xs, α j = some a ∧ β k = some a ∧ (vs.map some)[k]? = some (some (V.ref a)) ∧ ps[k]? = some (.io ds) ∧ H a = some (.lst xs) ∧ DpAll K (hidS (Sof θ α) H) xs ds := fun k j q => by
    obtain ⟨ds, e1, e2⟩ := (hat k).2 j q
    obtain ⟨x, e3, e4⟩ := arA_at ha q
    have e4 : σ[j]? = some (some x) := e4
    rcases e2 with e2 | e2
    · obtain ⟨a, xs, z1, z2, z3, z4, z5⟩ := r.sl j _ e2
      rw [z3] at e4; cases e4
      exact ⟨a, ds, xs, z1, by rw [hβ' k j q]; exact z1, by rw [List.getElem?_map, e3]; rfl, e1, z4, z5⟩
    · obtain ⟨a, xs, z1, z2, z3, z4, z5⟩ := r.sl j _ e2
      rw [z3] at e4; cases e4
      exact ⟨a, ds, xs, z1, by rw [hβ' k j q]; exact z1, by rw [List.getElem?_map, e3]; rfl, e1, z4, z5⟩
  have live' : ∀ b, θ' b → H b ≠ none := fun b h => by
    rcases h with h | ⟨i, h, _⟩
    · exact r.lv b h
    · obtain ⟨xs, z⟩ := r.owned h; rw [z]; intro q; cases q
  refine ⟨θ', β, ⟨by rw [List.length_map, hva, hl], inj, fun i a q z => ?_, live', fun i a q => ?_, fun i a q => ?_, fun b h => ⟨.inl (r.tb b h).1, (r.tb b h).2⟩, fun k s q => ?_⟩, ⟨hid, fun b h => .inl h, fun H0 H1 os r0 R ex fr => ?_, fun H0 H1 os p r0 R ex fr np => ?_⟩⟩
  · obtain ⟨j, e1, f1⟩ := hβ i a q
    rcases z with z | ⟨l, z, n⟩
    · exact r.ap j a f1 z
    · obtain rfl := r.inj j l a f1 z
      exact n (ios_at e1)
  · obtain ⟨j, e1, f1⟩ := hβ i a q
    obtain ⟨_, ds, _, _, _, _, z, _⟩ := hioAt i j e1
    exact ⟨_, z, trivial⟩
  · obtain ⟨j, e1, f1⟩ := hβ i a q
    obtain ⟨_, ds, _, _, _, _, z, _⟩ := hioAt i j e1
    exact ⟨ds, z⟩
  · have hk : k < as.length := by rw [← hl]; exact (List.getElem?_eq_some_iff.mp q).1
    cases e : as[k]? with
    | none => rw [List.getElem?_eq_none_iff] at e; omega
    | some a =>
      cases a with
      | v d =>
        have z := (hat k).1 d e
        rw [q] at z
        cases z
        obtain ⟨x, e3, e4⟩ := arA_at ha e
        exact ⟨x, by rw [List.getElem?_map, e3]; rfl, by rw [hS]; exact e4⟩
      | io j =>
        obtain ⟨a, ds, xs, z1, z2, z3, z4, z5, z6⟩ := hioAt k j e
        rw [q] at z4
        cases z4
        exact ⟨a, xs, z2, z2, z3, z5, by rw [hS]; exact z6⟩
  · have hos : os.length = as.length := by rw [R.len, List.length_map, hva]
    have hall : ∀ (i : Nat) (s : Sl), os[i]? = some s → ∀ l : Nat, as[i]? = some (Ar.io l) → ∃ e, s = Sl.io e := fun i s q l q2 => by
      obtain ⟨a, _, _, _, z2, _⟩ := hioAt i l q2
      obtain ⟨es, z⟩ := R.pin i a z2
      rw [q] at z; cases z; exact ⟨es, rfl⟩
    have hin : ∀ i, i ∈ ios as → ∃ (k : Nat) (a : Addr) (es : List D), as[k]? = some (Ar.io i) ∧ α i = some a ∧ β k = some a ∧ os[k]? = some (Sl.io es) ∧ ((∃ ds, ρ[i]? = some (Sl.ow ds)) ∨ ∃ ds, ρ[i]? = some (Sl.io ds)) ∧ (∀ ds, ρ[i]? = some (.ow ds) → (upds ρ as os)[i]? = some (.ow es)) ∧ (∀ ds, ρ[i]? = some (.io ds) → (upds ρ as os)[i]? = some (.io es)) := fun i m => by
      obtain ⟨k, q⟩ := ios_of m
      obtain ⟨a, _, _, z1, z2, _⟩ := hioAt k i q
      obtain ⟨es, z⟩ := R.pin k a z2
      obtain ⟨ds, _, w⟩ := (hat k).2 i q
      obtain ⟨u1, u2⟩ := upds_in (ρ := ρ) (os := os) nd q z hall hos.symm
      exact ⟨k, a, es, q, z1, z2, z, w.elim (fun w => .inl ⟨ds, w⟩) (fun w => .inr ⟨ds, w⟩), u1, u2⟩
    refine ⟨by rw [upds_len]; exact r0.len, r0.inj, r0.ap, fun b h => (fr b (.inl h)).ne (r0.lv b h), fun i a q => ?_, fun i a q => ?_, fun b h => ⟨(r0.tb b h).1, (fr b (.inl (r0.tb b h).1)).tb (r0.tb b h).2⟩, fun i s q => ?_⟩
    · by_cases m : i ∈ ios as
      · obtain ⟨k, _, es, _, _, _, _, w, u1, u2⟩ := hin i m
        rcases w with ⟨ds, w⟩ | ⟨ds, w⟩
        · exact ⟨_, u1 ds w, trivial⟩
        · exact ⟨_, u2 ds w, trivial⟩
      · obtain ⟨s, z1, z2⟩ := r0.dom i a q
        exact ⟨s, by rw [upds_out m]; exact z1, z2⟩
    · obtain ⟨ds, z⟩ := r0.pin i a q
      by_cases m : i ∈ ios as
      · obtain ⟨k, _, es, _, _, _, _, w, u1, u2⟩ := hin i m
        exact ⟨es, u2 ds z⟩
      · exact ⟨ds, by rw [upds_out m]; exact z⟩
    · by_cases m : i ∈ ios as
      · obtain ⟨k, a, es, e1, z1, z2, z3, w, u1, u2⟩ := hin i m
        obtain ⟨a2, ys, y1, y2, y3, y4, y5⟩ := R.sl k _ z3
        rw [z2] at y1; cases y1
        rcases w with ⟨ds, w⟩ | ⟨ds, w⟩
        · rw [u1 ds w] at q
          cases q
          obtain ⟨b, xs, x1, x2, x3, x4, x5⟩ := r0.sl i _ w
          rw [z1] at x1; cases x1
          exact ⟨a, ys, z1, x2, x3, y4, by rw [hS] at y5; exact y5⟩
        · rw [u2 ds w] at q
          cases q
          obtain ⟨b, xs, x1, x2, x3, x4, x5⟩ := r0.sl i _ w
          rw [z1] at x1; cases x1
          exact ⟨a, ys, z1, x2, x3, y4, by rw [hS] at y5; exact y5⟩
      · rw [upds_out m] at q
        exact (r0.sl i s q).re rfl ex fun a xs z y => ((fr a (.inr ⟨i, z, m⟩)).lst y).trans y
  · have hSF : Sof (th θ' p) β = Sof (th θ p) α := funext fun b => propext (by rw [Sof_th, Sof_th, hid b])
    have hos : os.length = as.length := by rw [R.len, List.length_map, hva]
    have hall : ∀ (i : Nat) (s : Sl), os[i]? = some s → ∀ l : Nat, as[i]? = some (Ar.io l) → ∃ e, s = Sl.io e := fun i s q l q2 => by
      obtain ⟨a, _, _, _, z2, _⟩ := hioAt i l q2
      obtain ⟨es, z⟩ := R.pin i a z2
      rw [q] at z; cases z; exact ⟨es, rfl⟩
    have hin : ∀ i, i ∈ ios as → ∃ (k : Nat) (a : Addr) (es : List D), as[k]? = some (Ar.io i) ∧ α i = some a ∧ β k = some a ∧ os[k]? = some (Sl.io es) ∧ ((∃ ds, ρ[i]? = some (Sl.ow ds)) ∨ ∃ ds, ρ[i]? = some (Sl.io ds)) ∧ (∀ ds, ρ[i]? = some (.ow ds) → (upds ρ as os)[i]? = some (.ow es)) ∧ (∀ ds, ρ[i]? = some (.io ds) → (upds ρ as os)[i]? = some (.io es)) := fun i m => by
      obtain ⟨k, q⟩ := ios_of m
      obtain ⟨a, _, _, z1, z2, _⟩ := hioAt k i q
      obtain ⟨es, z⟩ := R.pin k a z2
      obtain ⟨ds, _, w⟩ := (hat k).2 i q
      obtain ⟨u1, u2⟩ := upds_in (ρ := ρ) (os := os) nd q z hall hos.symm
      exact ⟨k, a, es, q, z1, z2, z, w.elim (fun w => .inl ⟨ds, w⟩) (fun w => .inr ⟨ds, w⟩), u1, u2⟩
    refine ⟨by rw [upds_len]; exact r0.len, r0.inj, fun i a q z => ?ap, fun b h => ?lv, fun i a q => ?_, fun i a q => ?_, fun b h => ⟨.inl (r0.tb b h).1, (fr b (.inl (r0.tb b h).1)).tb (r0.tb b h).2⟩, fun i s q => ?_⟩
    case ap =>
      rcases z with z | z
      · exact r0.ap i a q z
      · by_cases m : i ∈ ios as
        · obtain ⟨k, a2, es, _, z1, z2, _⟩ := hin i m
          rw [q] at z1; cases z1
          exact R.ap k a z2 (.inr z)
        · subst z; exact np (.inr ⟨i, q, m⟩)
    case lv =>
      rcases h with h | h
      · exact (fr b (.inl h)).ne (r0.lv b h)
      · exact R.lv b (.inr h)
    · by_cases m : i ∈ ios as
      · obtain ⟨k, _, es, _, _, _, _, w, u1, u2⟩ := hin i m
        rcases w with ⟨ds, w⟩ | ⟨ds, w⟩
        · exact ⟨_, u1 ds w, trivial⟩
        · exact ⟨_, u2 ds w, trivial⟩
      · obtain ⟨s, z1, z2⟩ := r0.dom i a q
        exact ⟨s, by rw [upds_out m]; exact z1, z2⟩
    · obtain ⟨ds, z⟩ := r0.pin i a q
      by_cases m : i ∈ ios as
      · obtain ⟨k, _, es, _, _, _, _, w, u1, u2⟩ := hin i m
        exact ⟨es, u2 ds z⟩
      · exact ⟨ds, by rw [upds_out m]; exact z⟩
    · by_cases m : i ∈ ios as
      · obtain ⟨k, a, es, e1, z1, z2, z3, w, u1, u2⟩ := hin i m
        obtain ⟨a2, ys, y1, y2, y3, y4, y5⟩ := R.sl k _ z3
        rw [z2] at y1; cases y1
        rcases w with ⟨ds, w⟩ | ⟨ds, w⟩
        · rw [u1 ds w] at q
          cases q
          obtain ⟨b, xs, x1, x2, x3, x4, x5⟩ := r0.sl i _ w
          rw [z1] at x1; cases x1
          exact ⟨a, ys, z1, x2, x3, y4, by rw [hSF] at y5; exact y5⟩
        · rw [u2 ds w] at q
          cases q
          obtain ⟨b, xs, x1, x2, x3, x4, x5⟩ := r0.sl i _ w
          rw [z1] at x1; cases x1
          exact ⟨a, ys, z1, x2, x3, y4, by rw [hSF] at y5; exact y5⟩
      · rw [upds_out m] at q
        exact (r0.sl i s q).re rfl ex fun a xs z y => ((fr a (.inr ⟨i, z, m⟩)).lst y).trans y
end
end Den

namespace Den
variable [Tbs]
open PySem L2 Evl PySem.Spec PyProof.Rows
open Classical
section
variable {K : PySem.W.Frag} {W : WX} {X : Cx} {θ : Addr → Prop} {π α : Nat → Option Addr} {σ σ2 : L2.St} {H H1 : Hp} {ρ : En} {p : Addr} {o : HO} {n : Nat}

/-! calls -/
def wCall (S : WF) (wm : WM) : WE := fun ρ R E => wm ρ (fun as ρ2 => ∃ ps, pars ρ2 as = some ps ∧ (ios as).Nodup ∧ S ps (fun d os => R d (upds ρ2 as os)) (fun c os => E c (upds ρ2 as os))) E
def wCall0 (S : WF) (wm : WM) : WE := fun ρ R E => wm ρ (fun as ρ2 => ∃ ps, pars ρ2 as = some ps ∧ (ios as).Nodup ∧ S ps (fun d os => R d (upds ρ2 as os)) NoE) E
def wCallF (S : WFF) (wm : WM) : WA := fun ρ R E => wm ρ (fun as ρ2 => ∃ ps, pars ρ2 as = some ps ∧ (ios as).Nodup ∧ S ps (fun d os => R d (upds ρ2 as os)) (fun c os => E c (upds ρ2 as os))) E
theorem hid_eq {θ' : Addr → Prop} {β : Nat → Option Addr} (h : ∀ b, Sof θ' β b ↔ Sof θ α b) : Sof θ' β = Sof θ α := funext fun b => propext (h b)
theorem can_call {S : WF} {wm : WM} {t : TA} (hc : ∀ σ H Q, cM K W n wm σ H Q → t σ H Q) (σ : L2.St) (H : Hp) (Q : VK) : cE K W (wCall S wm) σ H Q → tCallS (toSp K n S) (L2.WE W) t σ H Q := by
  rintro ⟨θ, π, α, ρ, R, E, hR, hw, hq, he⟩
  refine hc _ _ _ ⟨θ, π, α, ρ, _, E, hR, hw, fun α2 vs H2 as ρ2 R2 s2 p2 l2 w2 => ?_, he⟩
  obtain ⟨ps, hp, nd, hS⟩ := w2
  obtain ⟨θ', β, r, v⟩ := view_of R2 p2 hp nd
  have hh := hid_eq v.hid
  refine ⟨θ', β, ps, _, _, by rw [arA_len p2, l2], r, hS, fun u H' d os r' ex fr dp hr => ?_, fun H' c os r' ex fr hr => ?_⟩
  · rw [hh] at ex dp
    have R3 := v.back H2 H' os R2 r' ex fr
    exact hq α2 u H' d _ R3 (s2.trans ⟨ex, fun b hb => fr b (v.sub b hb)⟩) dp hr
  · rw [hh] at ex
    have R3 := v.back H2 H' os R2 r' ex fr
    exact he α2 σ H' c _ R3 (s2.trans ⟨ex, fun b hb => fr b (v.sub b hb)⟩) hr
theorem can_call0 {S : WF} {wm : WM} {t : TA} (hc : ∀ σ H Q, cM K W n wm σ H Q → t σ H Q) (σ : L2.St) (H : Hp) (Q : VK) : cE K W (wCall0 S wm) σ H Q → tCall (toSp K n S) [] E0 t σ H Q := by
  rintro ⟨θ, π, α, ρ, R, E, hR, hw, hq, he⟩
  refine hc _ _ _ ⟨θ, π, α, ρ, _, E, hR, hw, fun α2 vs H2 as ρ2 R2 s2 p2 l2 w2 => ?_, he⟩
  obtain ⟨ps, hp, nd, hS⟩ := w2
  obtain ⟨θ', β, r, v⟩ := view_of R2 p2 hp nd
  have hh := hid_eq v.hid
  rw [List.append_nil]
  refine ⟨θ', β, ps, _, _, by rw [arA_len p2, l2], r, hS, fun u H' d os r' ex fr dp hr => ?_, fun H' c os r' ex fr hr => hr.elim⟩
  rw [hh] at ex dp
  have R3 := v.back H2 H' os R2 r' ex fr
  exact hq α2 u H' d _ R3 (s2.trans ⟨ex, fun b hb => fr b (v.sub b hb)⟩) dp hr
theorem can_callF {S : WFF} {wm : WM} {t : TA} (hc : ∀ σ H Q, cM K W n wm σ H Q → t σ H Q) (σ : L2.St) (H : Hp) (Q : VK) : cF K W (wCallF S wm) σ H Q → tCallS (toSpF K n S) (L2.WE W) t σ H Q := by
  rintro ⟨θ, π, α, ρ, R, E, hR, hw, hq, he⟩
  refine hc _ _ _ ⟨θ, π, α, ρ, _, E, hR, hw, fun α2 vs H2 as ρ2 R2 s2 p2 l2 w2 => ?_, he⟩
  obtain ⟨ps, hp, nd, hS⟩ := w2
  obtain ⟨θ', β, r, v⟩ := view_of R2 p2 hp nd
  have hh := hid_eq v.hid
  refine ⟨θ', β, ps, _, _, by rw [arA_len p2, l2], r, hS, fun p xs H' ds os r' ex fr np h1 dp hr => ?_, fun H' c os r' ex fr hr => ?_⟩
  · have hF : Sof (th θ' p) β = Sof (th θ p) α2 := funext fun b => propext (by rw [Sof_th, Sof_th, v.hid b])
    rw [hh, hF] at ex
    rw [hF] at dp
    have R3 := v.backF H2 H' os p R2 r' ex fr np
    exact hq α2 p xs H' ds _ R3 ⟨s2.1.trans ex, fun b hb => (s2.2 b hb).trans (fr b (v.sub b hb))⟩ (fun z => np (v.sub p z)) h1 dp hr
  · rw [hh] at ex
    have R3 := v.back H2 H' os R2 r' ex fr
    exact he α2 σ H' c _ R3 (s2.trans ⟨ex, fun b hb => fr b (v.sub b hb)⟩) hr
theorem passLN {X : Cx} : Passes (L2N.CX X.prog X.w) X E0 := fun _ _ _ _ _ _ _ h => by
  obtain ⟨_, _, _, _, _, _, _, _, _, _, _, _, z⟩ := h
  exact z.elim
section
variable {k : Nat} {f : Addr} {fd : FuncData} {ps : List Str} {S : WF} {SF : WFF} {x : Str} {q pos : Pos} {e : Expr} {es : List Expr} {wm : WM}
theorem dCall (F : FnOk X.prog X.w X.K X.mg X.base (L2N.CX X.prog X.w) k f fd ps (toSp X.K n S)) (hr : Room k X.A) (hg : Gl X x) (hm : X.mg x = some (.ref f)) (hk : PySem.W.keepIn X.K (.ref f) = true) (hb : Binds X.K fd ps []) (tk : L2N.Takes X W)
    (ha : PA X (e :: es) (cM X.K W n wm)) (hdb : (x == ("__debug__" : Str)) = false := by decide) (he : starEach (e :: es) X.env = (false, eval e X.env) :: starEach es X.env := by rfl) (hpl : (backTo pos (starEach es X.env)).any (·.1) = false := by rfl) :
    PE X (.Call (.Name x q) (e :: es) [] pos) (cE X.K W (wCall S wm)) := peI (pe_callS F hr hg hm hk hb (fun σ => L2N.passAt tk σ) ha hdb he hpl) (can_call (fun _ _ _ h => h))
theorem dCall0 (F : FnOk X.prog X.w X.K X.mg X.base (L2N.CX X.prog X.w) k f fd ps (toSp X.K n S)) (hr : Room k X.A) (hg : Gl X x) (hm : X.mg x = some (.ref f)) (hk : PySem.W.keepIn X.K (.ref f) = true) (hb : Binds X.K fd ps [])
    (ha : PA X (e :: es) (cM X.K W n wm)) (hdb : (x == ("__debug__" : Str)) = false := by decide) (he : starEach (e :: es) X.env = (false, eval e X.env) :: starEach es X.env := by rfl) (hpl : (backTo pos (starEach es X.env)).any (·.1) = false := by rfl) :
    PE X (.Call (.Name x q) (e :: es) [] pos) (cE X.K W (wCall0 S wm)) := peI (pe_call F hr hg hm hk hb .nil passLN ha hdb he hpl) (can_call0 (fun _ _ _ h => h))
theorem dCallF (F : FnOk X.prog X.w X.K X.mg X.base (L2N.CX X.prog X.w) k f fd ps (toSpF X.K n SF)) (hr : Room k X.A) (hg : Gl X x) (hm : X.mg x = some (.ref f)) (hk : PySem.W.keepIn X.K (.ref f) = true) (hb : Binds X.K fd ps []) (tk : L2N.Takes X W)
    (ha : PA X (e :: es) (cM X.K W n wm)) (hdb : (x == ("__debug__" : Str)) = false := by decide) (he : starEach (e :: es) X.env = (false, eval e X.env) :: starEach es X.env := by rfl) (hpl : (backTo pos (starEach es X.env)).any (·.1) = false := by rfl) :
    PE X (.Call (.Name x q) (e :: es) [] pos) (cF X.K W (wCallF SF wm)) := peI (pe_callS F hr hg hm hk hb (fun σ => L2N.passAt tk σ) ha hdb he hpl) (can_callF (fun _ _ _ h => h))
end

/-! a def by its body -/
def finS : Option Sl → Sl
  | some (.io ds) => .io ds
  | _ => .no
def fin (n : Nat) (ρ : En) : En := (List.range n).map fun i => finS ρ[i]?
def bxOf (n : Nat) (R : RC) (E : EC) : Bx := { nx := fun ρ => R .none (fin n ρ), rt := fun d ρ => R d (fin n ρ), rs := fun c ρ => E c (fin n ρ) }
theorem start_rel {vs : List V} {ps : List Sl} {N : List Str} {β : Nat → Option Addr} (r : Rel K θ β β (vs.map some) H ps) : Rel K θ β β (L2.start N vs) H (ps ++ List.replicate (N.length - vs.length) .no) := by
  have hl : ps.length = vs.length := by rw [r.len, List.length_map]
  have hβ : ∀ i a, β i = some a → i < ps.length := fun i a q => by
    obtain ⟨s, z, _⟩ := r.dom i a q
    exact (List.getElem?_eq_some_iff.mp z).1
  refine ⟨by simp [L2.start, hl], r.inj, r.ap, r.lv, fun i a q => ?_, fun i a q => ?_, r.tb, fun i s q => ?_⟩
  · obtain ⟨s, z⟩ := r.dom i a q
    exact ⟨s, by rw [List.getElem?_append_left (hβ i a q)]; exact z.1, z.2⟩
  · obtain ⟨s, z⟩ := r.pin i a q
    exact ⟨s, by rw [List.getElem?_append_left (hβ i a q)]; exact z⟩
  · by_cases hi : i < ps.length
    · rw [List.getElem?_append_left hi] at q
      have z := r.sl i s q
      have es : (L2.start N vs)[i]? = (vs.map some)[i]? := by
        unfold L2.start
        exact List.getElem?_append_left (by rw [List.length_map, ← hl]; exact hi)
      cases s with
      | no => trivial
      | va d => obtain ⟨w, z1, z2⟩ := z; exact ⟨w, es.trans z1, z2⟩
      | ow ds => obtain ⟨a, vs, z1, z2, z3, z4⟩ := z; exact ⟨a, vs, z1, z2, es.trans z3, z4⟩
      | io ds => obtain ⟨a, vs, z1, z2, z3, z4⟩ := z; exact ⟨a, vs, z1, z2, es.trans z3, z4⟩
      | ex a => exact es.trans z
    · rw [List.getElem?_append_right (by omega)] at q
      obtain ⟨_, e⟩ := List.getElem?_eq_some_iff.mp q
      simp at e
      subst e
      trivial
/-- at a def's end: the parameters that were lent -/
theorem fin_rel {θ' : Addr → Prop} {vs : List V} {ps : List Sl} {β α' : Nat → Option Addr} {σ' : L2.St} {H' : Hp} {ρ' : En} (r : Rel K θ β β (vs.map some) H ps) (r' : Rel K θ' β α' σ' H' ρ') (s : Ex (hidS (Sof θ β) H) (hidS (Sof θ' α') H')) :
    Rel K θ' β β (vs.map some) H' (fin vs.length ρ') ∧ Ex (hidS (Sof θ β) H) (hidS (Sof θ' β) H') ∧ Ex (hidS (Sof θ' α') H') (hidS (Sof θ' β) H') := by
  have hio : ∀ i a, β i = some a → α' i = some a := fun i a h => by
    obtain ⟨ds, z⟩ := r'.pin i a h
    obtain ⟨b, xs, z1, z2, _⟩ := r'.sl i _ z
    rw [h] at z2; cases z2
    exact z1
  have hsub : ∀ b, Sof θ' β b → Sof θ' α' b := fun b h => by
    rcases h with h | ⟨i, h⟩
    · exact .inl h
    · exact .inr ⟨i, hio i b h⟩
  have hx : Ex (hidS (Sof θ' α') H') (hidS (Sof θ' β) H') := fun b o q => by
    unfold hidS at q ⊢
    split at q
    · cases q
    · rename_i h
      rw [if_neg (fun z => h (hsub b z))]
      exact q
  have hl : ps.length = vs.length := by rw [r.len, List.length_map]
  have hβ : ∀ i a, β i = some a → i < vs.length := fun i a q => by
    obtain ⟨s, z, _⟩ := r.dom i a q
    have := (List.getElem?_eq_some_iff.mp z).1
    omega
  have hf : ∀ i, i < vs.length → (fin vs.length ρ')[i]? = some (finS ρ'[i]?) := fun i hi => by
    unfold fin
    rw [List.getElem?_map, List.getElem?_range hi]
    rfl
  refine ⟨⟨?_, r.inj, fun i a h => r'.ap i a (hio i a h), fun b h => r'.lv b h, fun i a q => ?_, fun i a q => ?_, r'.tb, fun i s q => ?_⟩, s.trans hx, hx⟩
  · unfold fin
    rw [List.length_map, List.length_range, List.length_map]
  · obtain ⟨ds, z⟩ := r'.pin i a q
    exact ⟨.io ds, by rw [hf i (hβ i a q), z]; rfl, trivial⟩
  · obtain ⟨ds, z⟩ := r'.pin i a q
    exact ⟨ds, by rw [hf i (hβ i a q), z]; rfl⟩
  · have hi : i < vs.length := by
      have := (List.getElem?_eq_some_iff.mp q).1
      unfold fin at this
      rw [List.length_map, List.length_range] at this
      exact this
    rw [hf i hi] at q
    cases q
    cases e : ρ'[i]? with
    | none => trivial
    | some s0 =>
      cases s0 with
      | io ds =>
        obtain ⟨a, xs, z1, z2, z3, z4, z5⟩ := r'.sl i _ e
        obtain ⟨s2, y, y0⟩ := r.dom i a z2
        obtain ⟨es, y⟩ := r.pin i a z2
        obtain ⟨b, ys, y1, y2, y3, y4, y5⟩ := r.sl i _ y
        rw [z2] at y1; cases y1
        exact ⟨a, xs, z2, z2, y3, z4, dpA_mono hx z5⟩
      | no => trivial
      | va d => trivial
      | ow ds => trivial
      | ex a => trivial
def bxF (n : Nat) (R : List D → En → Prop) (E : EC) : Bx := { nx := fun _ => False, rt := fun _ _ => False, rf := fun d ρ => R d (fin n ρ), rs := fun c ρ => E c (fin n ρ) }
theorem fnF {x qual : Str} {st : Stmt} {f : Addr} {fd : FuncData} {N ps : List Str} {k : Nat} {P : Program} {w : World} {mg : Str → Option Value} {base : Heap} {S : WFF} {wb : WS} (F : Fun K x qual st f fd) (Sc : FnScope N ps (defScope st))
    (hb : ∀ (cdv : Value) (A : Around) (outer : List Env) (s : Shared) (H : Hp) (E : XK), Room k (A.deeper (envOfC qual (defScope st) s.heap.objs.size f cdv)) →
      PSs (cxOf (L2N.CX P w) P w K mg base N qual (defScope st) f cdv A outer s H E) (defBody st) (cS K (fun cls d _ H => E cls d H) wb))
    (hw : ∀ pr R E, S pr R E → wb (bxF ps.length R E) (pr ++ List.replicate (N.length - ps.length) .no)) : FnOk P w K mg base (L2N.CX P w) (k + 1) f fd ps (toSpF K ps.length S) := by
  obtain ⟨oc, od, kV, doc, pm, an, cdv, ct, osl, rfl, lk, hcd⟩ := F.ex
  refine fn_of lk hcd Sc (fun vs H Q E ⟨_, _, _, _, _, h, _⟩ => h) fun A outer s H vs Q E hr hsp => ⟨_, hb cdv A outer s H E hr, ?_⟩
  obtain ⟨θ, β, pr, R, E', hl, r, hS, hq, he⟩ := hsp
  have e := hw pr R E' hS
  rw [← hl] at e
  refine ⟨θ, β, β, _, _, start_rel r, e, ⟨fun _ _ _ _ _ _ h => h.elim, fun _ _ _ _ _ _ h => h.elim, fun _ _ _ _ _ _ h => h.elim, fun _ _ _ _ _ _ _ _ _ h => h.elim, fun α' σ' p xs H' ds ρ' r' s' np h1 dp h => ?_, fun α' σ' H' c ρ' r' s' h => ?_⟩⟩
  · obtain ⟨r2, x1, x2⟩ := fin_rel r r' s'.1
    exact hq p xs H' ds _ r2 x1 s'.2 np h1 (dpA_mono x2 dp) h
  · obtain ⟨r2, x1, x2⟩ := fin_rel r r' s'.1
    exact he H' c _ r2 x1 s'.2 h
theorem fnS {x qual : Str} {st : Stmt} {f : Addr} {fd : FuncData} {N ps : List Str} {k : Nat} {P : Program} {w : World} {mg : Str → Option Value} {base : Heap} {S : WF} {wb : WS} (F : Fun K x qual st f fd) (Sc : FnScope N ps (defScope st))
    (hb : ∀ (cdv : Value) (A : Around) (outer : List Env) (s : Shared) (H : Hp) (E : XK), Room k (A.deeper (envOfC qual (defScope st) s.heap.objs.size f cdv)) →
      PSs (cxOf (L2N.CX P w) P w K mg base N qual (defScope st) f cdv A outer s H E) (defBody st) (cS K (fun cls d _ H => E cls d H) wb))
    (hw : ∀ pr R E, S pr R E → wb (bxOf ps.length R E) (pr ++ List.replicate (N.length - ps.length) .no)) : FnOk P w K mg base (L2N.CX P w) (k + 1) f fd ps (toSp K ps.length S) := by
  obtain ⟨oc, od, kV, doc, pm, an, cdv, ct, osl, rfl, lk, hcd⟩ := F.ex
  refine fn_of lk hcd Sc (fun vs H Q E ⟨_, _, _, _, _, h, _⟩ => h) fun A outer s H vs Q E hr hsp => ⟨_, hb cdv A outer s H E hr, ?_⟩
  obtain ⟨θ, β, pr, R, E', hl, r, hS, hq, he⟩ := hsp
  have e := hw pr R E' hS
  rw [← hl] at e
  refine ⟨θ, β, β, _, _, start_rel r, e, ⟨fun α' σ' H' ρ' r' s' h => ?_, fun _ _ _ _ _ _ h => h.elim, fun _ _ _ _ _ _ h => h.elim, fun α' σ' H' v d ρ' r' s' p h => ?_, fun α' σ' p xs H' ds ρ' r' s' np h1 dp h => ?_, fun α' σ' H' c ρ' r' s' h => ?_⟩⟩
  · obtain ⟨r2, x1, x2⟩ := fin_rel r r' s'.1
    exact hq .non H' .none _ r2 x1 s'.2 .non h
  · obtain ⟨r2, x1, x2⟩ := fin_rel r r' s'.1
    exact hq v H' d _ r2 x1 s'.2 (dp_mono x2 p) h
  · exact h.elim
  · obtain ⟨r2, x1, x2⟩ := fin_rel r r' s'.1
    exact he H' c _ r2 x1 s'.2 h

/-! raise, try -/
theorem Rel.putS {i : Nat} {x : Option V} {s : Sl} (r : Rel K θ π α σ H ρ) (hi : i < ρ.length) (hn : ∀ ds, ρ[i]? ≠ some (.io ds)) (hs : match s with | .no => True | .ex a => x = some (.ref a) | _ => False) :
    ∃ α', Rel K θ π α' (σ.set i x) H (ρ.set i s) ∧ Stp θ α H α' H := by
  have hπ : π i = none := by
    cases q : π i with
    | none => rfl
    | some a => obtain ⟨ds, z⟩ := r.pin i a q; exact absurd z (hn ds)
  have hx : Ex (hidS (Sof θ α) H) (hidS (Sof θ (fun k => if k = i then none else α k)) H) := fun b o q => by
    unfold hidS at q ⊢
    split at q
    · cases q
    · rename_i hh
      rw [if_neg]
      · exact q
      · rintro (z | ⟨k, z⟩)
        · exact hh (.inl z)
        · by_cases e : k = i
          · subst e; simp at z
          · exact hh (.inr ⟨k, by simpa [e] using z⟩)
  refine ⟨fun k => if k = i then none else α k, ⟨by simpa using r.len, fun k l b q1 q2 => ?_, fun k b q => ?_, r.lv, fun k b q => ?_, fun k b q => ?_, r.tb, fun k s' q => ?_⟩, ⟨hx, fun _ _ => FrO.refl _⟩⟩
  · by_cases e1 : k = i
    · subst e1; simp at q1
    · by_cases e2 : l = i
      · subst e2; simp at q2
      · exact r.inj k l b (by simpa [e1] using q1) (by simpa [e2] using q2)
  · by_cases e1 : k = i
    · subst e1; simp at q
    · exact r.ap k b (by simpa [e1] using q)
  · by_cases e1 : k = i
    · subst e1; simp at q
    · obtain ⟨s, z1, z2⟩ := r.dom k b (by simpa [e1] using q)
      exact ⟨s, by rw [List.getElem?_set_ne (Ne.symm e1)]; exact z1, z2⟩
  · have e1 : k ≠ i := fun z => by subst z; rw [hπ] at q; cases q
    obtain ⟨es, z⟩ := r.pin k b q
    exact ⟨es, by rw [List.getElem?_set_ne (Ne.symm e1)]; exact z⟩
  · by_cases e1 : k = i
    · subst e1
      rw [List.getElem?_set_self hi] at q
      cases q
      cases s with
      | no => trivial
      | ex a => exact (List.getElem?_set_self (by rw [← r.len]; exact hi)).trans (by rw [hs])
      | va d => exact hs.elim
      | ow ds => exact hs.elim
      | io ds => exact hs.elim
    · rw [List.getElem?_set_ne (Ne.symm e1)] at q
      have z := (r.sl k s' q).re (θ' := θ) (α' := fun k => if k = i then none else α k) (H' := H) (by simp [e1]) hx fun _ _ _ z => z
      have es : (σ.set i x)[k]? = σ[k]? := List.getElem?_set_ne (Ne.symm e1)
      cases s' with
      | no => trivial
      | va d => obtain ⟨w, z1, z2⟩ := z; exact ⟨w, es.trans z1, z2⟩
      | ow ds => obtain ⟨a, vs, z1, z2, z3, z4⟩ := z; exact ⟨a, vs, z1, z2, es.trans z3, z4⟩
      | io ds => obtain ⟨a, vs, z1, z2, z3, z4⟩ := z; exact ⟨a, vs, z1, z2, es.trans z3, z4⟩
      | ex a => exact es.trans z
abbrev WNo : WX := fun _ _ _ _ => False
def sufB (i : Nat) (B : Bx) : Bx := { nx := fun ρ => asgV i .no ρ B.nx, rt := B.rt, rf := B.rf, bk := fun ρ => asgV i .no ρ B.bk, ct := fun ρ => asgV i .no ρ B.ct, rs := NoE }
def wTry (cat : Addr → Option Bool) (i : Nat) (wb : WS) (ws : Addr → Addr → WS) : WS := fun B ρ => wb { B with rs := fun c ρ' => match cat c with
  | some true => ∀ a, asgV i (.ex a) ρ' fun ρ2 => ws a c (sufB i B) ρ2
  | some false => B.rs c ρ'
  | none => False } ρ
theorem dTry {cat : Addr → Option Bool} {cv : Value} {i : Nat} {s : Stmt} {wb : WS} {ws : Addr → Addr → WS} (hcat : ∀ c b, cat c = some b → PySem.W.exmOne K (.ref c) cv = some b)
    (h : PS X s (fun D σ H => (fun W' => cS K W' wb) (wAs K cv i (fun a cls d => fun D σ H => ∃ c, cls = .ref c ∧ d = none ∧ cS K WNo (ws a c) D σ H) W D) D σ H)) : PS X s (cS K W (wTry cat i wb ws)) := psI h fun De σ H ⟨θ, π, α, ρ, B, hR, hw, hf⟩ => by
  refine ⟨θ, π, α, ρ, _, hR, hw, ⟨hf.nx, hf.bk, hf.ct, hf.rt, hf.rf, fun α' σ' H' c ρ' r s' q => ?_⟩⟩
  dsimp only at q
  cases e : cat c with
  | none => rw [e] at q; exact q.elim
  | some b =>
    rw [e] at q
    refine ⟨b, hcat c b e, fun hb a ha => ?_, fun hb => ?_⟩
    · subst hb
      refine ⟨c, rfl, rfl, ?_⟩
      obtain ⟨a1, a2, a3⟩ := asgV_of (q a)
      obtain ⟨α2, r2, s2⟩ := r.putS (x := some (.ref a)) (s := .ex a) a1 a2 rfl
      have s3 := s'.trans s2
      refine ⟨θ, π, α2, _, _, r2, a3, ⟨fun α4 σ4 H4 ρ4 r4 s4 q4 => ?_, fun α4 σ4 H4 ρ4 r4 s4 q4 => ?_, fun α4 σ4 H4 ρ4 r4 s4 q4 => ?_, (hf.step s3).rt, (hf.step s3).rf, fun _ _ _ _ _ _ _ z => z⟩⟩
      · obtain ⟨b1, b2, b3⟩ := asgV_of q4
        obtain ⟨α5, r5, s5⟩ := r4.putS (x := none) (s := .no) b1 b2 trivial
        exact hf.nx α5 _ H4 _ r5 ((s3.trans s4).trans s5) b3
      · obtain ⟨b1, b2, b3⟩ := asgV_of q4
        obtain ⟨α5, r5, s5⟩ := r4.putS (x := none) (s := .no) b1 b2 trivial
        exact hf.bk α5 _ H4 _ r5 ((s3.trans s4).trans s5) b3
      · obtain ⟨b1, b2, b3⟩ := asgV_of q4
        obtain ⟨α5, r5, s5⟩ := r4.putS (x := none) (s := .no) b1 b2 trivial
        exact hf.ct α5 _ H4 _ r5 ((s3.trans s4).trans s5) b3
    · subst hb
      exact hf.rs α' σ' H' c ρ' r s' q
end
end Den

namespace Den
variable [Tbs]
open PySem L2 Evl PySem.Spec PyProof.Rows
open Classical
section
variable {K : PySem.W.Frag} {W : WX} {X : Cx} {S : Addr → Prop} {H : Hp} {n : Nat}

/-! + -/
def rCatL (K : PySem.W.Frag) : R2 := fun x y H Q => ∃ a b xs ys, x = .ref a ∧ y = .ref b ∧ SqL K H a xs ∧ SqL K H b ys ∧ xs.length + ys.length ≤ sizeLine ∧ ∀ p, H p = none → Q (.ref p) (upd H p (.lst (xs ++ ys)))
theorem op_catL : OpR X (binaryOp .Add) (rCatL X.K) := by
  intro pins s σ H x y v u Q I rx ry h
  obtain ⟨a, b, xs, ys, rfl, rfl, ha, hb, hz, q⟩ := h
  cases rx
  cases ry
  obtain ⟨its, r, ⟨⟨cls, dd, data, sl⟩, n, ho, hc, hdd, hd⟩, _⟩ := I.list ha
  obtain ⟨its2, r2, ⟨⟨cls2, dd2, data2, sl2⟩, n2, ho2, hc2, hdd2, hd2⟩, _⟩ := I.list hb
  simp only at hc hd hc2 hd2
  subst hc hd hc2 hd2
  have hz' : its.toArray.size + its2.toArray.size ≤ sizeLine := by rw [List.size_toArray, List.size_toArray, ← r.length, ← r2.length]; exact hz
  have e : its.toArray ++ its2.toArray = (its ++ its2).toArray := by simp
  refine concat_meets ⟨_, ho, rfl⟩ ⟨_, ho2, rfl⟩ noFill_list_add seq_list_add PySem.F.slot_list_add PySem.F.entry_list_add (PySem.F.args_list_add_2 _ _) (list_addW a b its.toArray its2.toArray n n2 dd dd2 sl sl2 hz') ⟨ho, ho2, ?_⟩
  rw [e]
  exact ⟨.ref _, _, I.lnew (t' := s.toks) (r.append r2) (by rw [List.length_append]; omega), rfl, q _ I.fresh⟩
def rStrAdd : R2 := fun x y H Q => ∃ i j, x = .str i ∧ y = .str j ∧ i.length + j.length ≤ sizeLine ∧ Q (.str (i ++ j)) H
def rAdd' (K : PySem.W.Frag) : R2 := fun x y H Q => rI0 (fun i j => .int (i + j)) x y H Q ∨ rStrAdd x y H Q ∨ rCatL K x y H Q ∨ rCatA K x y H Q
theorem op_addA : OpR X (binaryOp .Add) (rAdd' X.K) := op_add.or (op_add_str.or (op_catL.or op_catA))
def fAdd (d e : D) (k : D → Prop) : Prop := match d, e with
  | .int i, .int j => k (.int (i + j))
  | .str x, .str y => x.length + y.length ≤ sizeLine ∧ k (.str (x ++ y))
  | .list xs, .list ys => xs.length + ys.length ≤ sizeLine ∧ k (.list (xs ++ ys))
  | .tuple xs, .tuple ys => xs.length + ys.length ≤ sizeLine ∧ k (.tuple (xs ++ ys))
  | _, _ => False
theorem dpA_nil {G : Hp} {vs : List V} (h : DpAll K G vs []) : vs = [] := by cases h; rfl
theorem dpA_nil' {G : Hp} {ds : List D} (h : DpAll K G [] ds) : ds = [] := by cases h; rfl
theorem sr_add : SR K (rAdd' K) fAdd := by
  intro S H x y d e Q R lv hx hy hf q
  unfold fAdd at hf
  split at hf
  · cases hx.int; cases hy.int
    exact .inl ⟨_, _, rfl, rfl, q _ H _ (Ex.refl _) (.int _) hf⟩
  · cases hx.str; cases hy.str
    exact .inr (.inl ⟨_, _, rfl, rfl, hf.1, q _ H _ (Ex.refl _) (.str _) hf.2⟩)
  · obtain ⟨a, vs, rfl, h1, h2⟩ := hx.lst
    obtain ⟨b, ws, rfl, h3, h4⟩ := hy.lst
    exact .inr (.inr (.inl ⟨a, b, vs, ws, rfl, rfl, h1, h3, by rw [dpA_len h2, dpA_len h4]; exact hf.1, fun p hp => q _ _ _ (Ex.new hp) (new_lst lv hp (dpA_app h2 h4)) hf.2⟩))
  · rename_i xs ys
    obtain ⟨a, vs, rfl, h1, h2⟩ := hx.tup
    obtain ⟨b, ws, rfl, h3, h4⟩ := hy.tup
    refine .inr (.inr (.inr ⟨a, b, vs, ws, rfl, rfl, h1, h3, by rw [dpA_len h2, dpA_len h4]; exact hf.1, fun e => ?_, fun _ e => ?_, fun _ _ p hp => q _ _ _ (Ex.new hp) (new_tup lv hp (dpA_app h2 h4)) hf.2⟩))
    · subst e
      cases dpA_nil' h2
      have hf2 := hf.2
      rw [List.nil_append] at hf2
      cases hy with
      | val h => exact q _ H _ (Ex.refl _) h hf2
    · subst e
      cases dpA_nil' h4
      have hf2 := hf.2
      rw [List.append_nil] at hf2
      cases hx with
      | val h => exact q _ H _ (Ex.refl _) h hf2
  · exact hf.elim

/-! whole numbers -/
def f2I (C : Int → Int → Prop) (g : Int → Int → D) (d e : D) (k : D → Prop) : Prop := match d, e with
  | .int i, .int j => C i j ∧ k (g i j)
  | _, _ => False
def f2i (g : Int → Int → D) (d e : D) (k : D → Prop) : Prop := match d, e with
  | .int i, .int j => k (g i j)
  | _, _ => False
theorem sr_I {C : Int → Int → Prop} {g : Int → Int → V} {g' : Int → Int → D} (hg : ∀ i j G, Dp K G (g i j) (g' i j)) : SR K (rI C g) (f2I C g') := by
  intro S H x y d e Q R lv hx hy hf q
  unfold f2I at hf
  split at hf
  · cases hx.int; cases hy.int
    exact ⟨_, _, rfl, rfl, hf.1, q _ H _ (Ex.refl _) (hg _ _ _) hf.2⟩
  · exact hf.elim
theorem sr_i {g : Int → Int → V} {g' : Int → Int → D} (hg : ∀ i j G, Dp K G (g i j) (g' i j)) : SR K (rI0 g) (f2i g') := by
  intro S H x y d e Q R lv hx hy hf q
  unfold f2i at hf
  split at hf
  · cases hx.int; cases hy.int
    exact ⟨_, _, rfl, rfl, q _ H _ (Ex.refl _) (hg _ _ _) hf⟩
  · exact hf.elim
abbrev fSub := f2i fun i j => .int (i - j)
theorem sr_sub : SR K (rI0 fun i j => .int (i - j)) fSub := sr_i fun _ _ _ => .int _
abbrev fMul := f2I CMulX fun i j => .int (i * j)
theorem sr_mul : SR K (rI CMulX fun i j => .int (i * j)) fMul := sr_I fun _ _ _ => .int _
def CDivA (_ j : Int) : Prop := j ≠ 0 ∧ j.natAbs.log2 < 9000
theorem op_fdivA : OpR X (binaryOp .FloorDiv) (rI CDivA fun i j => .int (i.fdiv j)) := opI fun _ _ _ _ _ _ _ hc q => floordiv_int hc.1 q (.inl (PyProof.noPylong_of_log2 hc.2))
abbrev fDiv := f2I CDivA fun i j => .int (i.fdiv j)
theorem sr_div : SR K (rI CDivA fun i j => .int (i.fdiv j)) fDiv := sr_I fun _ _ _ => .int _
abbrev fMod := f2I (fun _ j => j ≠ 0) fun i j => .int (i.fmod j)
theorem sr_mod : SR K (rI (fun _ j => j ≠ 0) fun i j => .int (i.fmod j)) fMod := sr_I fun _ _ _ => .int _
abbrev fPow := f2I CPow fun i j => .int (i ^ j.toNat)
theorem sr_pow : SR K (rI CPow fun i j => .int (i ^ j.toNat)) fPow := sr_I fun _ _ _ => .int _
abbrev fShl := f2I CShl fun i j => .int (i * 2 ^ j.toNat)
theorem sr_shl : SR K (rI CShl fun i j => .int (i * 2 ^ j.toNat)) fShl := sr_I fun _ _ _ => .int _
abbrev fShr := f2I (fun _ j => 0 ≤ j) fun i j => .int (i / 2 ^ j.toNat)
theorem sr_shr : SR K (rI (fun _ j => 0 ≤ j) fun i j => .int (i / 2 ^ j.toNat)) fShr := sr_I fun _ _ _ => .int _
abbrev fBand := f2i fun i j => .int (Builtin.bitAnd i j)
theorem sr_band : SR K (rI0 fun i j => .int (Builtin.bitAnd i j)) fBand := sr_i fun _ _ _ => .int _
abbrev fBor := f2i fun i j => .int (Builtin.bitOr i j)
theorem sr_bor : SR K (rI0 fun i j => .int (Builtin.bitOr i j)) fBor := sr_i fun _ _ _ => .int _
abbrev fBxor := f2i fun i j => .int (Builtin.bitXor i j)
theorem sr_bxor : SR K (rI0 fun i j => .int (Builtin.bitXor i j)) fBxor := sr_i fun _ _ _ => .int _
def fNeg (d : D) (k : D → Prop) : Prop := match d with
  | .int i => k (.int (-i))
  | _ => False
theorem su_neg : SU K (rU fun i => .int (-i)) fNeg := by
  intro S H x d Q R lv hx hf q
  unfold fNeg at hf
  split at hf
  · cases hx.int; exact ⟨_, rfl, q _ H _ (Ex.refl _) (.int _) hf⟩
  · exact hf.elim

/-! comparisons -/
abbrev fLt := f2i fun i j => .bool (decide (i < j))
theorem sr_lt : SR K (rI0 fun i j => .bl (decide (i < j))) fLt := sr_i fun _ _ _ => .bl _
abbrev fLe := f2i fun i j => .bool (decide (i ≤ j))
theorem sr_le : SR K (rI0 fun i j => .bl (decide (i ≤ j))) fLe := sr_i fun _ _ _ => .bl _
abbrev fGt := f2i fun i j => .bool (decide (j < i))
theorem sr_gt : SR K (rI0 fun i j => .bl (decide (j < i))) fGt := sr_i fun _ _ _ => .bl _
abbrev fGe := f2i fun i j => .bool (decide (j ≤ i))
theorem sr_ge : SR K (rI0 fun i j => .bl (decide (j ≤ i))) fGe := sr_i fun _ _ _ => .bl _
def rEqA (K : PySem.W.Frag) : R2 := fun x y H Q => rEq x y H Q ∨ rEqD K x y H Q
def rNeA (K : PySem.W.Frag) : R2 := fun x y H Q => rNe x y H Q ∨ rNeD K x y H Q
theorem op_eqA (hu : X.A.units + 64 < cLine) : OpR X (compareOp .Eq) (rEqA X.K) := op_eq.or (op_eqD hu)
theorem op_neA (hu : X.A.units + 64 < cLine) : OpR X (compareOp .NotEq) (rNeA X.K) := op_ne.or (op_neD hu)
def fEq (d e : D) (k : D → Prop) : Prop := match d, e with
  | .int i, .int j => k (.bool (decide (i = j)))
  | .str i, .str j => k (.bool (decide (i = j)))
  | d, e => SeqAt.shaped d = true ∧ SeqAt.shaped e = true ∧ k (.bool (PyData.eqv d e))
def fNe (d e : D) (k : D → Prop) : Prop := match d, e with
  | .int i, .int j => k (.bool (!decide (i = j)))
  | .str i, .str j => k (.bool (!decide (i = j)))
  | d, e => SeqAt.shaped d = true ∧ SeqAt.shaped e = true ∧ k (.bool (!PyData.eqv d e))
theorem sr_eq : SR K (rEqA K) fEq := by
  intro S H x y d e Q R lv hx hy hf q
  unfold fEq at hf
  split at hf
  · cases hx.int; cases hy.int
    exact .inl ⟨rfl, by rw [dec_int]; exact q _ H _ (Ex.refl _) (by rw [Bool.beq_eq_decide_eq]; exact .bl _) hf⟩
  · cases hx.str; cases hy.str
    exact .inl ⟨rfl, by rw [dec_str]; exact q _ H _ (Ex.refl _) (by rw [Bool.beq_eq_decide_eq]; exact .bl _) hf⟩
  · exact .inr ⟨_, _, hx.full, hy.full, hf.1, hf.2.1, q _ H _ (Ex.refl _) (.bl _) hf.2.2⟩
theorem sr_ne : SR K (rNeA K) fNe := by
  intro S H x y d e Q R lv hx hy hf q
  unfold fNe at hf
  split at hf
  · cases hx.int; cases hy.int
    exact .inl ⟨rfl, by rw [dec_int]; exact q _ H _ (Ex.refl _) (by rw [Bool.beq_eq_decide_eq]; exact .bl _) hf⟩
  · cases hx.str; cases hy.str
    exact .inl ⟨rfl, by rw [dec_str]; exact q _ H _ (Ex.refl _) (by rw [Bool.beq_eq_decide_eq]; exact .bl _) hf⟩
  · exact .inr ⟨_, _, hx.full, hy.full, hf.1, hf.2.1, q _ H _ (Ex.refl _) (.bl _) hf.2.2⟩
def fIsB (d e : D) (k : D → Prop) : Prop := match d, e with
  | .bool i, .bool j => k (.bool (decide (i = j)))
  | _, _ => False
def fNotB (d e : D) (k : D → Prop) : Prop := match d, e with
  | .bool i, .bool j => k (.bool (!decide (i = j)))
  | _, _ => False
theorem sr_isB : SR K rIsB fIsB := by
  intro S H x y d e Q R lv hx hy hf q
  unfold fIsB at hf
  split at hf
  · cases hx.bl; cases hy.bl; exact ⟨_, _, rfl, rfl, q _ H _ (Ex.refl _) (.bl _) hf⟩
  · exact hf.elim
theorem sr_notB : SR K rNotB fNotB := by
  intro S H x y d e Q R lv hx hy hf q
  unfold fNotB at hf
  split at hf
  · cases hx.bl; cases hy.bl; exact ⟨_, _, rfl, rfl, q _ H _ (Ex.refl _) (.bl _) hf⟩
  · exact hf.elim
/-- a < b < c -/
def wChain (f f' : D → D → (D → Prop) → Prop) (wa wb wc : WL) : WE := fun ρ R E => wa ρ (fun La ρ1 => wb ρ1 (fun Lb ρ2 => ∃ d e, La ρ2 d ∧ Lb ρ2 e ∧ f d e (fun z => ∃ k, z = .bool k ∧
  if k = true then wc ρ2 (fun Lc ρ3 => ∃ e' g, Lb ρ3 e' ∧ Lc ρ3 g ∧ f' e' g (fun z => R z ρ3)) E else R (.bool false) ρ2)) E) E
theorem can_chain {r r' : R2} {f f' : D → D → (D → Prop) → Prop} (hr : SR K r f) (hr' : SR K r' f') {wa wb wc : WL} (σ : L2.St) (H : Hp) (Q : VK) : cE K W (wChain f f' wa wb wc) σ H Q → tChain r r' (cL K W wa) (cL K W wb) (cL K W wc) σ H Q := by
  rintro ⟨θ, π, α, ρ, R, E, hR, hw, hq, he⟩
  refine ⟨θ, π, α, ρ, _, E, hR, hw, fun α1 v1 H1 L1 ρ1 R1 s1 l1 w1 => ?_, he⟩
  refine ⟨θ, π, α1, ρ1, _, E, R1, w1, fun α2 v2 H2 L2 ρ2 R2 s2 l2 w2 => ?_, he.step s1⟩
  obtain ⟨d, e, hd, he', hf⟩ := w2
  refine hr _ H2 _ _ d e _ _ R2.live (l1 α2 H2 ρ2 R2 s2 d hd) (l2 α2 H2 ρ2 R2 (Stp.refl ..) e he') hf fun v H' c ex dp rc => ?_
  obtain ⟨k, rfl, rc⟩ := rc
  refine ⟨k, dp_b dp, ?_⟩
  have Rx := R2.ext ex
  have sx := (s1.trans s2).trans (R2.stp ex)
  cases k with
  | true =>
    rw [if_pos rfl] at rc
    refine iteT ?_
    refine ⟨θ, π, α2, ρ2, _, E, Rx, rc, fun α3 v3 H3 L3 ρ3 R3 s3 l3 w3 => ?_, he.step sx⟩
    obtain ⟨e', g, h1, h2, h3⟩ := w3
    exact hr' _ H3 _ _ e' g Q _ R3.live (l2 α3 H3 ρ3 R3 ((R2.stp ex).trans s3) e' h1) (l3 α3 H3 ρ3 R3 (Stp.refl ..) g h2) h3 fun v' H4 c' ex' dp' rc' => hq α3 v' H4 c' ρ3 (R3.ext ex') ((sx.trans s3).trans (R3.stp ex')) dp' rc'
  | false =>
    rw [if_neg Bool.false_ne_true] at rc
    refine iteF ?_
    exact hq α2 _ H' _ ρ2 Rx sx (.bl _) rc
theorem dChain {op op' : CmpOp} {r r' : R2} {f f' : D → D → (D → Prop) → Prop} {a b c : Expr} {pos : Pos} {wa wb wc : WL} (ho : OpR X (compareOp op) r) (ho' : OpR X (compareOp op') r') (hr : SR K r f) (hr' : SR K r' f') (ha : PE X a (cL K W wa)) (hb : PE X b (cL K W wb)) (hc : PE X c (cL K W wc))
    (hm : lastMarks [op, op'] [b, c] = false := by with_unfolding_all rfl) : PE X (.Compare a [op, op'] [b, c] pos) (cE K W (wChain f f' wa wb wc)) := peI (pe_chain ho ho' ha hb hc hm) (can_chain hr hr')
theorem dTchain {op op' : CmpOp} {r r' : R2} {f f' : D → D → (D → Prop) → Prop} {a b c : Expr} {pos : Pos} {wa wb wc : WL} (ho : OpR X (compareOp op) r) (ho' : OpR X (compareOp op') r') (hr : SR K r f) (hr' : SR K r' f') (ha : PE X a (cL K W wa)) (hb : PE X b (cL K W wb)) (hc : PE X c (cL K W wc))
    (hm : lastMarks [op, op'] [b, c] = false := by with_unfolding_all rfl) : PT X (.Compare a [op, op'] [b, c] pos) (cT K W (wTb (wChain f f' wa wb wc))) :=
  ptI (pt_chain ho ho' ha hb hc hm) fun σ H Q q => can_chain hr hr' σ H _ (can_tb σ H Q q)

/-! subscripts -/
theorem ixN_len {α β : Type} {xs : List α} {ys : List β} {i : Int} (h : xs.length = ys.length) : ixN xs.length i = ixN ys.length i := by rw [h]
theorem dpA_at {G : Hp} {vs : List V} {ds : List D} {i : Int} {d : D} (h : DpAll K G vs ds) (hd : atI ds i = some d) : ∃ v, atI vs i = some v ∧ Dp K G v d := by
  unfold atI at hd ⊢
  rw [dpA_len h]
  cases q : ixN ds.length i with
  | none => rw [q] at hd; cases hd
  | some j =>
    rw [q] at hd
    exact dpA_get h hd
def fIx (d e : D) (k : D → Prop) : Prop := match d, e with
  | .list ds, .int i => ∃ x, atI ds i = some x ∧ k x
  | .tuple ds, .int i => ∃ x, atI ds i = some x ∧ k x
  | .str z, .int i => z.length ≤ sizeLine ∧ ∃ c, atI z.cps.toList i = some c ∧ k (.str ⟨#[c]⟩)
  | _, _ => False
theorem sr_ix : SR K (rIx K) fIx := by
  intro S H x y d e Q R lv hx hy hf q
  unfold fIx at hf
  split at hf
  · obtain ⟨c, hc, hf⟩ := hf
    obtain ⟨a, vs, rfl, h1, h2⟩ := hx.lst
    cases hy.int
    obtain ⟨v, h3, h4⟩ := dpA_at h2 hc
    exact .inl ⟨a, vs, _, v, rfl, rfl, h1, h3, q _ H _ (Ex.refl _) h4 hf⟩
  · obtain ⟨c, hc, hf⟩ := hf
    obtain ⟨a, vs, rfl, h1, h2⟩ := hx.tup
    cases hy.int
    obtain ⟨v, h3, h4⟩ := dpA_at h2 hc
    exact .inr (.inl ⟨a, vs, _, v, rfl, rfl, h1, h3, q _ H _ (Ex.refl _) h4 hf⟩)
  · obtain ⟨hz, c, hc, hf⟩ := hf
    cases hx.str; cases hy.int
    exact .inr (.inr ⟨_, _, c, rfl, rfl, hz, hc, q _ H _ (Ex.refl _) (.str _) hf⟩)
  · exact hf.elim

/-! slices -/
def wpNo : WO := fun ρ R _ => R none ρ
def wpAt (w : WE) : WO := fun ρ R E => w ρ (fun d ρ' => ∃ i, d = .int i ∧ R (some i) ρ') E
theorem dpNo : PO X none (cO K W wpNo) := poI po_none fun σ H Q ⟨θ, π, α, ρ, R, E, hR, hw, hq, he⟩ => hq α H none ρ hR (Stp.refl ..) hw
theorem dpAt {e : Expr} {w : WE} (h : PE X e (cE K W w)) : PO X (some e) (cO K W (wpAt w)) := poI (po_some h) fun σ H Q ⟨θ, π, α, ρ, R, E, hR, hw, hq, he⟩ =>
  ⟨θ, π, α, ρ, _, E, hR, hw, fun α1 v H1 d ρ1 R1 s1 p1 w1 => by
    obtain ⟨i, rfl, w1⟩ := w1
    exact ⟨i, dp_int p1, hq α1 H1 _ ρ1 R1 s1 w1⟩, he⟩
def cutG {α : Type} (xs : List α) (lo hi : Option Int) : List α := (xs.drop (HT.sIx xs.length 0 lo)).take (HT.sIx xs.length xs.length hi - HT.sIx xs.length 0 lo)
theorem dpA_drop {G : Hp} : ∀ {vs : List V} {ds : List D} (n : Nat), DpAll K G vs ds → DpAll K G (vs.drop n) (ds.drop n)
  | _, _, 0, h => h
  | _, _, _ + 1, .nil => .nil
  | _, _, n + 1, .cons _ hs => dpA_drop n hs
theorem dpA_take {G : Hp} : ∀ {vs : List V} {ds : List D} (n : Nat), DpAll K G vs ds → DpAll K G (vs.take n) (ds.take n)
  | _, _, 0, _ => .nil
  | _, _, _ + 1, .nil => .nil
  | _, _, n + 1, .cons h hs => .cons h (dpA_take n hs)
theorem dpA_cut {G : Hp} {vs : List V} {ds : List D} {lo hi : Option Int} (h : DpAll K G vs ds) : DpAll K G (cutV vs lo hi) (cutG ds lo hi) := by
  unfold cutV cutG
  rw [dpA_len h]
  exact dpA_take _ (dpA_drop _ h)
/-- a list's slice, new -/
def wSlL (w : WL) (wl wh : WO) : WA := fun ρ R E => w ρ (fun L ρ1 => wl ρ1 (fun lo ρ2 => wh ρ2 (fun hi ρ3 => ∃ ds, L ρ3 (.list ds) ∧ R (cutG ds lo hi) ρ3) E) E) E
theorem dSlL {e : Expr} {lo hi : Option Expr} {p2 pos : Pos} {w : WL} {wl wh : WO} (h : PE X e (cL X.K W w)) (hl : PO X lo (cO X.K W wl)) (hh : PO X hi (cO X.K W wh)) : PE X (.Subscript e (.Slice lo hi none p2) pos) (cF X.K W (wSlL w wl wh)) :=
  peI (pe_slice sl_list h hl hh) fun σ H Q => by
    rintro ⟨θ, π, α, ρ, R, E, hR, hw, hq, he⟩
    refine ⟨θ, π, α, ρ, _, E, hR, hw, fun α1 v1 H1 L1 ρ1 R1 s1 l1 w1 => ?_, he⟩
    refine ⟨θ, π, α1, ρ1, _, E, R1, w1, fun α2 H2 lo ρ2 R2 s2 w2 => ?_, he.step s1⟩
    refine ⟨θ, π, α2, ρ2, _, E, R2, w2, fun α3 H3 hi ρ3 R3 s3 w3 => ?_, he.step (s1.trans s2)⟩
    obtain ⟨ds, hd, w3⟩ := w3
    obtain ⟨a, vs, rfl, h1, h2⟩ := (l1 α3 H3 ρ3 R3 (s2.trans s3) _ hd).lst
    refine ⟨a, vs, rfl, h1, fun p hp => ?_⟩
    have e := hid_new (θ := θ) (α := α3) (o := .lst (cutV vs lo hi)) hp
    exact hq α3 p _ _ _ ρ3 (R3.hideNew hp) ⟨by rw [e]; exact ((s1.trans s2).trans s3).1, fun b hb => (((s1.trans s2).trans s3).2 b hb).trans ((R3.stpNew hp).2 b hb)⟩ (fun z => R3.lv p z hp) upd_same (by rw [e]; exact dpA_cut h2) w3

/-! built-in functions -/
def wB1 (f : D → (D → Prop) → Prop) (w : WL) : WE := wUn f w
def wB2 (f : D → D → (D → Prop) → Prop) (wa wb : WL) : WE := wOp f wa wb
theorem dB1 {r : List V → Hp → VK → Prop} {f : D → (D → Prop) → Prop} {e a : Expr} {w : WL} (h : ∀ ta, PE X a ta → PE X e (tCB r (tCons ta tNil))) (hr : SU K (fun x => r [x]) f) (ha : PE X a (cL K W w)) : PE X e (cE K W (wB1 f w)) :=
  peI (h _ ha) fun σ H Q q => can_un hr σ H Q q
theorem dB2 {r : List V → Hp → VK → Prop} {f : D → D → (D → Prop) → Prop} {e a b : Expr} {wa wb : WL} (h : ∀ ta tb, PE X a ta → PE X b tb → PE X e (tCB r (tCons ta (tCons tb tNil)))) (hr : SR K (fun x y => r [x, y]) f) (ha : PE X a (cL K W wa)) (hb : PE X b (cL K W wb)) : PE X e (cE K W (wB2 f wa wb)) :=
  peI (h _ _ ha hb) fun σ H Q q => can_op hr σ H Q q
def fAbs (d : D) (k : D → Prop) : Prop := match d with
  | .int i => k (.int (if i < 0 then -i else i))
  | _ => False
theorem su_abs : SU K (fun x H Q => ∃ i, [x] = [V.int i] ∧ Q (.int (if i < 0 then -i else i)) H) fAbs := by
  intro S H x d Q R lv hx hf q
  unfold fAbs at hf
  split at hf
  · cases hx.int; exact ⟨_, rfl, q _ H _ (Ex.refl _) (.int _) hf⟩
  · exact hf.elim
def fInt (d : D) (k : D → Prop) : Prop := match d with
  | .int i => k (.int i)
  | .bool b => k (.int (if b then 1 else 0))
  | _ => False
theorem su_int : SU K (fun x H Q => (∃ i, [x] = [V.int i] ∧ Q (.int i) H) ∨ ∃ k, [x] = [V.bl k] ∧ Q (.int (if k then 1 else 0)) H) fInt := by
  intro S H x d Q R lv hx hf q
  unfold fInt at hf
  split at hf
  · cases hx.int; exact .inl ⟨_, rfl, q _ H _ (Ex.refl _) (.int _) hf⟩
  · cases hx.bl; exact .inr ⟨_, rfl, q _ H _ (Ex.refl _) (.int _) hf⟩
  · exact hf.elim
def fLen (d : D) (k : D → Prop) : Prop := match d with
  | .str x => x.length ≤ sizeLine ∧ k (.int x.length)
  | .list ds => k (.int ds.length)
  | .tuple ds => k (.int ds.length)
  | _ => False
theorem su_len : SU K (fun x H Q => ∃ y n, [x] = [y] ∧ LenV K y H n ∧ Q (.int n) H) fLen := by
  intro S H x d Q R lv hx hf q
  unfold fLen at hf
  split at hf
  · cases hx.str; exact ⟨_, _, rfl, ⟨hf.1, rfl⟩, q _ H _ (Ex.refl _) (.int _) hf.2⟩
  · obtain ⟨a, vs, rfl, h1, h2⟩ := hx.lst
    exact ⟨_, _, rfl, .inl ⟨vs, h1, rfl⟩, q _ H _ (Ex.refl _) (by rw [dpA_len h2]; exact .int _) hf⟩
  · obtain ⟨a, vs, rfl, h1, h2⟩ := hx.tup
    exact ⟨_, _, rfl, .inr ⟨vs, h1, rfl⟩, q _ H _ (Ex.refl _) (by rw [dpA_len h2]; exact .int _) hf⟩
  · exact hf.elim
def fGcd (d e : D) (k : D → Prop) : Prop := match d, e with
  | .int a, .int b => k (.int ((Nat.gcd a.natAbs b.natAbs : Nat) : Int))
  | _, _ => False
theorem sr_gcd : SR K (fun x y => rGcd [x, y]) fGcd := by
  intro S H x y d e Q R lv hx hy hf q
  unfold fGcd at hf
  split at hf
  · cases hx.int; cases hy.int; exact ⟨_, _, rfl, q _ H _ (Ex.refl _) (.int _) hf⟩
  · exact hf.elim
/-- isinstance(x, T) -/
def tyN : D → String
  | .none => "NoneType" | .bool _ => "bool" | .int _ => "int" | .str _ => "str" | .list _ => "list" | .tuple _ => "tuple" | .dict _ => "dict"
theorem tyx_of {x : V} {d : D} (h : Dp K H x d) : TyX K H x (.type (tyN d)) := by
  cases h with
  | non => exact .base .non
  | bl b => exact .base (.bl b)
  | int i => exact .base (.int i)
  | str z => exact .base (.str z)
  | lst h hs =>
    rcases h with (h | ⟨o, h⟩) | ⟨o, its, n, h, hc, _⟩
    · exact .base (.lst h)
    · exact .base (.frz h)
    · exact .kList h hc
  | tup h hs =>
    rcases h with (h | ⟨o, h⟩) | ⟨o, its, n, h, hc, _⟩
    · exact .base (.tup h)
    · exact .fTuple h
    · exact .kTuple h hc
def isK (n : String) (d : D) : Bool := match d with
  | .int _ => n == "int"
  | .bool _ => n == "bool" || n == "int"
  | .str _ => n == "str"
  | .list _ => n == "list"
  | .tuple _ => n == "tuple"
  | _ => false
def wIsi (n : String) (w : WL) : WE := fun ρ R E => w ρ (fun L ρ1 => ∃ d, L ρ1 d ∧ R (.bool (isK n d)) ρ1) E
theorem dIsi {e a c : Expr} {n : String} {w : WL} (h : ∀ ta tb, PE X a ta → PE X c tb → PE X e (tCB (rIsi X.K) (tCons ta (tCons tb tNil)))) (ha : PE X a (cL X.K W w)) (hc : PE X c (tC (.ty n)))
    (hn : kitB "NoneType" n = some false ∧ kitB "bool" n = some (n == "bool" || n == "int") ∧ kitB "int" n = some (n == "int") ∧ kitB "str" n = some (n == "str") ∧ kitB "list" n = some (n == "list") ∧ kitB "tuple" n = some (n == "tuple")) : PE X e (cE X.K W (wIsi n w)) :=
  peI (h _ _ ha hc) fun σ H Q => by
    rintro ⟨θ, π, α, ρ, R, E, hR, hw, hq, he⟩
    refine ⟨θ, π, α, ρ, _, E, hR, hw, fun α1 v1 H1 L1 ρ1 R1 s1 l1 w1 => ?_, he⟩
    obtain ⟨d, hd, w1⟩ := w1
    have hx := (l1 α1 H1 ρ1 R1 (Stp.refl ..) d hd).full
    have ty := tyx_of hx
    obtain ⟨k1, k2, k3, k4, k5, k6⟩ := hn
    have fin : ∀ b, isK n d = b → PySem.W.kitOne X.K (.type (tyN d)) (.type n) = some b →
        tCons (fun σ H Q => Q v1 H) (tCons (tC (.ty n)) tNil) σ H1 (fun vs H2 => rIsi X.K vs H2 Q) := fun b hb hk =>
      ⟨v1, .ty n, _, .type n, b, rfl, .ty n, ty, hk, hq α1 _ H1 _ ρ1 R1 s1 (by rw [hb]; exact .bl b) w1⟩
    cases d with
    | none => exact fin false rfl (kit_ty k1)
    | bool b => exact fin _ rfl (kit_ty k2)
    | int i => exact fin _ rfl (kit_ty k3)
    | str i => exact fin _ rfl (kit_ty k4)
    | list i => exact fin _ rfl (kit_ty k5)
    | tuple i => exact fin _ rfl (kit_ty k6)
    | dict i => cases hx
end
end Den

set_option maxHeartbeats 2000000
namespace Den
variable [Tbs]
open PySem PySem.Spec PyProof.Rows HotX
section
variable {prog : Program} {w : World} {A : Around} {E : Value → Shared → Prop} {s : Shared}
theorem next_list_hot {it l x1 : Addr} {i : Nat} {items : Array Value} {Q : Option Value → Shared → Prop} (hot : HotAt A x1 s.heap)
    (hit : s.heap.IsListIter it l i) (hl : s.heap.IsList l items) (hx : items[i]? = none)
    (hQ : ∀ h', (∀ b o, b ≠ it → s.heap.get? b = some o → h'.get? b = some o) → Q none { s with heap := h' }) : wpAny (model prog w) A (pyNext (.ref it)) Q E s := by
  obtain ⟨o, ho, hc, hd⟩ := id hit
  obtain ⟨ol, hol, _, nl, hdl⟩ := hl
  obtain ⟨hh, o1, vs1, h1, d1, c1⟩ := hot
  have hne : x1 ≠ it := fun z => by
    subst z
    rw [ho] at h1; cases h1
    rw [hd] at d1; cases d1
    simp at c1
  unfold pyNext
  refine wpAny_bind (wpAny_attempt (wpAny_callSpecial?_slot (name := Str.ofString "__next__") hit.typeIs slot_listiter_next
    (wpAny_call_entry slot_listiter_next hit.typeIs entry_listiter_next ?_ (args_listiter_next _))))
  show wpAny _ _ (field (.ref it) 0 >>= _) _ _ s
  refine wpAny_bind (wpAny_field ho hd (x := .ref l) rfl ?_)
  show wpAny _ _ (if (Value.ref l == Value.none) = true then _ else _) _ _ s
  rw [if_neg (show ¬ ((Value.ref l == Value.none) = true) from Bool.false_ne_true)]
  show wpAny _ _ (field (.ref it) 1 >>= _) _ _ s
  refine wpAny_bind (wpAny_field ho hd (x := .int i 0) rfl ?_)
  show wpAny _ _ (seqItems? (.ref l) >>= _) _ _ s
  refine wpAny_bind (wpAny_seqItems hol hdl ?_)
  simp only [Int.toNat_natCast, hx]
  refine wpAny_bind (wpAny_rule (wpAny_bind (wpAny_setField ho hd (by simp) ?_)))
  show wpAny _ _ (newExc (.type "StopIteration") [] >>= _) _ _ _
  refine wpAny_bind ?_
  simp only [newExc, newTuple]
  refine wpAny_bind (wpAny_newObj_type ?_ (by size_fits))
  refine wpAny_bind (m := firstArgMember _ _) (wpAny_of_eq (a := Value.none) (by first | rfl | (simp only [firstArgMember]; rfl)) ?_)
  refine wpAny_newObj_type ?_ (by size_fits)
  have h1' := (Heap.get?_update_other s.heap (Obj.mapFields (·.setIfInBounds 0 Value.none)) (Ne.symm hne)).trans h1
  refine raiseNew_hot ⟨hh, o1, vs1, Heap.get?_push_of_some _ (Heap.get?_push_of_some _ h1'), d1, c1⟩ (Nat.ne_of_lt (Heap.lt_size (Heap.get?_push_of_some _ h1'))) (Heap.get?_push_size _ rfl) rfl (by first | (simp; done) | (simp; omega) | (simp only [Array.size_append]; simp; omega)) ?_
  refine wpAny_bind (wpAny_isInstance (T := "StopIteration") (b := true) ⟨_, Heap.get?_update_self _ (Heap.get?_push_size _ rfl) rfl, rfl⟩ isSubtype_stop ?_)
  refine wpAny_pure (hQ _ fun b o hb e => ?_)
  have e' := (Heap.get?_update_other s.heap (Obj.mapFields (·.setIfInBounds 0 Value.none)) (Ne.symm hb)).trans e
  rw [Heap.get?_update_other _ _ (Nat.ne_of_gt (Heap.lt_size (Heap.get?_push_of_some _ e')))]
  exact Heap.get?_push_of_some _ (Heap.get?_push_of_some _ e')
theorem next_tup_hot {it l x1 : Addr} {i : Nat} {items : Array Value} {Q : Option Value → Shared → Prop} (hot : HotAt A x1 s.heap)
    (hit : IsTupIter s.heap it l i) (hl : IsTup s.heap l items) (hx : items[i]? = none)
    (hQ : ∀ h', (∀ b o, b ≠ it → s.heap.get? b = some o → h'.get? b = some o) → Q none { s with heap := h' }) : wpAny (model prog w) A (pyNext (.ref it)) Q E s := by
  obtain ⟨o, ho, hc, hd⟩ := id hit
  obtain ⟨ol, hol, _, nl, hdl⟩ := hl
  obtain ⟨hh, o1, vs1, h1, d1, c1⟩ := hot
  have hne : x1 ≠ it := fun z => by
    subst z
    rw [ho] at h1; cases h1
    rw [hd] at d1; cases d1
    simp at c1
  unfold pyNext
  refine wpAny_bind (wpAny_attempt (wpAny_callSpecial?_slot (name := Str.ofString "__next__") hit.typeIs slot_tupleiter_next
    (wpAny_call_entry slot_tupleiter_next hit.typeIs entry_tupleiter_next ?_ (args_tupleiter_next _))))
  show wpAny _ _ (field (.ref it) 0 >>= _) _ _ s
  refine wpAny_bind (wpAny_field ho hd (x := .ref l) rfl ?_)
  show wpAny _ _ (if (Value.ref l == Value.none) = true then _ else _) _ _ s
  rw [if_neg (show ¬ ((Value.ref l == Value.none) = true) from Bool.false_ne_true)]
  show wpAny _ _ (field (.ref it) 1 >>= _) _ _ s
  refine wpAny_bind (wpAny_field ho hd (x := .int i 0) rfl ?_)
  show wpAny _ _ (seqItems? (.ref l) >>= _) _ _ s
  refine wpAny_bind (wpAny_seqItems hol hdl ?_)
  simp only [Int.toNat_natCast, hx]
  refine wpAny_bind (wpAny_rule (wpAny_bind (wpAny_setField ho hd (by simp) ?_)))
  show wpAny _ _ (newExc (.type "StopIteration") [] >>= _) _ _ _
  refine wpAny_bind ?_
  simp only [newExc, newTuple]
  refine wpAny_bind (wpAny_newObj_type ?_ (by size_fits))
  refine wpAny_bind (m := firstArgMember _ _) (wpAny_of_eq (a := Value.none) (by first | rfl | (simp only [firstArgMember]; rfl)) ?_)
  refine wpAny_newObj_type ?_ (by size_fits)
  have h1' := (Heap.get?_update_other s.heap (Obj.mapFields (·.setIfInBounds 0 Value.none)) (Ne.symm hne)).trans h1
  refine raiseNew_hot ⟨hh, o1, vs1, Heap.get?_push_of_some _ (Heap.get?_push_of_some _ h1'), d1, c1⟩ (Nat.ne_of_lt (Heap.lt_size (Heap.get?_push_of_some _ h1'))) (Heap.get?_push_size _ rfl) rfl (by first | (simp; done) | (simp; omega) | (simp only [Array.size_append]; simp; omega)) ?_
  refine wpAny_bind (wpAny_isInstance (T := "StopIteration") (b := true) ⟨_, Heap.get?_update_self _ (Heap.get?_push_size _ rfl) rfl, rfl⟩ isSubtype_stop ?_)
  refine wpAny_pure (hQ _ fun b o hb e => ?_)
  have e' := (Heap.get?_update_other s.heap (Obj.mapFields (·.setIfInBounds 0 Value.none)) (Ne.symm hb)).trans e
  rw [Heap.get?_update_other _ _ (Nat.ne_of_gt (Heap.lt_size (Heap.get?_push_of_some _ e')))]
  exact Heap.get?_push_of_some _ (Heap.get?_push_of_some _ e')
theorem unpack_tup_hot {t x1 : Addr} {items : Array Value} {Q : List Value → Shared → Prop} (hot : HotAt A x1 s.heap) (ht : IsTup s.heap t items)
    (hQ : ∀ h', Heap.ExtBut s.heap.objs.size s.heap h' → Q items.toList { s with heap := h' }) : wpAny (model prog w) A (unpackItems (.ref t) items.size none) Q E s := by
  have hlt : t ≠ s.heap.objs.size := by obtain ⟨o, ho, _⟩ := ht; exact Nat.ne_of_lt (Heap.lt_size ho)
  obtain ⟨hh, o1, vs1, h1, d1, c1⟩ := hot
  unfold unpackItems
  refine wpAny_bind ?_
  · unfold notIterableAtAll
    refine wpAny_bind (wpAny_specialOf ht.typeIs slot_tuple_iter.lookup ?_)
    refine wpAny_pure ?_
    simp only [Bool.false_eq_true, if_false]
    refine wpAny_bind (wpAny_holding (iter_tuple ht ?_))
    refine wpAny_bind (wpAny_holding (draw_tuple hlt items.size 0 _ _ ⟨_, Heap.get?_push_size _ rfl, rfl, rfl⟩ (ht.push _) (by omega) fun h₁ hit₁ hs₁ => ?_))
    have hall : List.take items.size (List.drop 0 items.toList) = items.toList := by
      rw [List.drop_zero]; exact List.take_of_length_le (by simp)
    rw [hall]
    rw [if_neg (by simp)]
    have ht₁ : IsTup h₁ t items := (ht.push _).extBut hs₁.extBut hlt
    have h11 : h₁.get? x1 = some o1 := hs₁.extBut x1 o1 (Nat.ne_of_lt (Heap.lt_size h1)) (Heap.get?_push_of_some _ h1)
    refine wpAny_bind (wpAny_holding (next_tup_hot ⟨hh, o1, vs1, h11, d1, c1⟩ hit₁ ht₁ (by simp) fun h₂ he₂ => ?_))
    simp only [Option.isSome_none, Bool.false_eq_true, if_false]
    refine wpAny_pure (hQ h₂ fun b o hb e => he₂ b o hb (hs₁.extBut b o hb (Heap.get?_push_of_some _ e)))
end
end Den
namespace Den
variable [Tbs]
open PySem L2 Evl PySem.Spec PyProof.Rows HotX
/-- an exception is handled, without a context -/
def HotS (X : Cx) : Prop := ∀ (pins : List (Addr × Obj)) (σ : L2.St) (H : Hp) (s : Shared), Inv X pins σ H s → ∃ x1, HotAt X.A x1 s.heap
theorem hotS_of {X : Cx} (h : L2H.HotC X) : HotS X := fun pins σ H s I => h.at I
section
variable {X : Cx}
theorem pg_tupH {es : List Expr} {k : Nat} {t : TGs} {n : Nat} {pos : Pos} (hc : HotS X) (h : PGs X es t)
    (hn : (assignEach es X.env).length = n := by rfl) (hst : (assignEach es X.env).findIdx? (·.1) = none := by rfl) : PG X (.Tuple es k pos) (gTup X.K n t) := by
  refine ⟨fun pins s σ H v u Q I r hw => ?_⟩
  obtain ⟨a, xs, e1, hq, hl, hw⟩ := hw
  subst e1
  cases r
  obtain ⟨its, rv, ht, hz⟩ := I.tuple hq
  obtain ⟨x1, hot⟩ := hc _ _ _ _ I
  have hsz : (assignEach es X.env).length = its.toArray.size := by simp [hn, ← hl, rv.length]
  rw [PyProof.Rows.assign_Tuple]
  refine wpAny_bind (wpAny_standAt ?_)
  unfold unpack
  rw [hsz, hst]
  refine wpAny_bind (wpAny_holding (unpack_tup_hot hot ht fun h' hx => ?_))
  have I1 : Inv X pins σ H { s with heap := h' } := I.kept (t' := s.toks) fun b o e => hx b o (Nat.ne_of_lt (Heap.lt_size e)) e
  exact h.run pins _ σ H xs _ Q I1 (by simpa using rv) hw
structure TurnS (P : Program) (w : World) (K : PySem.W.Frag) (tg : Expr) (J : It) (fp : List Addr) (it : Addr) (tn : Nat → Heap → Prop) : Prop where
  mem : it ∈ fp
  obj : ∀ i h, tn i h → ∀ b ∈ fp, ∃ o, h.get? b = some o ∧ ∀ v, o.data ≠ .cell v
  keep : ∀ i h h', tn i h → (∀ b ∈ fp, ∀ o, h.get? b = some o → h'.get? b = some o) → tn i h'
  item : ∀ (X : Cx), X.prog = P → X.w = w → X.K = K → HotS X → ∀ (i : Nat) (pins : List (Addr × Obj)) (s : Shared) (σ : L2.St) (H : Hp) (E : Value → Shared → Prop), Inv X pins σ H s → (∀ b ∈ fp, FpOk X pins H b) → tn i s.heap → J.go i H →
    wpAny (model P w) X.A (pyNext (.ref it)) (fun r s1 => ∃ u, r = some u ∧
      wpAny (model P w) X.A (letOwnedTupleGo tg (.ref it) u) (fun _ s2 => ∃ x H', Inv X pins σ H' s2 ∧ RelV x u ∧ J.yld i H x H' ∧ tn (i + 1) s2.heap ∧ ∀ b ∈ fp, H' b = none) E s1) E s
  done : ∀ (X : Cx), X.prog = P → X.w = w → X.K = K → HotS X → ∀ (i : Nat) (pins : List (Addr × Obj)) (s : Shared) (σ : L2.St) (H : Hp) (E : Value → Shared → Prop), Inv X pins σ H s → (∀ b ∈ fp, FpOk X pins H b) → tn i s.heap → J.stop i H →
    wpAny (model P w) X.A (pyNext (.ref it)) (fun r s1 => r = none ∧ Inv X pins σ H s1) E s
  self : ∀ (A : Around) (i : Nat) (s : Shared) (Q : Value → Shared → Prop) (E : Value → Shared → Prop), tn i s.heap → Q (.ref it) s → wpAny (model P w) A (pyIter (.ref it)) Q E s
theorem turn_listS {P : Program} {w : World} {K : PySem.W.Frag} {tg : Expr} (a it : Addr) : TurnS P w K tg (Itl K a) [it] it (fun i h => h.IsListIter it a i) where
  mem := by simp
  obj := fun i h st b hb => by
    have e : b = it := by simpa using hb
    subst e
    obtain ⟨o, e, c, d⟩ := st
    exact ⟨o, e, fun v z => by rw [d] at z; cases z⟩
  keep := fun i h h' st k => st.at fun o e => k it (by simp) o e
  item := by
    intro X hP hw hK hc i pins s σ H E I hf st hg
    subst hP hw hK
    obtain ⟨xs, x, hq, hx⟩ := hg
    obtain ⟨its, rv, p, hz⟩ := I.list hq
    obtain ⟨u, hu, ru⟩ := rv.get hx
    obtain ⟨f0, f1, f2, f3, f4, f5⟩ := hf it (by simp)
    refine wpAny_pyNext_list_item st p.isList (x := u) (by simpa using hu) fun h' st' sb => ?_
    have I1 : Inv X pins σ H { s with heap := h' } := I.turned (t' := s.toks) (fun b o hb e => (sb.2 b hb).trans e) f0 f1 f3 f4 f5
    obtain ⟨o, e, c, d⟩ := id st'
    exact ⟨u, rfl, go_of (s := { s with heap := h' }) e c d (by decide) ⟨x, H, I1, ru, ⟨rfl, fun ys hy => by rw [I.list_inj hy hq]; exact hx⟩, st', fun b hb => (hf b hb).1⟩⟩
  done := by
    intro X hP hw hK hc i pins s σ H E I hf st hg
    subst hP hw hK
    obtain ⟨xs, hq, hx⟩ := hg
    obtain ⟨its, rv, p, hz⟩ := I.list hq
    obtain ⟨f0, f1, f2, f3, f4, f5⟩ := hf it (by simp)
    obtain ⟨x1, hot⟩ := hc _ _ _ _ I
    have hl := rv.length
    exact next_list_hot hot st p.isList (by simp; omega) fun h' eb => ⟨rfl, I.turned (t' := s.toks) (fun b o hb e => eb b o hb e) f0 f1 f3 f4 f5⟩
  self := fun _ _ _ _ _ st h => wpAny_pyIter_listiter st h
def PIES (X : Cx) (pins : List (Addr × Obj)) (σ : L2.St) (tg : Expr) (R : It → Hp → Prop) (itv : Value) (s2 : Shared) : Prop :=
  ∃ (it : Addr) (fp : List Addr) (tn : Nat → Heap → Prop) (J : It) (H' : Hp), itv = .ref it ∧ Inv X pins σ H' s2 ∧ TurnS X.prog X.w X.K tg J fp it tn ∧ tn 0 s2.heap ∧ (∀ b ∈ fp, FpOk X pins H' b) ∧ R J H'
structure PIS (X : Cx) (tg iter : Expr) (wi : TI) : Prop where
  run : ∀ (pins : List (Addr × Obj)) (s : Shared) (σ : L2.St) (H : Hp) (R : It → Hp → Prop), Inv X pins σ H s → wi σ H R →
    wpAny (model X.prog X.w) X.A (eval iter X.env) (fun v s1 => wpAny (model X.prog X.w) X.A (pyIter v) (PIES X pins σ tg R) X.xe s1) X.xe s
theorem pi_listS {tg : Expr} {l : Expr} {tl : TE} (hl : PE X l tl) : PIS X tg l (iList X.K tl) := by
  refine ⟨fun pins s σ H R I h => ?_⟩
  refine thn (hl.run pins s σ H _ I h) fun v s1 ⟨x, H1, I1, r1, q1⟩ => ?_
  obtain ⟨a, e, ⟨xs, hq⟩, q⟩ := q1
  subst e
  cases r1
  obtain ⟨its, rv, p, hz⟩ := I1.list hq
  refine wpAny_pyIter_list p.isList ?_
  refine ⟨s1.heap.objs.size, [s1.heap.objs.size], _, _, H1, rfl, I1.kept (t' := s1.toks) fun b o e => Heap.get?_push_of_some _ e, turn_listS a _, ⟨_, Heap.get?_push_size _ rfl, rfl, rfl⟩, fun b hb => ?_, q⟩
  have e : b = s1.heap.objs.size := by simpa using hb
  subst e
  exact I1.fpOk (Nat.le_refl _) (I1.hok.fresh (Nat.le_refl _))
theorem piSI {tg e : Expr} {t t' : TI} (h : PIS X tg e t) (k : ∀ σ H R, t' σ H R → t σ H R) : PIS X tg e t' := ⟨fun pins s σ H Q I q => h.run pins s σ H Q I (k _ _ _ q)⟩
/-- a comprehension within an except suite -/
theorem lc_coreS {pins : List (Addr × Obj)} {s : Shared} {σ : L2.St} {H : Hp} {Q : VK} {pos' : Pos} {use : Option (Value → Sem Unit)} {Qf : Value → Shared → Prop} {elt tg iter : Expr} {ifs : List Expr} {scope : Scope} {own : List (Str × Nat)} {pos : Pos} {wi : TI} {g : TG} {tt : TT} {te : TE}
    (hot : L2H.HotC X) (hN : X.N.Nodup) (I : Inv X pins σ H s) (hi : PIS X tg iter wi) (ok : BlkOk X.N X.env.scope scope own)
    (hg : ∀ (s : Shared) (H : Hp) (C : Addr) (cl : List (Str × Addr)) (fp : List Addr), HotS (X.blk s H scope (compEnvC scope cl C X.env) fp) → PG (X.blk s H scope (compEnvC scope cl C X.env) fp) tg g) (ht : ∀ (s : Shared) (H : Hp) (C : Addr) (cl : List (Str × Addr)) (fp : List Addr), PTs (X.blk s H scope (compEnvC scope cl C X.env) fp) ifs tt)
    (he : ∀ (s : Shared) (H : Hp) (C : Addr) (cl : List (Str × Addr)) (fp : List Addr), PE (X.blk s H scope (compEnvC scope cl C X.env) fp) elt te) (hs : ∀ x, foldedSetIterable iter X.env x = pure x)
    (h : tLc wi g tt te (own.map (·.2)) σ H Q)
    (hRR : ∀ D C s' m H', Inv X pins σ H' s' → Q (.ref D) H' → s'.heap.Ns C m → FpOk X pins H' C → compPost (model X.prog X.w) X.A X.xe use Qf (.ref D) C (.ok .next) s') :
    wpAny (model X.prog X.w) X.A (comprehension (.ListComp elt [⟨tg, iter, ifs, 0⟩] scope pos) scope X.env pos' (newList []) false (eval iter X.env) use) Qf X.xe s := by
  have hfree : ∀ y ∈ scope.names, y.2 = .free → ∃ c, X.env.cells.lookup y.1 = some c := fun y hy e => by
    rcases ok.free y hy e with k | k
    · exact I.ok.has _ (.inl k)
    · exact I.ok.has _ (.inr k)
  refine wpAny_comprehension_free (use := use) rfl hs (closure_ok hfree) ok.kind (fun y hy e => by rw [ok.uniq y hy, e])
    (thn (hi.run pins s σ H _ I h) fun xv s1 hx => thn hx fun itv s2 h2 => ?_)
  obtain ⟨it, fp, tn, J, H2, e, I2, T, st2, f2, q⟩ := h2
  subst e
  refine wpAny_newObj_type (newEnv_comp ?_) (by show 0 ≤ sizeLine; decide)
  generalize hD : s2.heap.objs.size = D
  have hDn : H2 D = none := I2.hok.fresh (Nat.le_of_eq hD)
  obtain ⟨W, ⟨m0, w0⟩, turn⟩ := q D hDn
  generalize hs3 : ({ s2 with heap := s2.heap.push { cls := .type "list", data := .seq ([] : List Value).toArray } } : Shared) = s3
  have I3 : Inv X pins σ (upd H2 D (.lst [])) s3 := by
    rw [← hs3]
    refine I2.laid (t' := s2.toks) (fun b o e => Heap.get?_push_of_some _ e) (Nat.le_of_eq hD) ⟨Nat.zero_le _, [], 0, .nil, ?_⟩
    rw [← hD]
    exact Heap.get?_push_size _ rfl
  have h3 : s3.heap = s2.heap.push { cls := .type "list", data := .seq ([] : List Value).toArray } := by rw [← hs3]
  have sz : ∀ b ∈ fp, b < s2.heap.objs.size := fun b hb => by
    obtain ⟨o, e, _⟩ := T.obj _ _ st2 b hb
    exact Heap.lt_size e
  have f3 : ∀ b ∈ fp, FpOk X pins (upd H2 D (.lst [])) b ∧ b < s3.heap.objs.size := fun b hb => by
    have hlt := sz b hb
    refine ⟨⟨?_, (f2 b hb).2⟩, by rw [h3, Heap.size_push]; exact Nat.lt_succ_of_lt hlt⟩
    rw [upd_ne (by rw [← hD]; exact Nat.ne_of_lt hlt)]
    exact (f2 b hb).1
  have st3 : tn 0 s3.heap := T.keep _ _ _ st2 fun b _ o e => by rw [h3]; exact Heap.get?_push_of_some _ e
  have I4 := block_start I3 ok hN f3
  -- the handled exception is kept in the block
  obtain ⟨px, ⟨hhd, v1, ev1, cv1⟩, hpx⟩ := hot
  have P1 := I3.pin px (List.mem_append_left _ hpx)
  have hotB : HotS (X.blk s3 (upd H2 D (.lst [])) scope (compEnvC scope (cellsFrom (s3.heap.objs.size + 1) scope.names (cloFrom X.env.cells scope.names [])) s3.heap.objs.size X.env) fp) := fun pins' σ' H' s' I' => by
    refine ⟨px.1, hhd, px.2, v1, ?_, ev1, cv1⟩
    refine I'.base.keep px.1 px.2 P1.1 P1.2.1 (fun hm => ?_) fun hm => ?_
    · exact (List.mem_cons.mp (I3.stkSub px.1 hm)).elim P1.2.2.1 P1.2.2.2.1
    · exact (f3 px.1 hm).1.2.2.2.2.2 px (List.mem_append_left _ hpx) rfl
  have pg := hg s3 (upd H2 D (.lst [])) s3.heap.objs.size (cellsFrom (s3.heap.objs.size + 1) scope.names (cloFrom X.env.cells scope.names [])) fp hotB
  have pt := ht s3 (upd H2 D (.lst [])) s3.heap.objs.size (cellsFrom (s3.heap.objs.size + 1) scope.names (cloFrom X.env.cells scope.names [])) fp
  have pe := he s3 (upd H2 D (.lst [])) s3.heap.objs.size (cellsFrom (s3.heap.objs.size + 1) scope.names (cloFrom X.env.cells scope.names [])) fp
  show codeAny _ _ (.compStart (.ListComp elt [⟨tg, iter, ifs, 0⟩] scope pos) 0 (.ref it) (.ref D) (compEnvC scope (cellsFrom (s3.heap.objs.size + 1) scope.names (cloFrom X.env.cells scope.names [])) s3.heap.objs.size X.env)) (compPost (model X.prog X.w) X.A X.xe use Qf (.ref D) s3.heap.objs.size) { s3 with heap := pushCells (s3.heap.push { cls := .type "dict", data := .dict #[] }) scope.names }
  have nfp : ∀ b ∈ fp, (upd H2 D (.lst [])) b = none := fun b hb => (f3 b hb).1.1
  generalize hce : compEnvC scope (cellsFrom (s3.heap.objs.size + 1) scope.names (cloFrom X.env.cells scope.names [])) s3.heap.objs.size X.env = ce at I4 pg pt pe hotB ⊢
  have cL : ce.locals = s3.heap.objs.size := by subst hce; rfl
  generalize hH3 : upd H2 D (.lst []) = H3 at I3 I4 pg pt pe w0 nfp f3 hotB
  generalize hs4 : ({ s3 with heap := pushCells (s3.heap.push { cls := .type "dict", data := .dict #[] }) scope.names } : Shared) = s4 at I4 ⊢
  have st4 : tn 0 s4.heap := T.keep _ _ _ st3 fun b _ o e => by rw [← hs4]; exact pushCells_keeps _ _ _ _ (Heap.get?_push_of_some _ e)
  have stat : ∀ {σ' : L2.St} {H' : Hp} {s' : Shared}, Inv (X.blk s3 H3 scope ce fp) [] σ' H' s' → (∀ b ∈ fp, H' b = none) → ∀ b ∈ fp, FpOk (X.blk s3 H3 scope ce fp) [] H' b := fun {σ' H' s'} I' hn b hb =>
    ⟨hn b hb, (I'.ok.exf b hb).1, I'.ok.exfs b hb, .inl hb, fun x c e => (I'.ok.exf b hb).2 x c e, fun p hp => absurd (show p ∈ ([] : List (Addr × Obj)) ++ [] from hp) (by simp)⟩
  have loop : codeAny (model X.prog X.w) X.A (.compLoop (.ListComp elt [⟨tg, iter, ifs, 0⟩] scope pos) 0 (.ref it) (.ref D) ce) (compPost (model X.prog X.w) X.A X.xe use Qf (.ref D) s3.heap.objs.size) s4 := by
    refine compLoop_any (fun n s' => ∃ i H', Inv (X.blk s3 H3 scope ce fp) [] (wipe σ (own.map (·.2))) H' s' ∧ tn i s'.heap ∧ (∀ b ∈ fp, H' b = none) ∧ W i n H') ?_ m0 ⟨0, H3, I4, st4, nfp, w0⟩
    rintro n s5 ⟨i, H5, I5, st5, n5, w5⟩
    rcases turn i n H5 w5 with ⟨stop, qq⟩ | ⟨go, Nx, hNx, step⟩
    · have td := T.done (X.blk s3 H3 scope ce fp) rfl rfl rfl hotB i [] s5 _ H5 (fun _ _ => False) I5 (stat I5 n5) st5 stop
      refine thnF td fun r s6 ⟨hr, I6⟩ => ?_
      subst hr
      have I7 : Inv X pins σ H5 s6 := I3.call' (ch := fp) I6.os I6.base I6.hok I6.bare fun b hb => ⟨(f3 b hb).1.2.2.2.1, (f3 b hb).1.2.1, (f3 b hb).1.2.2.2.2.1, (f3 b hb).1.2.2.2.2.2⟩
      have nC : H5 s3.heap.objs.size = none := by
        have z : H5 ce.locals = none := I6.free
        rw [cL] at z
        exact z
      obtain ⟨m, hn, _⟩ := I6.loc
      have hn : s6.heap.Ns ce.locals m := hn
      rw [cL] at hn
      exact hRR D s3.heap.objs.size s6 m H5 I7 qq hn (I3.fpOk (Nat.le_refl _) nC)
    · have ti := T.item (X.blk s3 H3 scope ce fp) rfl rfl rfl hotB i [] s5 _ H5 (fun _ _ => False) I5 (stat I5 n5) st5 go
      refine thnF ti fun r s6 ⟨u, hr, h6⟩ => ?_
      subst hr
      refine thnF h6 fun _ s7 ⟨x, H7, I7, r7, y7, st7, n7⟩ => ?_
      have I7' := I7.pinned (stat I7 n7) (T.obj _ _ st7)
      refine thnF (pg.run _ s7 _ H7 x u _ I7' r7 (step x H7 y7)) fun _ s8 ⟨σ8, H8, I8, hw8, q8⟩ => ?_
      refine thnF (pt.run _ s8 σ8 H8 _ I8 q8) fun b s9 ⟨H9, I9, q9⟩ => ?_
      have fin : ∀ {s' : Shared} {H' : Hp}, Inv (X.blk s3 H3 scope ce fp) ([] ++ pinsAt fp s7.heap) σ8 H' s' → Nx H' → ∃ m, m < n ∧ ∃ i H', Inv (X.blk s3 H3 scope ce fp) [] (wipe σ (own.map (·.2))) H' s' ∧ tn i s'.heap ∧ (∀ b ∈ fp, H' b = none) ∧ W i m H' := fun {s' H'} I' nx => by
        obtain ⟨m', hm, w'⟩ := hNx H' nx
        have pin' : ∀ b ∈ fp, ∀ o, s7.heap.get? b = some o → s'.heap.get? b = some o ∧ H' b = none := fun b hb o e =>
          let z := I'.pin (b, o) (List.mem_append_right _ (List.mem_append_right _ (mem_pinsAt hb e)))
          ⟨z.1, z.2.1⟩
        have hl : (wipe σ (own.map (·.2))).length = σ8.length := by rw [← hw8, wipe_length]
        refine ⟨m', hm, i + 1, H', (I'.unpinned (pins := [])).weak hl (fun j v e => ?_), T.keep _ _ _ st7 fun b hb o e => (pin' b hb o e).1, fun b hb => ?_, w'⟩
        · rw [← hw8] at e
          exact (wipe_some e).1
        · obtain ⟨o, e, _⟩ := T.obj _ _ st7 b hb
          exact (pin' b hb o e).2
      cases b with
      | false =>
        simp only [Bool.false_eq_true, if_false] at q9 ⊢
        exact fin I9 q9
      | true =>
        simp only [if_true] at q9 ⊢
        refine thnF (pe.run _ s9 σ8 H9 _ I9 q9) fun z s10 ⟨yv, H10, I10, r10, acc, hD10, hz10, nx⟩ => ?_
        exact app_ok (X := X.blk s3 H3 scope ce fp) I10 hD10 hz10 r10 fun s11 I11 => fin I11 nx
  exact codeAny_compStart_list loop (T.self X.A 0 _ _ _ st4 loop)
theorem pe_lcS {elt tg iter : Expr} {ifs : List Expr} {scope : Scope} {own : List (Str × Nat)} {pos : Pos} {wi : TI} {g : TG} {tt : TT} {te : TE}
    (hot : L2H.HotC X) (hN : X.N.Nodup) (hi : PIS X tg iter wi) (ok : BlkOk X.N X.env.scope scope own)
    (hg : ∀ (s : Shared) (H : Hp) (C : Addr) (cl : List (Str × Addr)) (fp : List Addr), HotS (X.blk s H scope (compEnvC scope cl C X.env) fp) → PG (X.blk s H scope (compEnvC scope cl C X.env) fp) tg g) (ht : ∀ (s : Shared) (H : Hp) (C : Addr) (cl : List (Str × Addr)) (fp : List Addr), PTs (X.blk s H scope (compEnvC scope cl C X.env) fp) ifs tt)
    (he : ∀ (s : Shared) (H : Hp) (C : Addr) (cl : List (Str × Addr)) (fp : List Addr), PE (X.blk s H scope (compEnvC scope cl C X.env) fp) elt te) (hs : ∀ x, foldedSetIterable iter X.env x = pure x := by intro _; rfl) :
    PE X (.ListComp elt [⟨tg, iter, ifs, 0⟩] scope pos) (tLc wi g tt te (own.map (·.2))) := by
  refine ⟨fun pins s σ H Q I h => ?_⟩
  rw [eval_ListComp]
  refine lc_coreS hot hN I hi ok hg ht he hs h fun D C s' m H' I' q hn f => ⟨m, hn, fun h'' sb => ?_⟩
  obtain ⟨f0, f1, f2, f3, f4, f5⟩ := f
  exact ⟨.ref D, H', I'.turned (t' := s'.toks) (fun b o hb e => (sb.2 b hb).trans e) f0 f1 f3 f4 f5, rfl, q⟩
theorem ps_setLcS {i : Nat} {y : Str} {py : Pos} {elt tg iter : Expr} {ifs : List Expr} {scope : Scope} {own : List (Str × Nat)} {pos spos : Pos} {wi : TI} {g : TG} {tt : TT} {te : TE} (hot : L2H.HotC X) (hN : X.N.Nodup) (hy : X.N[i]? = some y) (hyl : X.env.scope.names.lookup y = some .local)
    (hsw : swapsWith (.ListComp elt [⟨tg, iter, ifs, 0⟩] scope pos) (some (.Name y py)) spos.line X.env = pure true) (hi : PIS X tg iter wi) (ok : BlkOk X.N X.env.scope scope own)
    (hg : ∀ (s : Shared) (H : Hp) (C : Addr) (cl : List (Str × Addr)) (fp : List Addr), HotS (X.blk s H scope (compEnvC scope cl C X.env) fp) → PG (X.blk s H scope (compEnvC scope cl C X.env) fp) tg g) (ht : ∀ (s : Shared) (H : Hp) (C : Addr) (cl : List (Str × Addr)) (fp : List Addr), PTs (X.blk s H scope (compEnvC scope cl C X.env) fp) ifs tt)
    (he : ∀ (s : Shared) (H : Hp) (C : Addr) (cl : List (Str × Addr)) (fp : List Addr), PE (X.blk s H scope (compEnvC scope cl C X.env) fp) elt te) (hs : ∀ x, foldedSetIterable iter X.env x = pure x := by intro _; rfl) :
    PS X (.Assign [.Name y py] (.ListComp elt [⟨tg, iter, ifs, 0⟩] scope pos) spos) (tAsg (tLc wi g tt te (own.map (·.2))) (gName i)) := by
  refine ⟨fun pins s σ H D I h => ?_⟩
  rw [exec_Assign_Name_used _ _ _ _ hsw]
  refine wpAny_bind (wpAny_standAt (wpAny_bind ?_))
  show wpAny _ X.A (do let _ ← comprehension (.ListComp elt [⟨tg, iter, ifs, 0⟩] scope pos) scope X.env (firstIterPos [⟨tg, iter, ifs, 0⟩] pos) (newList []) false (eval iter X.env) (some (assign (.Name y py) X.env))) _ _ s
  have h : tLc wi g tt te (own.map (·.2)) σ H (fun x H1 => gName i x σ H1 D.nx) := h
  refine wpAny_bind (thn (lc_coreS (Qf := fun _ s' => SP X pins D .next s') hot hN I hi ok hg ht he hs h fun L C s' m H' I' q hn f => ?_) fun _ s' hq => wpAny_pure (wpAny_pure hq))
  show wpAny _ _ (assign (.Name y py) X.env (.ref L)) _ _ _
  refine wpAny_assign_Name (store_ok2 (v := V.ref L) I' hN hy (.inl hyl) rfl (fun s2 I2 ⟨a, sb, ha⟩ => ?_) (.inr hyl))
  obtain ⟨f0, f1, f2, f3, f4, f5⟩ := f
  have haC : C ≠ a := by
    rcases ha with z | z
    · rw [z]; exact f1
    · exact fun e => f4 y a z e.symm
  refine ⟨m, hn.sameBut sb haC, fun h3 sb3 => ?_⟩
  exact ⟨_, H', I2.turned (t' := s2.toks) (fun b o hb e => (sb3.2 b hb).trans e) f0 f1 f3 f4 f5, q⟩
end
end Den

namespace Den
variable [Tbs]
open PySem L2 Evl PySem.Spec PyProof.Rows HotX
open Classical
section
variable {K : PySem.W.Frag} {W : WX} {X : Cx} {θ : Addr → Prop} {π α : Nat → Option Addr} {σ σ2 : L2.St} {H H1 : Hp} {ρ : En} {p : Addr} {o : HO} {n : Nat}

theorem diLS {tg e : Expr} {w : WE} (h : PIS X tg e (iList K (cE K W w))) : PIS X tg e (cI K W (wiL w)) := piSI h fun σ H Q ⟨θ, π, α, ρ, R, E, hR, hw, hq, he⟩ =>
  ⟨θ, π, α, ρ, _, E, hR, hw, fun α1 v H1 d ρ1 R1 s1 p1 w1 => by
    obtain ⟨ds, rfl, w1⟩ := w1
    cases p1 with
    | lst h1 hs => exact ⟨_, rfl, ⟨_, ex_l hidS_ex h1⟩, hq α1 _ H1 ds ρ1 R1 s1 (walks_list h1 hs) w1⟩, he⟩

/-! isinstance of the exception that is handled -/
theorem call_isP {a D : Addr} {oe : Obj} (C : ExcC X.K D) (hp : (a, oe) ∈ X.pn) (hz : Zc (.ref D) none oe) (hf : ∃ vs, oe.data = .fields vs) : CallR X (.builtin "isinstance") (rIsE X.K D a) := by
  intro pins s σ H xs us Q I r h
  obtain ⟨c, cv, b, rfl, hcv, e, q⟩ := h
  cases r with
  | cons rx rr =>
    cases rr with
    | cons rt rr =>
      cases rr
      cases rx
      have ec := hcv _ rt
      subst ec
      obtain ⟨hget, _⟩ := I.pin (a, oe) (List.mem_append.mpr (.inl hp))
      obtain ⟨vs, hv⟩ := hf
      have J : PySem.W.InstAt s.heap a oe D none := by
        obtain ⟨oc, od, oda, osl⟩ := oe
        obtain ⟨h1, h2⟩ := hz
        dsimp only at h1 h2 hv
        subst h1 h2 hv
        exact ⟨hget, rfl, rfl, trivial⟩
      exact PySem.W.kia_one (PySem.W.handS_kitx_exc C.hg C.hk C.hs C.hd C.ha C.hn C.ht C.hm) I.kIn J e (fun z => nomatch z) fun tk => ⟨.bl b, H, I.kept (t' := tk) fun _ _ z => z, rfl, q⟩
def wIsX (i : Nat) (a : Addr) (b : Bool) : WE := fun ρ R E => ρ[i]? = some (.ex a) ∧ R (.bool b) ρ
theorem dIsX {e : Expr} {i : Nat} {a D : Addr} {b : Bool} {c : V} {cv : Value} (h : PE X e (tCB (rIsE X.K D a) (tCons (tVar i) (tCons (tC c) tNil)))) (hc : ∀ u, RelV c u → u = cv) (hk : PySem.W.kitOne X.K (.ref D) cv = some b) : PE X e (cE X.K W (wIsX i a b)) :=
  peI h fun σ H Q ⟨θ, π, α, ρ, R, E, hR, hw, hq, he⟩ =>
    ⟨.ref a, hR.sl i _ hw.1, c, cv, b, rfl, hc, hk, hq α _ H _ ρ hR (Stp.refl ..) (.bl b) hw.2⟩

/-! the def that tells an exception's name -/
structure FnT (P : Program) (w : World) (K : PySem.W.Frag) (mg : Str → Option Value) (base : Heap) (k : Nat) (f : Addr) (fd : FuncData) (ps : List Str) (c : Addr) (t : Str) : Prop where
  run : ∀ (A : Around) (outer : List Env) (s : Shared) (H : Hp) (args : Args) (p : Addr × Obj) (Q : VK), L2H.RoomH k A → L2H.Hot1 A p → L2H.PinOk outer H s p → Env0 P w K mg base A outer s H → L2N.Zn (.ref c) none p.2 → (∀ b, Tbs.T b → isTb (H b)) →
    BindsTo s fd args (ps.zip [.ref p.1]) → (∀ H', ExT H H' → Q (.str t) H') → codeAny (model P w) A (.call (.ref f) args) (CR CX0 outer P w H s Q E0) s
/-- the context of its body -/
abbrev cxT (P : Program) (w : World) (K : PySem.W.Frag) (mg : Str → Option Value) (base : Heap) (N : List Str) (qual : Str) (scope : Scope) (f : Addr) (cd : Value) (A : Around) (outer : List Env) (s : Shared) (H : Hp) (p : Addr × Obj) : Cx := L2H.cxH CX0 P w K mg base N qual scope f cd A outer s H E0 p
theorem fnT {P : Program} {w : World} {mg : Str → Option Value} {base : Heap} {k : Nat} {x qual y : Str} {st : Stmt} {f c : Addr} {fd : FuncData} {N : List Str} {t : Str} {wb : Addr → WS} (F : Fun K x qual st f fd) (S : FnScope (y :: N) [y] (defScope st))
    (hb : ∀ (cdv : Value) (A : Around) (outer : List Env) (s : Shared) (H : Hp) (p : Addr × Obj), L2H.Hot1 A p → L2H.RoomH k (A.deeper (envOfC qual (defScope st) s.heap.objs.size f cdv)) → L2N.Zn (.ref c) none p.2 →
      PSs (cxT P w K mg base (y :: N) qual (defScope st) f cdv A outer s H p) (defBody st) (cS K WNo (wb p.1)))
    (hw : ∀ a, wb a { nx := fun _ => False, rt := fun d _ => d = .str t } (.ex a :: N.map fun _ => .no)) : FnT P w K mg base (k + 1) f fd [y] c t := by
  obtain ⟨oc, od, kV, doc, pm, an, cdv, ct, osl, rfl, lk, hcd⟩ := F.ex
  refine ⟨fun A outer s H args p Q hr hot hpin e0 hz htb hbt hQ => ?_⟩
  have KX : K.In s.heap := e0.mod.kin.keeps fun b o e => (e0.bs b o e).1
  have lim : s.heap.NoLimit := e0.mod.nolimit.keeps fun b o e => (e0.bs b o e).1
  have r : Vals [V.ref p.1] [Value.ref p.1] := .cons rfl .nil
  have hkind : ∀ z ∈ [y].zip [Value.ref p.1], (defScope st).names.lookup z.1 = some .local ∨ ((defScope st).names.lookup z.1 = some .cell ∧ ((cellsFrom (s.heap.objs.size + 1) (defScope st).names []).lookup z.1).isSome = true) := fun ⟨n, v⟩ hy => by
    rcases S.par n (List.of_mem_zip hy).1 with q | q
    · exact .inl q
    · exact .inr ⟨q, PySem.W.cellsFrom_some _ _ _ (.inl q)⟩
  refine codeAny_call_function hr.depth (KX _ _ lk) rfl S.co S.gen rfl (PySem.W.codeRec_of KX hcd) (hbt _ _ _ _ ?_)
  refine wpAny_newFunctionEnv_cells S.kind hkind fun env he s1 x => ?_
  subst he
  refine ⟨lim.keeps x.toInCall.keep, codeAny_func ?_⟩
  have ht := hb cdv A outer s H p hot (hr.deeper _) hz
  have I : Inv (cxT P w K mg base (y :: N) qual (defScope st) f cdv A outer s H p) [] (L2.start (y :: N) [.ref p.1]) H s1 := L2H.inv_startH S hpin e0 rfl r x
  have hRel : Rel K Tbs.T (fun _ => none) (fun _ => none) (L2.start (y :: N) [.ref p.1]) H (.ex p.1 :: N.map fun _ => .no) := by
    refine Rel.mk (by simp [L2.start]) (fun _ _ _ h => nomatch h) (fun _ _ h => nomatch h) (fun b h => by obtain ⟨ps, z, _⟩ := htb b h; rw [z]; intro q; cases q) (fun _ _ h => nomatch h) (fun _ _ h => nomatch h) (fun b h => ⟨h, htb b h⟩) (fun i s q => ?_)
    cases i with
    | zero =>
      have e : Sl.ex p.1 = s := Option.some.inj q
      subst e
      rfl
    | succ i =>
      have q : (N.map fun _ => Sl.no)[i]? = some s := q
      rw [List.getElem?_map] at q
      cases z : N[i]? with
      | none => rw [z] at q; cases q
      | some y => rw [z] at q; cases q; trivial
  refine wpAny_mono (ht.run [] s1 (L2.start (y :: N) [.ref p.1]) H { nx := fun _ _ => False, rt := Q } I ⟨_, _, _, _, _, hRel, hw p.1, ⟨fun _ _ _ _ _ _ h => h.elim, fun _ _ _ _ _ _ h => h.elim, fun _ _ _ _ _ _ h => h.elim, fun α' σ' H' v d ρ' r' s' dp h => ?_, fun _ _ _ _ _ _ _ _ _ _ _ _ h => h.elim, fun _ _ _ _ _ _ _ h => h.elim⟩⟩) (fun fl s' hs => ?_) fun e s' hs => hs
  · subst h
    cases dp
    have hS : Sof Tbs.T (fun _ => none) = Tbs.T := funext fun b => propext ⟨fun z => z.elim id fun ⟨i, z⟩ => (by cases z), fun z => .inl z⟩
    refine hQ H' ⟨?_, s'.2⟩
    have z := s'.1
    rw [hS] at z
    refine z.trans fun b o q => ?_
    unfold hidS at q ⊢
    split at q
    · cases q
    · rename_i h
      rw [if_neg (fun t => h (.inl t))]
      exact q
  have fin : ∀ {σ' : L2.St} {H' : Hp} {v : V} {u : Value}, Inv (cxT P w K mg base (y :: N) qual (defScope st) f cdv A outer s H p) [] σ' H' s' → RelV v u → Q v H' → CE outer P w H s Q u s' :=
    fun {σ' H' v u} J rv q => ⟨v, H', J.os, J.bare, J.base, J.hok, rv, q⟩
  cases fl with
  | ret u =>
    obtain ⟨v, σ', H', J, rv, q⟩ := hs
    exact fin J rv q
  | next => obtain ⟨_, _, _, q⟩ := hs; exact False.elim q
  | brk => obtain ⟨_, _, _, q⟩ := hs; exact False.elim q
  | cont => obtain ⟨_, _, _, q⟩ := hs; exact False.elim q
def wTold (i : Nat) (a : Addr) (t : Str) : WE := fun ρ R E => ρ[i]? = some (.ex a) ∧ R (.str t) ρ
theorem dTold {k i : Nat} {f a c : Addr} {fd : FuncData} {y : Str} {t : Str} {oe : Obj} {x z : Str} {q q2 pos : Pos} (F : FnT X.prog X.w X.K X.mg X.base k f fd [y] c t) (hr : L2H.RoomH k X.A) (hp : (a, oe) ∈ X.pn) (hh : X.A.handled = some (.ref a)) (hz : L2N.Zn (.ref c) none oe) (hf : ∃ vs, oe.data = .fields vs)
    (hg : Gl X x) (hm : X.mg x = some (.ref f)) (hk : PySem.W.keepIn X.K (.ref f) = true) (hb : Binds X.K fd [y] []) (hv : PE X (.Name z q2) (tVar i)) (hdb : (x == ("__debug__" : Str)) = false := by decide) (he : starEach [.Name z q2] X.env = [(false, eval (.Name z q2) X.env)] := by rfl) :
    PE X (.Call (.Name x q) [.Name z q2] [] pos) (cE X.K W (wTold i a t)) := by
  refine ⟨fun pins s σ H Q I h => ?_⟩
  obtain ⟨θ, π, α, ρ, R, E, hR, ⟨hw1, hw2⟩, hq, hex⟩ := h
  refine wpAny_Call_Name_kw (ld_glob I hg hm ?_ hdb)
  have ha : PA X [.Name z q2] (tCons (tVar i) tNil) := pa_cons hv pa_nil
  refine PySem.W.callWith_K (h₀ := X.base) I.ok.mod.kin hk (thn (ha.run pos pins s σ H (fun vs H' => vs = [.ref a] ∧ H' = H) I ⟨.ref a, hR.sl i _ hw1, rfl, rfl⟩) fun us s1 ⟨vs, H1, I1, r, e1, e2⟩ => ⟨I1.kIn, ?_⟩) he rfl
  subst e1 e2
  have eu : us = [.ref a] := by
    cases r with
    | cons rx rr => cases rr; cases rx; rfl
  subst eu
  have P1 := I1.pin (a, oe) (List.mem_append_left _ hp)
  obtain ⟨fv, hfv⟩ := hf
  have hot : L2H.Hot1 X.A (a, oe) := ⟨hh, fv, hfv, hz.2.2 fv hfv⟩
  have hpin : L2H.PinOk X.stack H1 s1 (a, oe) := ⟨P1.1, P1.2.1, fun hm => (List.mem_cons.mp (I1.stkSub a hm)).elim P1.2.2.1 P1.2.2.2.1, P1.2.2.2.2⟩
  have b := hb s1 [.ref a] I1.kIn rfl
  refine wpAny_call (codeAny_mono (F.run X.A X.stack s1 H1 ⟨[.ref a], []⟩ (a, oe) Q hr hot hpin I1.env0 hz (fun b h => (hR.tb b h).2) b fun H' ex => hq α _ H' _ ρ (hR.extT ex).1 (hR.extT ex).2 (.str t) hw2) fun r s' hq => ?_)
  cases r with
  | error e => exact hq.elim
  | ok fl =>
    cases fl with
    | ret u => exact I1.after hq
    | next => exact False.elim hq
    | brk => exact False.elim hq
    | cont => exact False.elim hq

/-! a suite by the exception's class -/
def wSuite (nm : Addr → Option Str) (w : Addr → Str → WS) : Addr → Addr → WS := fun a c B ρ => ∃ t, nm c = some t ∧ w a t B ρ
theorem suite_by {st : List Stmt} {a : Addr} {oe : Obj} {cls : Value} {d : Option Addr} {nm : Addr → Option Str} {w : Addr → Str → WS} (hz : L2N.Zn cls d oe)
    (h : ∀ c t, nm c = some t → L2N.Zn (.ref c) none oe → PSs X st (cS K WNo (w a t))) : PSs X st (fun D σ H => ∃ c, cls = .ref c ∧ d = none ∧ cS K WNo (wSuite nm w a c) D σ H) := by
  refine ⟨fun pins s σ H D I q => ?_⟩
  obtain ⟨c, rfl, rfl, θ, π, α, ρ, B, hR, ⟨t, ht, hw⟩, hf⟩ := q
  exact (h c t ht hz).run pins s σ H D I ⟨θ, π, α, ρ, B, hR, hw, hf⟩
def catOf (nm : Addr → Option Str) : Addr → Option Bool := fun c => (nm c).map fun _ => true
theorem dTryAs {x n : Str} {cv : Value} {i : Nat} {body suite : List Stmt} {b₀ : Stmt} {np pos pos' : Pos} {cat : Addr → Option Bool} {wb : WS} {ws : Addr → Addr → WS} (hcat : ∀ c b, cat c = some b → PySem.W.exmOne X.K (.ref c) cv = some b)
    (h1 : X.stack = X.env :: X.outer) (h2 : X.env.frame = some X.env.locals) (nd : X.N.Nodup) (hn : X.N[i]? = some n) (hk : X.env.kindOf n = some .local) (hx : Names X x cv) (tk : L2N.Takes X W)
    (hb : ∀ (W2 : WX) pn xe, L2N.Takes (X.tr pn xe) W2 → PassesOwn (model X.prog X.w) X.A X.env xe → PSs (X.tr pn xe) body (cS X.K W2 wb))
    (hs : ∀ a oe cls d pn, L2N.Zn cls d oe → (∃ vs, oe.data = .fields vs) → PSs (X.suite a ((a, oe) :: pn)) (b₀ :: suite) (fun D σ H => ∃ c, cls = .ref c ∧ d = none ∧ cS X.K WNo (ws a c) D σ H)) :
    PS X (.Try body [.ExceptHandler (some (.Name x np)) (some n) (b₀ :: suite) pos'] [] [] pos) (cS X.K W (wTry cat i wb ws)) :=
  dTry hcat (L2N.ps_try_as (tb := fun W' => cS X.K W' wb) (ts := fun a cls d => fun D σ H => ∃ c, cls = .ref c ∧ d = none ∧ cS X.K WNo (ws a c) D σ H) h1 h2 nd hn hk hx tk hb hs)
theorem markH {j k : Nat} {A : Around} {v : Option Value} (h : Room k A) (hj : j ≤ k) : L2H.RoomH j (A.mark v) := ⟨(L2H.roomH_of (h.mono hj)).dp, (L2H.roomH_of (h.mono hj)).un⟩
end
end Den

namespace Den
variable [Tbs]
open PySem L2 Evl PySem.Spec PyProof.Rows
open Classical
section
variable {K : PySem.W.Frag} {W : WX} {X : Cx} {θ : Addr → Prop} {π α : Nat → Option Addr} {σ σ2 : L2.St} {H H1 : Hp} {ρ : En} {p : Addr} {o : HO} {n : Nat}
theorem dGi {x : Str} {pos : Pos} {i : Int} (hg : Gl X x) (hm : ∃ t, X.mg x = some (.int i t)) (hd : (x == ("__debug__" : Str)) = false := by decide) : PE X (.Name x pos) (cE K W (wC (.int i))) := by
  obtain ⟨t, hm⟩ := hm
  exact dC (pe_glob (v := .int i) hg hm ⟨_, rfl⟩ hd) fun _ => .int _
theorem dGs {x : Str} {pos : Pos} {i : Str} (hg : Gl X x) (hm : ∃ t, X.mg x = some (.str i t)) (hd : (x == ("__debug__" : Str)) = false := by decide) : PE X (.Name x pos) (cE K W (wC (.str i))) := by
  obtain ⟨t, hm⟩ := hm
  exact dC (pe_glob (v := .str i) hg hm ⟨_, rfl⟩ hd) fun _ => .str _
theorem dI {i : Int} {j : Nat} {pos : Pos} : PE X (.Constant (.int i) j pos) (cE K W (wC (.int i))) := dC pe_int fun _ => .int _
theorem dB {i : Bool} {j : Nat} {pos : Pos} : PE X (.Constant (.bool i) j pos) (cE K W (wC (.bool i))) := dC pe_bl fun _ => .bl _
theorem dZ {j : Nat} {pos : Pos} : PE X (.Constant .none j pos) (cE K W (wC .none)) := dC pe_non fun _ => .non
theorem dX {x : Str} {j : Nat} {pos : Pos} : PE X (.Constant (.str x) j pos) (cE K W (wC (.str x))) := dC pe_str fun _ => .str _
theorem can_fe {w : WA} (σ : L2.St) (H : Hp) (Q : VK) (h : cE K W (wFE w) σ H Q) : cF K W w σ H Q := by
  obtain ⟨θ, π, α, ρ, R, E, hR, hw, hq, he⟩ := h
  refine ⟨θ, π, α, ρ, _, E, hR, hw, fun α1 p vs H1 ds ρ1 R1 s1 np h1 p1 w1 => ?_, he⟩
  obtain ⟨R2, hx⟩ := R1.unhide np h1
  have hnp : ¬ Sof θ α1 p := fun z => by
    rcases z with z | ⟨i, z⟩
    · exact np z
    · exact R1.ap i p z (.inr rfl)
  exact hq α1 (.ref p) H1 _ ρ1 R2 ⟨s1.1.trans hx, s1.2⟩ (.lst (.inl (.inl (by rw [hidS_in hnp]; exact h1))) (dpA_mono hx p1)) w1
section
variable {vs : List Nat} {wi : WI} {wg : WG} {wt : WT} {we : WE} {s : Stmt} {g : TG} {e : Expr}
theorem dLcF (h : PE X e (tLc (cI K W wi) (cGv K W vs wg) (cT K W wt) (cE K W we) vs)) : PE X e (cF K W (wLc vs wi wg wt we)) := peI h can_lc
theorem dLcSF (h : PS X s (tAsg (tLc (cI K W wi) (cGv K W vs wg) (cT K W wt) (cE K W we) vs) g)) : PS X s (tAsg (cF K W (wLc vs wi wg wt we)) g) := psI h fun D σ H q => can_lc σ H _ q
theorem dLcSE (h : PS X s (tAsg (tLc (cI K W wi) (cGv K W vs wg) (cT K W wt) (cE K W we) vs) g)) : PS X s (tAsg (cE K W (wFE (wLc vs wi wg wt we))) g) := psI (dLcSF h) fun D σ H q => can_fe σ H _ q
end
/-- over a list, a tuple -/
def iLT (K : PySem.W.Frag) (tl : TE) : TI := fun σ H R => tl σ H fun x H1 => ∃ a, x = .ref a ∧ (((∃ xs, SqL K H1 a xs) ∧ R (Itl K a) H1) ∨ ((∃ xs, SqT K H1 a xs) ∧ R (Itt K a) H1))
theorem pi_lt {tg l : Expr} {tl : TE} (hl : PE X l tl) : PI X tg l (iLT X.K tl) := by
  refine ⟨fun pins s σ H R I h => ?_⟩
  refine thn (hl.run pins s σ H _ I h) fun v s1 ⟨x, H1, I1, r1, q1⟩ => ?_
  obtain ⟨a, e, q1⟩ := q1
  subst e
  cases r1
  rcases q1 with ⟨⟨xs, hq⟩, q⟩ | ⟨⟨xs, hq⟩, q⟩
  · obtain ⟨its, rv, p, hz⟩ := I1.list hq
    refine wpAny_pyIter_list p.isList ?_
    refine ⟨s1.heap.objs.size, [s1.heap.objs.size], _, _, H1, rfl, I1.kept (t' := s1.toks) fun b o e => Heap.get?_push_of_some _ e, turn_list a _, ⟨_, Heap.get?_push_size _ rfl, rfl, rfl⟩, fun b hb => ?_, q⟩
    have e : b = s1.heap.objs.size := by simpa using hb
    subst e
    exact I1.fpOk (Nat.le_refl _) (I1.hok.fresh (Nat.le_refl _))
  · obtain ⟨its, rv, p, hz⟩ := I1.tuple hq
    refine wpAny_pyIter_tuple (show s1.heap.IsTuple a its.toArray from p) ?_
    refine ⟨s1.heap.objs.size, [s1.heap.objs.size], _, _, H1, rfl, I1.kept (t' := s1.toks) fun b o e => Heap.get?_push_of_some _ e, turn_tuple a _, ⟨_, Heap.get?_push_size _ rfl, rfl, rfl⟩, fun b hb => ?_, q⟩
    have e : b = s1.heap.objs.size := by simpa using hb
    subst e
    exact I1.fpOk (Nat.le_refl _) (I1.hok.fresh (Nat.le_refl _))
def wiA (w : WE) : WI := fun ρ R E => w ρ (fun d ρ' => match d with
  | .list ds => R ds ρ'
  | .tuple ds => R ds ρ'
  | _ => False) E
theorem diA {tg e : Expr} {w : WE} (h : PI X tg e (iLT K (cE K W w))) : PI X tg e (cI K W (wiA w)) := piI h fun σ H Q ⟨θ, π, α, ρ, R, E, hR, hw, hq, he⟩ =>
  ⟨θ, π, α, ρ, _, E, hR, hw, fun α1 v H1 d ρ1 R1 s1 p1 w1 => by
    split at w1
    · cases p1 with
      | lst h1 hs => exact ⟨_, rfl, .inl ⟨⟨_, ex_l hidS_ex h1⟩, hq α1 _ H1 _ ρ1 R1 s1 (walks_list h1 hs) w1⟩⟩
    · cases p1 with
      | tup h1 hs => exact ⟨_, rfl, .inr ⟨⟨_, ex_t hidS_ex h1⟩, hq α1 _ H1 _ ρ1 R1 s1 (walks_tup h1 hs) w1⟩⟩
    · exact w1.elim, he⟩
end
end Den

namespace Den
variable [Tbs]
open PySem L2 Evl PySem.Spec PyProof.Rows
open Classical
theorem kit_int : kitB "NoneType" "int" = some false ∧ kitB "bool" "int" = some (("int" : String) == "bool" || ("int" : String) == "int") ∧ kitB "int" "int" = some (("int" : String) == "int") ∧ kitB "str" "int" = some (("int" : String) == "str") ∧ kitB "list" "int" = some (("int" : String) == "list") ∧ kitB "tuple" "int" = some (("int" : String) == "tuple") := by decide +kernel
theorem kit_bool : kitB "NoneType" "bool" = some false ∧ kitB "bool" "bool" = some (("bool" : String) == "bool" || ("bool" : String) == "int") ∧ kitB "int" "bool" = some (("bool" : String) == "int") ∧ kitB "str" "bool" = some (("bool" : String) == "str") ∧ kitB "list" "bool" = some (("bool" : String) == "list") ∧ kitB "tuple" "bool" = some (("bool" : String) == "tuple") := by decide +kernel
theorem kit_str : kitB "NoneType" "str" = some false ∧ kitB "bool" "str" = some (("str" : String) == "bool" || ("str" : String) == "int") ∧ kitB "int" "str" = some (("str" : String) == "int") ∧ kitB "str" "str" = some (("str" : String) == "str") ∧ kitB "list" "str" = some (("str" : String) == "list") ∧ kitB "tuple" "str" = some (("str" : String) == "tuple") := by decide +kernel
theorem kit_list : kitB "NoneType" "list" = some false ∧ kitB "bool" "list" = some (("list" : String) == "bool" || ("list" : String) == "int") ∧ kitB "int" "list" = some (("list" : String) == "int") ∧ kitB "str" "list" = some (("list" : String) == "str") ∧ kitB "list" "list" = some (("list" : String) == "list") ∧ kitB "tuple" "list" = some (("list" : String) == "tuple") := by decide +kernel
theorem kit_tuple : kitB "NoneType" "tuple" = some false ∧ kitB "bool" "tuple" = some (("tuple" : String) == "bool" || ("tuple" : String) == "int") ∧ kitB "int" "tuple" = some (("tuple" : String) == "int") ∧ kitB "str" "tuple" = some (("tuple" : String) == "str") ∧ kitB "list" "tuple" = some (("tuple" : String) == "list") ∧ kitB "tuple" "tuple" = some (("tuple" : String) == "tuple") := by decide +kernel
/-- the law: any ints, at most 63, and it gives True -/
def SLaw : WF := fun ps R _ => ∃ ns : List Int, ns.length ≤ 63 ∧ (∀ z ∈ ns, Builtin.Int.intBits z ≤ 1048576) ∧ ps = [.va (.list (ns.map PyData.int))] ∧ R (.bool true) [.no]
def spLaw (K : PySem.W.Frag) : Sp := fun vs H Q _ => ∃ (a : Addr) (ns : List Int), vs = [.ref a] ∧ (∀ b, Tbs.T b → isTb (H b)) ∧ SqL K H a (ns.map V.int) ∧ ns.length ≤ 63 ∧ (∀ z ∈ ns, Builtin.Int.intBits z ≤ 1048576) ∧ ∀ H', Q (.bl true) H'
theorem spLaw_imp {K : PySem.W.Frag} {vs : List V} {H : Hp} {Q : VK} {E : XK} (h : spLaw K vs H Q E) : toSp K 1 SLaw vs H Q E := by
  obtain ⟨a, ns, rfl, ht, hs, hl, hbits, k⟩ := h
  have hS : Sof Tbs.T (fun _ => none) = Tbs.T := funext fun b => propext ⟨fun z => z.elim id fun ⟨i, z⟩ => (by cases z), fun z => .inl z⟩
  have hs' : SqL K (hidS Tbs.T H) a (ns.map V.int) := by
    rcases hs with (h | ⟨o, h⟩) | h
    · exact .inl (.inl (by rw [hidS_in (fun z => by obtain ⟨ps, q, _⟩ := ht a z; rw [h] at q; cases q)]; exact h))
    · exact .inl (.inr ⟨o, by rw [hidS_in (fun z => by obtain ⟨ps, q, _⟩ := ht a z; rw [h] at q; cases q)]; exact h⟩)
    · exact .inr h
  refine ⟨Tbs.T, fun _ => none, [.va (.list (ns.map PyData.int))], fun d _ => d = .bool true, NoE, rfl, Rel.mk rfl (fun _ _ _ h => nomatch h) (fun _ _ h => nomatch h) (fun b h => by obtain ⟨ps, z, _⟩ := ht b h; rw [z]; intro q; cases q) (fun _ _ h => nomatch h) (fun _ _ h => nomatch h) (fun b h => ⟨h, ht b h⟩) (fun i s q => ?_), ⟨ns, hl, hbits, rfl, rfl⟩, fun v H' d os _ _ _ dp hd => ?_, fun _ _ _ _ _ _ z => z.elim⟩
  · cases i with
    | zero =>
      have q : Sl.va (.list (ns.map PyData.int)) = s := Option.some.inj q
      subst q
      exact ⟨.ref a, rfl, by rw [hS]; exact .lst hs' (dpA_ints ns)⟩
    | succ i => simp at q
  · subst hd
    cases dp
    exact k H'
end Den

namespace Den
variable [Tbs]
open PySem L2 Evl PySem.Spec PyProof.Rows
section
variable {nx : En → Prop} {rt : D → En → Prop} {rf : List D → En → Prop} {bk ct : En → Prop} {rs : Addr → En → Prop} {B : Bx} {ρ ρ' : En} {R : RC} {E : EC} {T : Bool → En → Prop} {A : List D → En → Prop} {M : List Ar → En → Prop} {i j : Nat} {d e : D} {w wa wb wc : WE} {ws wz : WS} {ls la lb lc : WL} {wt ta tb : WT} {ar : WA} {wm : WM} {wi : WI} {wg : WG} {P Q : Prop} {k : D → Prop}
theorem s_next (h : nx ρ) : wNext ⟨nx, rt, rf, bk, ct, rs⟩ ρ := h
theorem s_seq (h : ws ⟨wz ⟨nx, rt, rf, bk, ct, rs⟩, rt, rf, bk, ct, rs⟩ ρ) : wSeq ws wz ⟨nx, rt, rf, bk, ct, rs⟩ ρ := h
theorem s_set (h : w ρ (fun d ρ' => asgV i (.va d) ρ' nx) rs) : wSet i w ⟨nx, rt, rf, bk, ct, rs⟩ ρ := h
theorem s_setO (h : ar ρ (fun d ρ' => asgV i (.ow d) ρ' nx) rs) : wSetO i ar ⟨nx, rt, rf, bk, ct, rs⟩ ρ := h
theorem s_asgn (h : w ρ (fun d ρ' => wg d ρ' nx rs) rs) : wAsg w wg ⟨nx, rt, rf, bk, ct, rs⟩ ρ := h
theorem s_ret (h : w ρ rt rs) : wRet w ⟨nx, rt, rf, bk, ct, rs⟩ ρ := h
theorem s_retN (h : rt .none ρ) : wRetN ⟨nx, rt, rf, bk, ct, rs⟩ ρ := h
theorem s_retF (h : ar ρ rf rs) : wRetF ar ⟨nx, rt, rf, bk, ct, rs⟩ ρ := h
theorem s_drop (h : w ρ (fun _ ρ' => nx ρ') rs) : wDrop w ⟨nx, rt, rf, bk, ct, rs⟩ ρ := h
theorem s_ifs (h : wt ρ (fun c ρ' => if c = true then ws ⟨nx, rt, rf, bk, ct, rs⟩ ρ' else wz ⟨nx, rt, rf, bk, ct, rs⟩ ρ') rs) : wIfS wt ws wz ⟨nx, rt, rf, bk, ct, rs⟩ ρ := h
theorem s_break (h : bk ρ) : wBreak ⟨nx, rt, rf, bk, ct, rs⟩ ρ := h
theorem s_cont (h : ct ρ) : wCont ⟨nx, rt, rf, bk, ct, rs⟩ ρ := h
theorem s_raise {c : Addr} (h : rs c ρ) : wRaise c ⟨nx, rt, rf, bk, ct, rs⟩ ρ := h
/-- ρ at i is not a lent list -/
def nio : Option Sl → Bool
  | some (.io _) => false
  | none => false
  | _ => true
theorem s_asg {s : Sl} (ρ' : En) (h1 : nio ρ[i]? = true) (e : ρ.set i s = ρ') (h : nx ρ') : asgV i s ρ nx := by
  unfold asgV
  rw [← e] at h
  cases q : ρ[i]? with
  | none => rw [q] at h1; cases h1
  | some x =>
    cases x with
    | io ds => rw [q] at h1; cases h1
    | no => exact h
    | va d => exact h
    | ow ds => exact h
    | ex a => exact h
theorem s_app (h : (∃ k, ownd ρ j k) ∧ w ρ (fun d ρ' => ownd ρ' j fun ds f => ds.length < sizeLine ∧ nx (f (ds ++ [d]))) rs) : wApp j w ⟨nx, rt, rf, bk, ct, rs⟩ ρ := h
theorem s_put (h : w ρ (fun d ρ1 => (∃ k, ownd ρ1 j k) ∧ ls ρ1 (fun L ρ2 => ∃ (z : Int), L ρ2 (.int z) ∧ ownd ρ2 j fun ds f => ∃ m, ixN ds.length z = some m ∧ nx (f (ds.set m d))) rs) rs) : wPut j w ls ⟨nx, rt, rf, bk, ct, rs⟩ ρ := h
theorem s_owd {k : List D → (List D → En) → Prop} (ds : List D) (h : ρ[j]? = some (.ow ds)) (q : k ds fun es => ρ.set j (.ow es)) : ownd ρ j k := by unfold ownd; rw [h]; exact q
theorem s_oio {k : List D → (List D → En) → Prop} (ds : List D) (h : ρ[j]? = some (.io ds)) (q : k ds fun es => ρ.set j (.io es)) : ownd ρ j k := by unfold ownd; rw [h]; exact q
theorem s_unp {is : List Nat} (h : ls ρ (fun L ρ1 => ∃ ds, L ρ1 (.list ds) ∧ asgAll is ds ρ1 nx) rs) : wUnp is ls ⟨nx, rt, rf, bk, ct, rs⟩ ρ := h
theorem s_unpT {is : List Nat} (h : ls ρ (fun L ρ1 => ∃ ds, L ρ1 (.tuple ds) ∧ asgAll is ds ρ1 nx) rs) : wUnpT is ls ⟨nx, rt, rf, bk, ct, rs⟩ ρ := h
theorem s_all0 (h : nx ρ) : asgAll [] [] ρ nx := h
theorem s_alls {is : List Nat} {ds : List D} (h : asgV i (.va d) ρ fun ρ' => asgAll is ds ρ' nx) : asgAll (i :: is) (d :: ds) ρ nx := h
theorem s_gname (h : asgV i (.va d) ρ nx) : wgName i d ρ nx rs := h
theorem s_gtup {is : List Nat} {ds : List D} (h : asgAll is ds ρ nx) : wgTup is (.tuple ds) ρ nx rs := ⟨_, rfl, h⟩
theorem s_glst {is : List Nat} {ds : List D} (h : asgAll is ds ρ nx) : wgLst is (.list ds) ρ nx rs := ⟨_, rfl, h⟩
theorem s_for (h : wi ρ (fun ds ρ1 => ∃ Inv : Nat → En → Prop, Inv 0 ρ1 ∧
  (∀ i d ρ', ds[i]? = some d → Inv i ρ' → wg d ρ' (fun ρ2 => ws ⟨Inv (i + 1), rt, rf, nx, Inv (i + 1), rs⟩ ρ2) rs) ∧ ∀ ρ', Inv ds.length ρ' → nx ρ') rs) : wFor wi wg ws ⟨nx, rt, rf, bk, ct, rs⟩ ρ := h
def catK (o : Option Bool) (T F : Prop) : Prop := match o with
  | some true => T
  | some false => F
  | none => False
theorem catK_t {o : Option Bool} {T F : Prop} (e : o = some true) (h : T) : catK o T F := by subst e; exact h
theorem catK_f {o : Option Bool} {T F : Prop} (e : o = some false) (h : F) : catK o T F := by subst e; exact h
theorem s_try {cat : Addr → Option Bool} {wx : Addr → Addr → WS} (h : ws ⟨nx, rt, rf, bk, ct, fun c ρ' => catK (cat c) (∀ a, asgV i (.ex a) ρ' fun ρ2 => wx a c ⟨fun ρ => asgV i .no ρ nx, rt, rf, fun ρ => asgV i .no ρ bk, fun ρ => asgV i .no ρ ct, NoE⟩ ρ2) (rs c ρ')⟩ ρ) : wTry cat i ws wx ⟨nx, rt, rf, bk, ct, rs⟩ ρ := h
theorem s_suite {nm : Addr → Option Str} {wx : Addr → Str → WS} {a c : Addr} {t : Str} (e : nm c = some t) (h : wx a t B ρ) : wSuite nm wx a c B ρ := ⟨t, e, h⟩
theorem s_told {a : Addr} {t : Str} (e : ρ[i]? = some (.ex a)) (h : R (.str t) ρ) : wTold i a t ρ R E := ⟨e, h⟩
theorem s_isX {a : Addr} {b : Bool} (e : ρ[i]? = some (.ex a)) (h : R (.bool b) ρ) : wIsX i a b ρ R E := ⟨e, h⟩
theorem s_L {L : (En → D → Prop) → En → Prop} (h : w ρ (fun d ρ' => L (fun _ d' => d' = d) ρ') E) : wL w ρ L E := h
theorem s_N (d : D) {L : (En → D → Prop) → En → Prop} (e : rd ρ j = some d) (h : L (fun ρ' d => rd ρ' j = some d) ρ) : wN j ρ L E := ⟨⟨d, e⟩, h⟩
theorem s_C (h : R d ρ) : wC d ρ R E := h
theorem s_Va (d : D) (e : ρ[j]? = some (.va d)) (h : R d ρ) : wV j ρ R E := by unfold wV; rw [e]; exact h
theorem s_Vo (ds : List D) (e : ρ[j]? = some (.ow ds)) (h : R (.list ds) (ρ.set j (.va (.list ds)))) : wV j ρ R E := by unfold wV; rw [e]; exact h
theorem s_VF (ds : List D) (e : ρ[j]? = some (.ow ds)) (h : A ds (ρ.set j .no)) : wVF j ρ A E := by unfold wVF; rw [e]; exact h
theorem s_op {f : D → D → (D → Prop) → Prop} (h : la ρ (fun La ρ1 => lb ρ1 (fun Lb ρ2 => ∃ d e, La ρ2 d ∧ Lb ρ2 e ∧ f d e (fun z => R z ρ2)) E) E) : wOp f la lb ρ R E := h
theorem s_un {f : D → (D → Prop) → Prop} (h : la ρ (fun La ρ1 => ∃ d, La ρ1 d ∧ f d (fun z => R z ρ1)) E) : wUn f la ρ R E := h
theorem s_B1 {f : D → (D → Prop) → Prop} (h : la ρ (fun La ρ1 => ∃ d, La ρ1 d ∧ f d (fun z => R z ρ1)) E) : wB1 f la ρ R E := h
theorem s_B2 {f : D → D → (D → Prop) → Prop} (h : la ρ (fun La ρ1 => lb ρ1 (fun Lb ρ2 => ∃ d e, La ρ2 d ∧ Lb ρ2 e ∧ f d e (fun z => R z ρ2)) E) E) : wB2 f la lb ρ R E := h
theorem s_isi {n : String} (h : la ρ (fun L ρ1 => ∃ d, L ρ1 d ∧ R (.bool (isK n d)) ρ1) E) : wIsi n la ρ R E := h
theorem s_chain {f f' : D → D → (D → Prop) → Prop} (h : la ρ (fun La ρ1 => lb ρ1 (fun Lb ρ2 => ∃ d e, La ρ2 d ∧ Lb ρ2 e ∧ f d e (fun z => ∃ k, z = .bool k ∧
  if k = true then lc ρ2 (fun Lc ρ3 => ∃ e' g, Lb ρ3 e' ∧ Lc ρ3 g ∧ f' e' g (fun z => R z ρ3)) E else R (.bool false) ρ2)) E) E) : wChain f f' la lb lc ρ R E := h
theorem s_Tb (h : w ρ (fun d ρ' => ∃ b, d = .bool b ∧ T b ρ') E) : wTb w ρ T E := h
theorem s_And (h : ta ρ (fun b ρ1 => if b = true then tb ρ1 T E else T false ρ1) E) : wAnd ta tb ρ T E := h
theorem s_Or (h : ta ρ (fun b ρ1 => if b = true then T true ρ1 else tb ρ1 T E) E) : wOr ta tb ρ T E := h
theorem s_Not (h : ta ρ (fun b ρ1 => T (!b) ρ1) E) : wNot ta ρ T E := h
theorem s_AndV (h : wa ρ (fun d ρ1 => ∃ b, d = .bool b ∧ if b = true then wb ρ1 R E else R (.bool false) ρ1) E) : wAndV wa wb ρ R E := h
theorem s_OrV (h : wa ρ (fun d ρ1 => ∃ b, d = .bool b ∧ if b = true then R (.bool true) ρ1 else wb ρ1 R E) E) : wOrV wa wb ρ R E := h
theorem s_NotV (h : wa ρ (fun d ρ1 => ∃ b, d = .bool b ∧ R (.bool (!b)) ρ1) E) : wNotV wa ρ R E := h
theorem s_If (h : wt ρ (fun b ρ1 => if b = true then wa ρ1 R E else wb ρ1 R E) E) : wIf wt wa wb ρ R E := h
theorem s_aNil (h : A [] ρ) : waNil ρ A E := h
theorem s_aCons (h : w ρ (fun d ρ1 => ar ρ1 (fun ds ρ2 => A (d :: ds) ρ2) E) E) : waCons w ar ρ A E := h
theorem s_Tup (h : ar ρ (fun ds ρ' => R (.tuple ds) ρ') E) : wTup ar ρ R E := h
theorem s_FE (h : ar ρ (fun ds ρ' => R (.list ds) ρ') E) : wFE ar ρ R E := h
theorem s_mNil (h : M [] ρ) : wmNil ρ M E := h
theorem s_mV (h : w ρ (fun d ρ1 => wm ρ1 (fun as ρ2 => M (.v d :: as) ρ2) E) E) : wmV w wm ρ M E := h
theorem s_mIo (d : D) (e : rd ρ j = some d) (h : wm ρ (fun as ρ2 => M (.io j :: as) ρ2) E) : wmIo j wm ρ M E := ⟨⟨d, e⟩, h⟩
theorem s_call {S : WF} (h : wm ρ (fun as ρ2 => ∃ ps, pars ρ2 as = some ps ∧ (ios as).Nodup ∧ S ps (fun d os => R d (upds ρ2 as os)) (fun c os => E c (upds ρ2 as os))) E) : wCall S wm ρ R E := h
theorem s_call0 {S : WF} (h : wm ρ (fun as ρ2 => ∃ ps, pars ρ2 as = some ps ∧ (ios as).Nodup ∧ S ps (fun d os => R d (upds ρ2 as os)) NoE) E) : wCall0 S wm ρ R E := h
theorem s_callF {S : WFF} (h : wm ρ (fun as ρ2 => ∃ ps, pars ρ2 as = some ps ∧ (ios as).Nodup ∧ S ps (fun d os => A d (upds ρ2 as os)) (fun c os => E c (upds ρ2 as os))) E) : wCallF S wm ρ A E := h
theorem s_args {as : List Ar} {G : List Sl → Prop} (ps : List Sl) (e : pars ρ as = some ps) (n : (ios as).Nodup) (h : G ps) : ∃ ps, pars ρ as = some ps ∧ (ios as).Nodup ∧ G ps := ⟨ps, e, n, h⟩
theorem s_iAl {ds : List D} (h : A ds ρ) : (match (PyData.list ds), ρ with
  | .list ds, ρ' => A ds ρ'
  | .tuple ds, ρ' => A ds ρ'
  | _, _ => False) := h
theorem s_iA {G : List D → En → Prop} (h : w ρ (fun d ρ' => match d with
  | .list ds => G ds ρ'
  | .tuple ds => G ds ρ'
  | _ => False) E) : wiA w ρ G E := h
theorem s_iL {G : List D → En → Prop} (h : w ρ (fun d ρ' => ∃ ds, d = .list ds ∧ G ds ρ') E) : wiL w ρ G E := h
theorem s_iT {G : List D → En → Prop} (h : w ρ (fun d ρ' => ∃ ds, d = .tuple ds ∧ G ds ρ') E) : wiT w ρ G E := h
theorem s_iR1 {G : List D → En → Prop} (h : ar ρ (fun ds ρ' => ∃ n : Int, ds = [.int n] ∧ (-(2 ^ 62) ≤ n ∧ n < 2 ^ 62) ∧ G (rng 0 n.toNat) ρ') E) : wiR1 ar ρ G E := h
theorem s_iR1e {n : Int} {G : List D → Prop} (h : G (rng 0 n.toNat)) (g : -(2 ^ 62) ≤ n ∧ n < 2 ^ 62) : ∃ m : Int, ([.int n] : List D) = [.int m] ∧ (-(2 ^ 62) ≤ m ∧ m < 2 ^ 62) ∧ G (rng 0 m.toNat) := ⟨n, rfl, g, h⟩
theorem s_pNo {G : Option Int → En → Prop} (h : G none ρ) : wpNo ρ G E := h
theorem s_pAt {G : Option Int → En → Prop} (h : w ρ (fun d ρ' => ∃ i, d = .int i ∧ G (some i) ρ') E) : wpAt w ρ G E := h
theorem s_slL {wl wh : WO} (h : ls ρ (fun L ρ1 => wl ρ1 (fun lo ρ2 => wh ρ2 (fun hi ρ3 => ∃ ds, L ρ3 (.list ds) ∧ A (cutG ds lo hi) ρ3) E) E) E) : wSlL ls wl wh ρ A E := h
theorem s_Yes (h : T true ρ) : wYes ρ T E := h
/-- the values -/
theorem s_i {g : Int → Int → D} {a b : Int} (h : k (g a b)) : f2i g (.int a) (.int b) k := h
theorem s_I {C : Int → Int → Prop} {g : Int → Int → D} {a b : Int} (h : k (g a b)) (c : C a b) : f2I C g (.int a) (.int b) k := ⟨c, h⟩
theorem s_powl {a b : Int} (r : Int) (c : CPow a b) (e : a ^ b.toNat = r) (h : k (.int r)) : f2I CPow (fun i j => .int (i ^ j.toNat)) (.int a) (.int b) k := ⟨c, by show k (.int (a ^ b.toNat)); rw [e]; exact h⟩
theorem s_addi {a b : Int} (h : k (.int (a + b))) : fAdd (.int a) (.int b) k := h
theorem s_addl {a b : List D} (h : k (.list (a ++ b))) (c : a.length + b.length ≤ sizeLine) : fAdd (.list a) (.list b) k := ⟨c, h⟩
theorem s_addt {a b : List D} (h : k (.tuple (a ++ b))) (c : a.length + b.length ≤ sizeLine) : fAdd (.tuple a) (.tuple b) k := ⟨c, h⟩
theorem s_adds {a b : Str} (h : k (.str (a ++ b))) (c : a.length + b.length ≤ sizeLine) : fAdd (.str a) (.str b) k := ⟨c, h⟩
theorem s_neg {a : Int} (h : k (.int (-a))) : fNeg (.int a) k := h
theorem s_eqi {a b : Int} (h : k (.bool (decide (a = b)))) : fEq (.int a) (.int b) k := h
theorem s_nei {a b : Int} (h : k (.bool (!decide (a = b)))) : fNe (.int a) (.int b) k := h
theorem s_eqs {a b : Str} (h : k (.bool (decide (a = b)))) : fEq (.str a) (.str b) k := h
theorem s_nes {a b : Str} (h : k (.bool (!decide (a = b)))) : fNe (.str a) (.str b) k := h
theorem s_isB {a b : Bool} (h : k (.bool (decide (a = b)))) : fIsB (.bool a) (.bool b) k := h
theorem s_notB {a b : Bool} (h : k (.bool (!decide (a = b)))) : fNotB (.bool a) (.bool b) k := h
theorem s_ixl {ds : List D} {z : Int} (x : D) (e : atI ds z = some x) (h : k x) : fIx (.list ds) (.int z) k := ⟨x, e, h⟩
theorem s_ixt {ds : List D} {z : Int} (x : D) (e : atI ds z = some x) (h : k x) : fIx (.tuple ds) (.int z) k := ⟨x, e, h⟩
theorem s_abs {a : Int} (h : k (.int (if a < 0 then -a else a))) : fAbs (.int a) k := h
theorem s_int {a : Int} (h : k (.int a)) : fInt (.int a) k := h
theorem s_lenl {ds : List D} (h : k (.int ds.length)) : fLen (.list ds) k := h
theorem s_lent {ds : List D} (h : k (.int ds.length)) : fLen (.tuple ds) k := h
theorem s_gcd {a b : Int} (h : k (.int ((Nat.gcd a.natAbs b.natAbs : Nat) : Int))) : fGcd (.int a) (.int b) k := h
/-- ways -/
theorem s_ift {c : Bool} (e : c = true) (h : P) : if c = true then P else Q := by rw [if_pos e]; exact h
theorem s_iff {c : Bool} (e : c = false) (h : Q) : if c = true then P else Q := by rw [e]; exact h
theorem s_ifd {p : Prop} [Decidable p] (h1 : p → P) (h2 : ¬p → Q) : if decide p = true then P else Q := by
  by_cases h : p
  · rw [if_pos (decide_eq_true h)]; exact h1 h
  · rw [decide_eq_false h]; exact h2 h
theorem s_ifn {p : Prop} [Decidable p] (h1 : ¬p → P) (h2 : p → Q) : if (!decide p) = true then P else Q := by
  by_cases h : p
  · rw [decide_eq_true h]; exact h2 h
  · rw [decide_eq_false h]; exact h1 h
theorem s_ifb {c : Bool} (h1 : c = true → P) (h2 : c = false → Q) : if c = true then P else Q := by
  cases c
  · exact h2 rfl
  · exact h1 rfl
/-- calls: what comes back -/
theorem up_v {as : List Ar} {s : Sl} {os : List Sl} : upds ρ (.v d :: as) (s :: os) = upds ρ as os := rfl
theorem up_nil : upds ρ [] [] = ρ := rfl
theorem s_fr0 (h : nx ρ) : forRun wg ws ⟨nx, rt, rf, bk, ct, rs⟩ [] ρ := h
theorem s_frs {ds : List D} (h : wg d ρ (fun ρ2 => ws ⟨forRun wg ws ⟨nx, rt, rf, bk, ct, rs⟩ ds, rt, rf, nx, forRun wg ws ⟨nx, rt, rf, bk, ct, rs⟩ ds, rs⟩ ρ2) rs) : forRun wg ws ⟨nx, rt, rf, bk, ct, rs⟩ (d :: ds) ρ := h
theorem s_run {ds : List D} (bk ct : En → Prop) (es : List D) (e : ds = es) (h : forRun wg ws ⟨nx, rt, rf, bk, ct, rs⟩ es ρ) : ∃ Inv : Nat → En → Prop, Inv 0 ρ ∧
  (∀ i d ρ', ds[i]? = some d → Inv i ρ' → wg d ρ' (fun ρ2 => ws ⟨Inv (i + 1), rt, rf, nx, Inv (i + 1), rs⟩ ρ2) rs) ∧ ∀ ρ', Inv ds.length ρ' → nx ρ' := by
  subst e
  exact for_run (B := ⟨nx, rt, rf, bk, ct, rs⟩) h
theorem s_inv {ds : List D} (Inv : Nat → En → Prop) (h0 : Inv 0 ρ) (h : ∀ i d ρ', ds[i]? = some d → Inv i ρ' → wg d ρ' (fun ρ2 => ws ⟨Inv (i + 1), rt, rf, nx, Inv (i + 1), rs⟩ ρ2) rs) (hn : ∀ ρ', Inv ds.length ρ' → nx ρ') : ∃ Inv : Nat → En → Prop, Inv 0 ρ ∧
  (∀ i d ρ', ds[i]? = some d → Inv i ρ' → wg d ρ' (fun ρ2 => ws ⟨Inv (i + 1), rt, rf, nx, Inv (i + 1), rs⟩ ρ2) rs) ∧ ∀ ρ', Inv ds.length ρ' → nx ρ' := ⟨Inv, h0, h, hn⟩
theorem s_cut {ds : List D} (Z : En → Prop) (hz : ∀ ρ', Z ρ' → nx ρ') (h : (∀ ρ', Z ρ' → nx ρ') → ∃ Inv : Nat → En → Prop, Inv 0 ρ ∧
  (∀ i d ρ', ds[i]? = some d → Inv i ρ' → wg d ρ' (fun ρ2 => ws ⟨Inv (i + 1), rt, rf, nx, Inv (i + 1), rs⟩ ρ2) rs) ∧ ∀ ρ', Inv ds.length ρ' → nx ρ') : ∃ Inv : Nat → En → Prop, Inv 0 ρ ∧
  (∀ i d ρ', ds[i]? = some d → Inv i ρ' → wg d ρ' (fun ρ2 => ws ⟨Inv (i + 1), rt, rf, nx, Inv (i + 1), rs⟩ ρ2) rs) ∧ ∀ ρ', Inv ds.length ρ' → nx ρ' := h hz
theorem s_lc {vs : List Nat} (h : wi ρ (fun ds ρ1 => ∃ Inv : Nat → List D → En → Prop, Inv 0 [] ρ1 ∧
  (∀ i d acc ρ', ds[i]? = some d → Inv i acc ρ' → okw ρ' vs ∧ wg d (wipeE ρ' vs) (fun ρ2 => wt ρ2 (fun b ρ3 =>
    if b = true then w ρ3 (fun y ρ4 => acc.length < sizeLine ∧ okw ρ4 vs ∧ Inv (i + 1) (acc ++ [y]) (back ρ' vs ρ4)) NoE else okw ρ3 vs ∧ Inv (i + 1) acc (back ρ' vs ρ3)) NoE) NoE) ∧
  ∀ acc ρ', Inv ds.length acc ρ' → A acc ρ') E) : wLc vs wi wg wt w ρ A E := h
theorem s_lr {vs : List Nat} {ds : List D} (h : lcRun vs wg wt w A ds [] ρ) : ∃ Inv : Nat → List D → En → Prop, Inv 0 [] ρ ∧
  (∀ i d acc ρ', ds[i]? = some d → Inv i acc ρ' → okw ρ' vs ∧ wg d (wipeE ρ' vs) (fun ρ2 => wt ρ2 (fun b ρ3 =>
    if b = true then w ρ3 (fun y ρ4 => acc.length < sizeLine ∧ okw ρ4 vs ∧ Inv (i + 1) (acc ++ [y]) (back ρ' vs ρ4)) NoE else okw ρ3 vs ∧ Inv (i + 1) acc (back ρ' vs ρ3)) NoE) NoE) ∧
  ∀ acc ρ', Inv ds.length acc ρ' → A acc ρ' := lc_run h
theorem s_lr0 {vs : List Nat} {acc : List D} (h : A acc ρ) : lcRun vs wg wt w A [] acc ρ := h
theorem s_lrs {vs : List Nat} {ds acc : List D} (o : okw ρ vs) (h : wg d (wipeE ρ vs) (fun ρ2 => wt ρ2 (fun b ρ3 =>
    if b = true then w ρ3 (fun y ρ4 => acc.length < sizeLine ∧ okw ρ4 vs ∧ lcRun vs wg wt w A ds (acc ++ [y]) (back ρ vs ρ4)) NoE else okw ρ3 vs ∧ lcRun vs wg wt w A ds acc (back ρ vs ρ3)) NoE) NoE) : lcRun vs wg wt w A (d :: ds) acc ρ := ⟨o, h⟩
end
end Den

namespace Den
variable [Tbs]
open PySem L2 Evl PySem.Spec PyProof.Rows
/-! any, all: pulled value by value; c is the truth value at which the pulling stops -/
section
variable {prog : Program} {w : World} {A : Around} {I : Addr} {c : Bool} {R : Bool → Shared → Prop} {E : Value → Shared → Prop}
def Pull (prog : Program) (w : World) (A : Around) (I : Addr) (c : Bool) (E : Value → Shared → Prop) : Nat → (Bool → Shared → Prop) → Shared → Prop
  | 0, R, s => wpAny (model prog w) A (pyNext (.ref I)) (fun o s' => (o = none ∧ R (!c) s') ∨ (o = some (.bool c) ∧ R c s')) E s
  | n + 1, R, s => wpAny (model prog w) A (pyNext (.ref I)) (fun o s' => (o = none ∧ R (!c) s') ∨ ∃ b, o = some (.bool b) ∧ ((b = c ∧ R c s') ∨ (b = !c ∧ Pull prog w A I c E n R s'))) E s
def outB (R : Bool → Shared → Prop) (E : Value → Shared → Prop) : Result → Shared → Prop := fun r s => match r with
  | .ok (.ret v) => ∃ b, v = .bool b ∧ R b s
  | .ok _ => False
  | .error e => E e s
theorem all_loop : ∀ (n : Nat) (s : Shared), Pull prog w A.in1 I false E n R s → codeAny (model prog w) A (.builtin "all.loop" ⟨[.ref I], []⟩) (outB R E) s
  | 0, s, h => by
    refine codeAny_builtin F.entry_all_loop ?_
    rw [Around.under_plainId F.plain_all_loop _]
    refine (wpAny_bind (wpAny_mono h (fun o s' q => ?_) fun e s' q => q) : wpAny _ A.in1 (pyNext (.ref I) >>= _) _ _ s)
    rcases q with ⟨e, q⟩ | ⟨e, q⟩
    · subst e
      exact wpAny_bind (wpAny_rule (wpAny_pure ⟨true, rfl, q⟩))
    · subst e
      exact wpAny_bind (wpAny_holding (wpAny_truthy_bool (wpAny_bind (wpAny_letGo (wpAny_bind (wpAny_rule (wpAny_pure ⟨false, rfl, q⟩)))))))
  | n + 1, s, h => by
    refine codeAny_builtin F.entry_all_loop ?_
    rw [Around.under_plainId F.plain_all_loop _]
    refine (wpAny_bind (wpAny_mono h (fun o s' q => ?_) fun e s' q => q) : wpAny _ A.in1 (pyNext (.ref I) >>= _) _ _ s)
    rcases q with ⟨e, q⟩ | ⟨b, e, q⟩
    · subst e
      exact wpAny_bind (wpAny_rule (wpAny_pure ⟨true, rfl, q⟩))
    · subst e
      refine wpAny_bind (wpAny_holding (wpAny_truthy_bool (wpAny_bind (wpAny_letGo ?_))))
      rcases q with ⟨e, q⟩ | ⟨e, q⟩
      · subst e
        exact wpAny_bind (wpAny_rule (wpAny_pure ⟨false, rfl, q⟩))
      · subst e
        exact wpAny_pure ⟨plainId_quiet F.plain_all_loop _, all_loop n s' q⟩
theorem any_loop : ∀ (n : Nat) (s : Shared), Pull prog w A.in1 I true E n R s → codeAny (model prog w) A (.builtin "any.loop" ⟨[.ref I], []⟩) (outB R E) s
  | 0, s, h => by
    refine codeAny_builtin F.entry_any_loop ?_
    rw [Around.under_plainId F.plain_any_loop _]
    refine (wpAny_bind (wpAny_mono h (fun o s' q => ?_) fun e s' q => q) : wpAny _ A.in1 (pyNext (.ref I) >>= _) _ _ s)
    rcases q with ⟨e, q⟩ | ⟨e, q⟩
    · subst e
      exact wpAny_bind (wpAny_rule (wpAny_pure ⟨false, rfl, q⟩))
    · subst e
      exact wpAny_bind (wpAny_holding (wpAny_truthy_bool (wpAny_bind (wpAny_letGo (wpAny_bind (wpAny_rule (wpAny_pure ⟨true, rfl, q⟩)))))))
  | n + 1, s, h => by
    refine codeAny_builtin F.entry_any_loop ?_
    rw [Around.under_plainId F.plain_any_loop _]
    refine (wpAny_bind (wpAny_mono h (fun o s' q => ?_) fun e s' q => q) : wpAny _ A.in1 (pyNext (.ref I) >>= _) _ _ s)
    rcases q with ⟨e, q⟩ | ⟨b, e, q⟩
    · subst e
      exact wpAny_bind (wpAny_rule (wpAny_pure ⟨false, rfl, q⟩))
    · subst e
      refine wpAny_bind (wpAny_holding (wpAny_truthy_bool (wpAny_bind (wpAny_letGo ?_))))
      rcases q with ⟨e, q⟩ | ⟨e, q⟩
      · subst e
        exact wpAny_bind (wpAny_rule (wpAny_pure ⟨true, rfl, q⟩))
      · subst e
        exact wpAny_pure ⟨plainId_quiet F.plain_any_loop _, any_loop n s' q⟩
theorem call_allP {x : Value} {s : Shared} {n : Nat} {Q : Value → Shared → Prop} (h : wpAny (model prog w) A.in1 (pyIter x) (fun it s2 => ∃ J, it = .ref J ∧ Pull prog w A.in1 J false E n (fun b s' => Q (.bool b) s') s2) E s) : wpAny (model prog w) A (call (.builtin "all") [x]) Q E s := by
  refine call_function_tree F.kind_all F.plain_all F.entry_all (F.args_all1 _) ?_
  unfold Builtin.«all»
  refine wpAny_bind (m := oneArg "all" _) (wpAny_pure (wpAny_bind (wpAny_mono h (fun it s2 q => ?_) fun e s' q => q)))
  obtain ⟨J, e, q⟩ := q
  subst e
  refine wpAny_pure ⟨plainId_quiet F.plain_all_loop _, codeAny_mono (all_loop n s2 q) fun r s' z => ?_⟩
  cases r with
  | error e => exact z
  | ok f =>
    cases f with
    | ret v => obtain ⟨b, e, z⟩ := z; subst e; exact z
    | next => exact z.elim
    | brk => exact z.elim
    | cont => exact z.elim
theorem call_anyP {x : Value} {s : Shared} {n : Nat} {Q : Value → Shared → Prop} (h : wpAny (model prog w) A.in1 (pyIter x) (fun it s2 => ∃ J, it = .ref J ∧ Pull prog w A.in1 J true E n (fun b s' => Q (.bool b) s') s2) E s) : wpAny (model prog w) A (call (.builtin "any") [x]) Q E s := by
  refine call_function_tree F.kind_any F.plain_any F.entry_any (F.args_any1 _) ?_
  unfold Builtin.«any»
  refine wpAny_bind (m := oneArg "any" _) (wpAny_pure (wpAny_bind (wpAny_mono h (fun it s2 q => ?_) fun e s' q => q)))
  obtain ⟨J, e, q⟩ := q
  subst e
  refine wpAny_pure ⟨plainId_quiet F.plain_any_loop _, codeAny_mono (any_loop n s2 q) fun r s' z => ?_⟩
  cases r with
  | error e => exact z
  | ok f =>
    cases f with
    | ret v => obtain ⟨b, e, z⟩ := z; subst e; exact z
    | next => exact z.elim
    | brk => exact z.elim
    | cont => exact z.elim
/-! a generator that is pulled -/
def YB (a : Addr) (g : Nat) (c : Bool) (R : Bool → Shared → Prop) : Protocol := fun _ _ v s kap => ∃ b, v = .bool b ∧
  ((b = c ∧ ∀ x : GenState, x.bare = true → R c (s.setGen g x)) ∨
    (b = !c ∧ g < s.gens.size ∧ s.heap.IsGen a g ∧ s.heap.NoLimit ∧ ∀ x : GenState, x.bare = true → kap (.send .none) ((s.setGen g x).setGen g .running)))
def RB (g : Nat) (c : Bool) (R : Bool → Shared → Prop) : GenEnd := fun _ _ r s => r = .ok .next ∧ ∀ h' : Heap, (∀ b o, s.heap.get? b = some o → h'.get? b = some o) → R (!c) { s.setGen g .finished with heap := h' }
theorem pull_gen {a : Addr} {g : Nat} (hh : A.handled = none) (hroom : A.depth < recursionLimit) : ∀ (n : Nat) (s : Shared) (x : GenState), s.heap.NoLimit → s.heap.IsGen a g → s.gens[g]? = some x →
    x.Goes (model prog w) A.in1 (RB g c R) (YB a g c R) n (.send .none) (s.setGen g .running) → Pull prog w A a c E n R s
  | 0, s, x, hl, hg, hx, go => by
    refine wpAny_pyNext_genexpQ (P := fun _ _ s₁ => ∀ h' : Heap, (∀ b o, s₁.heap.get? b = some o → h'.get? b = some o) → R (!c) { s₁.setGen g .finished with heap := h' }) (Y := YB a g c R) (n := 0) hh hl hroom hg hx go (fun v s1 y hb hv => ?_) fun s1 hp h' hk => .inl ⟨rfl, hp h' hk⟩
    obtain ⟨b, e, q⟩ := hv
    subst e
    rcases q with ⟨e2, q⟩ | ⟨e2, _, _, _, q⟩
    · exact .inr ⟨by rw [e2], q y hb⟩
    · exact (q .finished rfl).elim
  | n + 1, s, x, hl, hg, hx, go => by
    refine wpAny_pyNext_genexpQ (P := fun _ _ s₁ => ∀ h' : Heap, (∀ b o, s₁.heap.get? b = some o → h'.get? b = some o) → R (!c) { s₁.setGen g .finished with heap := h' }) (Y := YB a g c R) (n := n + 1) hh hl hroom hg hx go (fun v s1 y hb hv => ?_) fun s1 hp h' hk => .inl ⟨rfl, hp h' hk⟩
    obtain ⟨b, e, q⟩ := hv
    subst e
    refine .inr ⟨b, rfl, ?_⟩
    rcases q with ⟨e2, q⟩ | ⟨e2, hlt, hg1, hl1, q⟩
    · exact .inl ⟨e2, q y hb⟩
    · refine .inr ⟨e2, pull_gen hh hroom n _ y hl1 hg1 ?_ (q y hb)⟩
      simp [Shared.setGen, hlt]
/-- one turn: what is handed out is a truth value; T i: the state ahead of the turn i -/
structure GTurn (prog : Program) (w : World) (A : Around) (a : Addr) (g : Nat) (c : Bool) (R : Bool → Shared → Prop) (it : Addr) (tg elt : Expr) (env : Env) (n : Nat) (T : Nat → Shared → Prop) : Prop where
  done : ∀ s, T n s → wpAny (model prog w) A (pyNext (.ref it)) (fun o s' => o = none ∧ ∀ h' : Heap, (∀ b o, s'.heap.get? b = some o → h'.get? b = some o) → R (!c) { s'.setGen g .finished with heap := h' }) (fun _ _ => False) s
  item : ∀ i s, i < n → T i s → wpAny (model prog w) A (pyNext (.ref it)) (fun o s' => ∃ v, o = some v ∧ wpAny (model prog w) A (letOwnedTupleGo tg (.ref it) v) (fun _ s1 => wpAny (model prog w) A (assign tg env v) (fun _ s2 =>
    wpAny (model prog w) A (eval elt env) (fun y s3 => ∃ b, y = .bool b ∧ ((b = c ∧ ∀ x : GenState, x.bare = true → R c (s3.setGen g x)) ∨
      (b = !c ∧ g < s3.gens.size ∧ s3.heap.IsGen a g ∧ s3.heap.NoLimit ∧ ∀ x : GenState, x.bare = true → T (i + 1) ((s3.setGen g x).setGen g .running)))) (fun _ _ => False) s2) (fun _ _ => False) s1) (fun _ _ => False) s') (fun _ _ => False) s
theorem seg_turns {a it : Addr} {g n : Nat} {tg elt iter : Expr} {scope : Scope} {pos : Pos} {env : Env} {T : Nat → Shared → Prop} (hco : env.scope.isCoroutine = false)
    (G : GTurn prog w (A.over (.compLoop (.GeneratorExp elt [⟨tg, iter, [], 0⟩] scope pos) 0 (.ref it) .none env) []) a g c R it tg elt env n T) :
    ∀ (k i : Nat) (s₀ s : Shared), n - i = k → i ≤ n → T i s → Seg (model prog w) A (RB g c R) (YB a g c R) k s₀ (.compLoop (.GeneratorExp elt [⟨tg, iter, [], 0⟩] scope pos) 0 (.ref it) .none env)
      ((model prog w).den (.compLoop (.GeneratorExp elt [⟨tg, iter, [], 0⟩] scope pos) 0 (.ref it) .none env)) [] s := by
  intro k
  induction k with
  | zero =>
    intro i s₀ s hk hi ht
    have e : i = n := by omega
    subst e
    show Seg _ A _ _ _ s₀ _ ((compTurn (.GeneratorExp elt [⟨tg, iter, [], 0⟩] scope pos) 0 (.ref it) .none env).onRaise (leaving env)) [] s
    rw [compTurn_gen, Sem.onRaise_eq_wrap]
    refine seg_bind_wrap (wpAny_standAt (seg_bind_wrap (wpAny_mono (G.done s ht) (fun o s' q => ?_) fun _ _ q => q.elim)))
    obtain ⟨e, q⟩ := q
    subst e
    exact seg_end (.ok .next) ⟨rfl, q⟩
  | succ k ih =>
    intro i s₀ s hk hi ht
    have hlt : i < n := by omega
    show Seg _ A _ _ _ s₀ _ ((compTurn (.GeneratorExp elt [⟨tg, iter, [], 0⟩] scope pos) 0 (.ref it) .none env).onRaise (leaving env)) [] s
    rw [compTurn_gen, Sem.onRaise_eq_wrap]
    refine seg_bind_wrap (wpAny_standAt (seg_bind_wrap (wpAny_mono (G.item i s hlt ht) (fun o s' q => ?_) fun _ _ q => q.elim)))
    obtain ⟨v, e, q⟩ := q
    subst e
    refine seg_bind_wrap (wpAny_mono q (fun _ s1 q => seg_bind_wrap (wpAny_mono q (fun _ s2 q => ?_) fun _ _ q => q.elim)) fun _ _ q => q.elim)
    simp only [List.forIn_nil]
    refine seg_bind_wrap (wpAny_pure ?_)
    simp only [if_true]
    have hy : ∀ v, yieldOut env v = yieldValue v := fun v => by simp only [yieldOut, hco, Bool.false_eq_true, if_false]
    simp only [hy]
    rw [Sem.bind_eq_wrap', Sem.bind_eq_wrap', Sem.wrap_wrap, Sem.wrap_wrap]
    refine seg_wrap (wpAny_mono q (fun y s3 q => ?_) fun _ _ q => q.elim)
    obtain ⟨b, e, q⟩ := q
    subst e
    refine seg_at (seg_yield rfl rfl rfl ⟨b, rfl, ?_⟩)
    rcases q with q | ⟨e2, hlt2, hg, hl, q⟩
    · exact .inl q
    · exact .inr ⟨e2, hlt2, hg, hl, fun x hx => seg_again rfl (ih (i + 1) _ _ (by omega) hlt (q x hx))⟩
theorem seg_first {a it : Addr} {g n : Nat} {tg elt iter : Expr} {scope : Scope} {pos : Pos} {env : Env} {T : Nat → Shared → Prop} (hco : env.scope.isCoroutine = false)
    (G : GTurn prog w (A.over (.compLoop (.GeneratorExp elt [⟨tg, iter, [], 0⟩] scope pos) 0 (.ref it) .none env) []) a g c R it tg elt env n T)
    (hs : ∀ (s : Shared) (Q : Value → Shared → Prop) (E : Value → Shared → Prop), T 0 s → Q (.ref it) s → wpAny (model prog w) (A.over (.compStart (.GeneratorExp elt [⟨tg, iter, [], 0⟩] scope pos) 0 (.ref it) .none env) []) (pyIter (.ref it)) Q E s)
    (s₀ s : Shared) (ht : T 0 s) : Seg (model prog w) A (RB g c R) (YB a g c R) n s₀ (.compStart (.GeneratorExp elt [⟨tg, iter, [], 0⟩] scope pos) 0 (.ref it) .none env)
      ((model prog w).den (.compStart (.GeneratorExp elt [⟨tg, iter, [], 0⟩] scope pos) 0 (.ref it) .none env)) [] s := by
  have loop := seg_turns (iter := iter) (scope := scope) (pos := pos) hco G n 0 s₀ s (Nat.sub_zero _) (Nat.zero_le _) ht
  show Seg _ A _ _ _ s₀ _ ((compStart (.GeneratorExp elt [⟨tg, iter, [], 0⟩] scope pos) 0 (.ref it) .none env).onRaise (leaving env)) [] s
  unfold compStart
  rw [Sem.onRaise_eq_wrap]
  show Seg _ A _ _ _ s₀ _ ((ask >>= _).wrap _ _ _ _) [] s
  refine seg_bind_wrap (wpAny_askSetting ?_)
  split
  · exact seg_again rfl loop
  · refine seg_bind_wrap (wpAny_rule ?_)
    show Seg _ A _ _ _ s₀ _ ((standAt iter.pos >>= _).wrap _ _ _ _) [] s
    exact seg_bind_wrap (wpAny_standAt (seg_bind_wrap (hs s _ _ ht (seg_again rfl loop))))
end
end Den

namespace Den
variable [Tbs]
open PySem L2 Evl PySem.Spec PyProof.Rows
/-- the context of a generator expression's frame, made at s from X's frame; A: the around at which its turns run -/
def genCx (X : Cx) (A : Around) (s : Shared) (H : Hp) (N : List Str) (ex : List Addr) (env : Env) : Cx where
  prog := X.prog
  w := X.w
  K := X.K
  mg := X.mg
  base := X.base
  A := A
  N := N
  s_0 := s
  H_0 := H
  env := env
  outer := X.stack
  stack := env :: X.stack
  ex := ex
  fn := fun _ => false
  calm := true
  pn := []
  xe := fun _ _ => False
/-- the generator expression's own scope -/
structure GenSc (sc scope : Scope) : Prop where
  kind : scope.kind = .function
  co : scope.isCoroutine = false
  cell : ∀ y ∈ scope.names, y.2 ≠ .cell
  free : ∀ y ∈ scope.names, y.2 = .free → sc.names.lookup y.1 = some .cell ∨ sc.names.lookup y.1 = some .free
section
variable {X : Cx} {pins : List (Addr × Obj)} {σ τ : L2.St} {H : Hp} {s : Shared}
theorem GenSc.has {scope : Scope} (L : GenSc X.env.scope scope) (ok : X.Ok) : ∀ y ∈ scope.names, y.2 = .free → ∃ c, X.env.cells.lookup y.1 = some c := fun y hy e => by
  rcases L.free y hy e with k | k
  · exact ok.has _ (.inl k)
  · exact ok.has _ (.inr k)
theorem gen_start {A : Around} {scope : Scope} {N : List Str} {code : Value} {it : Value} {h1 : Heap} {G : Array GenState} {D : Drawn} {tk : Nat} {fp : List Addr} {ps : List (Addr × Obj)} (I : Inv X pins σ H s) (L : GenSc X.env.scope scope) (hA : A.handled = none)
    (hfr : A.frames = some (genEnv scope (cloFrom X.env.cells scope.names []) s.heap.objs.size code builtinsNs X.env :: X.stack)) (hns : h1.Ns s.heap.objs.size (fun y => if y = ".0" then some it else none)) (kp : ∀ b o, s.heap.get? b = some o → h1.get? b = some o) (hG : AllBare G)
    (hex : ∀ b ∈ fp, b < s.heap.objs.size ∧ (∀ o, X.base.get? b ≠ some o) ∧ b ∉ frs X.stack ∧ ∀ x c, X.env.cells.lookup x = some c → c ≠ b) (hlen : τ.length = N.length) (hτ : ∀ (i : Nat) (y : Str) (v : V), N[i]? = some y → τ[i]? = some (some v) → Vis scope y → X.N[i]? = some y ∧ σ[i]? = some (some v) ∧ scope.names.lookup y = some .free)
    (hps : ∀ p ∈ ps, h1.get? p.1 = some p.2 ∧ H p.1 = none ∧ p.1 ≠ s.heap.objs.size ∧ p.1 ∉ frs X.stack ∧ ∀ v, p.2.data ≠ .cell v) :
    Inv (genCx X A s H N fp (genEnv scope (cloFrom X.env.cells scope.names []) s.heap.objs.size code builtinsNs X.env)) ps τ H { s with heap := h1, gens := G, drawn := D, toks := tk } := by
  have e0 := I.env0
  have hfree := L.has I.ok
  have cm : ∀ {y c}, (cloFrom X.env.cells scope.names []).lookup y = some c → X.env.cells.lookup y = some c := fun {y c} e => by
    rcases cloFrom_mem (PySem.mem_of_lookup e) with hm | ⟨q1, q2⟩
    · cases hm
    · obtain ⟨c1, hc⟩ := hfree _ q1 rfl
      have hc : X.env.cells.lookup y = some c1 := hc
      have e2 : c = c1 := by
        rw [q2, hc] <;> rfl
      rw [e2]; exact hc
  have look : ∀ {y}, scope.names.lookup y = some .free → ∃ c, (cloFrom X.env.cells scope.names []).lookup y = some c := fun {y} hl =>
    mem_lookup (cloFrom_has (cells := X.env.cells) (acc := []) (show (y, NameKind.free) ∈ scope.names from PySem.mem_of_lookup hl))
  have cellK : ∀ {c : Addr} {v : Option Value}, s.heap.IsCell c v → h1.IsCell c v := fun {c v} ⟨o, ho, hd⟩ => ⟨o, kp _ _ ho, hd⟩
  refine ⟨⟨e0.mod, L.kind, I.ok.glob, rfl, Nat.le_refl _, fun y z c e1 e2 => I.ok.inj y z c (cm e1) (cm e2), fun y hy => ?_, fun y c z _ => ?_, fun _ => hA, hfr, .inr ⟨rfl, rfl⟩, fun b z => ⟨Nat.ne_of_lt (hex b z).1, fun x c e => (hex b z).2.2.2 x c (cm e)⟩, e0.bs, e0.bsz, fun b o e z => (hex b z).2.1 o e,
      fun b z => (hex b z).2.2.1, e0.funs, e0.frf⟩,
    rfl, hG, Un.kept kp, ⟨_, hns, fun i y v q1 q2 q3 => ?_⟩, fun y c e => ?_, e0.hok.fresh (Nat.le_refl _), fun y c e => I.freeC y c (cm e), fun q hq => ?_, e0.hok.kept kp, hlen⟩
  · have hy : scope.names.lookup y = some .cell ∨ scope.names.lookup y = some .free := hy
    rcases hy with hy | hy
    · exact absurd rfl (L.cell _ (PySem.mem_of_lookup hy))
    · exact look hy
  · have z : false = true := z
    cases z
  · obtain ⟨e1, e2, k⟩ := hτ i y v q1 q2 q3
    obtain ⟨m, hn, hl⟩ := I.loc
    have hvis : Vis X.env.scope y := (L.free _ (PySem.mem_of_lookup k) rfl).elim (fun k => .inr (.inl k)) (fun k => .inr (.inr k))
    obtain ⟨w', r, q⟩ := hl i y v e1 e2 hvis
    obtain ⟨c2, z2⟩ := look k
    refine ⟨w', r, .inr ⟨.inr k, c2, z2, ?_⟩⟩
    have c1 := cm z2
    rcases q with ⟨k', _⟩ | ⟨_, c3, e', z⟩
    · have k' : X.env.scope.names.lookup y = some .local := k'
      rcases L.free _ (PySem.mem_of_lookup k) rfl with k2 | k2 <;> rw [show X.env.scope.names.lookup y = _ from k2] at k' <;> cases k'
    · rw [c1] at e'
      cases e'
      exact cellK z
  · obtain ⟨w', z⟩ := I.cell y c (cm e)
    exact ⟨w', cellK z⟩
  · exact hps q (show q ∈ ([] : List (Addr × Obj)) ++ ps from hq)
theorem bare_set {s : Shared} {g : Nat} {x : GenState} (h : AllBare s.gens) (hx : x.bare = true) : AllBare (s.setGen g x).gens := by
  intro y hy
  rcases Array.mem_or_eq_of_mem_setIfInBounds hy with q | q
  · exact h y q
  · rw [q]; exact hx
theorem inv_gens {G : Array GenState} (I : Inv X pins σ H s) (hG : AllBare G) : Inv X pins σ H { s with gens := G } := ⟨I.ok, I.os, hG, I.base, I.loc, I.cell, I.free, I.freeC, I.pin, I.hok, I.len⟩
theorem inv_set {g : Nat} {x : GenState} (I : Inv X pins σ H s) (hx : x.bare = true) : Inv X pins σ H (s.setGen g x) := inv_gens I (bare_set I.bare hx)
/-- what is left when any, all are through -/
def Thru (X : Cx) (Qc : Bool → Hp → Prop) (b : Bool) (s : Shared) : Prop := ∃ ps σ H, Inv X ps σ H s ∧ Qc b H
theorem gturn {a it : Addr} {g n : Nat} {c : Bool} {tg elt : Expr} {J : It} {fp : List Addr} {tn : Nat → Heap → Prop} {gG : TG} {te : TE} {ps : List (Addr × Obj)} {o : Obj} {Iv : Nat → L2.St → Hp → Prop} {Qc : Bool → Hp → Prop} (hc : X.calm = true) (hx : X.xe = fun _ _ => False)
    (Tn : Turn X.prog X.w X.K tg J fp it tn) (hg : PG X tg gG) (he : PE X elt te) (hp : (a, o) ∈ ps) (ho : ∀ h : Heap, h.get? a = some o → h.IsGen a g)
    (hgo : ∀ i σ H, i < n → Iv i σ H → J.go i H ∧ ∀ x H2, J.yld i H x H2 → gG x σ H2 (fun σ2 H3 => te σ2 H3 (fun v H4 => ∃ b, v = .bl b ∧ ((b = c ∧ Qc c H4) ∨ (b = !c ∧ Iv (i + 1) σ2 H4)))))
    (hst : ∀ σ H, Iv n σ H → J.stop n H ∧ Qc (!c) H) :
    GTurn X.prog X.w X.A a g c (Thru X Qc) it tg elt X.env n (fun i s => ∃ σ H, Inv X ps σ H s ∧ (∀ b ∈ fp, FpOk X ps H b) ∧ tn i s.heap ∧ g < s.gens.size ∧ Iv i σ H) where
  done := by
    rintro s ⟨σ, H, I, hf, ht, _, iv⟩
    obtain ⟨st, q⟩ := hst σ H iv
    refine wpAny_mono (Tn.done X rfl rfl rfl hc n ps s σ H (fun _ _ => False) I hf ht st) (fun r s1 z => ⟨z.1, fun h' hk => ⟨ps, σ, H, ?_, q⟩⟩) fun _ _ z => z
    exact inv_gens (G := (s1.setGen g .finished).gens) (z.2.kept (t' := s1.toks) hk) (bare_set z.2.bare rfl)
  item := by
    rintro i s hi ⟨σ, H, I, hf, ht, hlt, iv⟩
    obtain ⟨go, stp⟩ := hgo i σ H hi iv
    refine GenW.wpAny_gsz (n := g + 1) hlt (wpAny_mono (Tn.item X rfl rfl rfl hc i ps s σ H (fun _ _ => False) I hf ht go) (fun r s1 z hs1 => ?_) fun _ _ z => z.elim)
    obtain ⟨u, e, z⟩ := z
    refine ⟨u, e, GenW.wpAny_gsz hs1 (wpAny_mono z (fun _ s2 z hs2 => ?_) fun _ _ z => z.elim)⟩
    obtain ⟨x, H2, I2, r2, y2, t2, f2⟩ := z
    have stat : ∀ b ∈ fp, FpOk X ps H2 b := fun b hb => ⟨f2 b hb, (hf b hb).2⟩
    have I2' := I2.pinned stat (Tn.obj _ _ t2)
    refine GenW.wpAny_gsz hs2 (wpAny_mono (hg.run _ s2 σ H2 x u _ I2' r2 (stp x H2 y2)) (fun _ s3 z hs3 => ?_) fun _ _ z => by rw [hx] at z; exact z.elim)
    obtain ⟨σ3, H3, I3, q3⟩ := z
    refine GenW.wpAny_gsz hs3 (wpAny_mono (he.run _ s3 σ3 H3 _ I3 q3) (fun y s4 z hs4 => ?_) fun _ _ z => by rw [hx] at z; exact z.elim)
    obtain ⟨v, H4, I4, r4, b, e4, q4⟩ := z
    subst e4
    have ey : y = .bool b := r4
    refine ⟨b, ey, ?_⟩
    rcases q4 with ⟨e5, q4⟩ | ⟨e5, q4⟩
    · exact .inl ⟨e5, fun x hx => ⟨_, σ3, H4, inv_set I4 hx, q4⟩⟩
    · refine .inr ⟨e5, hs4, ho _ (I4.unpinned.pin (a, o) (List.mem_append_right _ hp)).1, I4.nolimit, fun x hx => ⟨σ3, H4, inv_set (inv_set I4.unpinned hx) rfl, fun b hb => ?_, ?_, by simp [Shared.setGen]; exact hs4, q4⟩⟩
      · obtain ⟨o', e, d⟩ := Tn.obj _ _ t2 b hb
        exact ⟨(I4.pin (b, o') (List.mem_append_right _ (List.mem_append_right _ (mem_pinsAt hb e)))).2.1, (hf b hb).2⟩
      · exact Tn.keep _ _ _ t2 fun b hb o' e => (I4.pin (b, o') (List.mem_append_right _ (List.mem_append_right _ (mem_pinsAt hb e)))).1
end
end Den

namespace Den
variable [Tbs]
open PySem L2 Evl PySem.Spec PyProof.Rows
section
variable {X : Cx} {pins : List (Addr × Obj)} {σ τ : L2.St} {H : Hp} {s : Shared}
/-- the generator's object -/
abbrev genO (g : Nat) (q : Str) (t : Tok) : Obj := { cls := .type "generator", data := .fields #[.int g 0, .str "<genexpr>" (t + 1), .str q (t + 1 + 1)] }
/-- the generator expression is made: what its maker has then -/
theorem gen_make {c P : Addr} {tg elt iter : Expr} {gpos : Pos} {scope : Scope} {ti : TI} {k : Nat} {Q : Value → Shared → Prop} {R : It → Hp → Prop}
    (hr : Room k X.A) (TB : GxR.TabB X.base X.mg c P) (hcode : X.env.code = .ref c) (L : GenSc X.env.scope scope) (hdot : scope.names.lookup (".0" : Str) = some NameKind.local) (hi : PI X tg iter ti)
    (hs : ∀ v, genFold iter X.env v = pure v) (I : Inv X pins σ H s) (h : ti σ H fun J H1 => GxR.TabG H1 P ∧ R J H1)
    (hQ : ∀ (it : Addr) (fp : List Addr) (tn : Nat → Heap → Prop) (J : It) (H1 H2 : Hp) (s4 : Shared) (code : Value) (h1 : Heap) (t : Tok) (tk : Nat), R J H1 → GxR.Tabbed P H1 H2 → Inv X pins σ H2 s4 → Turn X.prog X.w X.K tg J fp it tn → tn 0 s4.heap → (∀ b ∈ fp, FpOk X pins H2 b) → (∀ b ∈ fp, b < s4.heap.objs.size) →
      h1.Ns s4.heap.objs.size (fun y => if y = ".0" then some (.ref it) else none) → (∀ b o, s4.heap.get? b = some o → h1.get? b = some o) → s4.heap.objs.size < h1.objs.size → 
      Q (.ref h1.objs.size) { s4 with gens := s4.gens.push (.fresh (.compStart (.GeneratorExp elt [⟨tg, iter, [], 0⟩] scope gpos) 0 (.ref it) .none (genEnv scope (cloFrom X.env.cells scope.names []) s4.heap.objs.size code builtinsNs X.env))), toks := tk, heap := h1.push (genO s4.gens.size (X.env.qual ++ "<genexpr>") t) }) :
    wpAny (model X.prog X.w) X.A (eval (.GeneratorExp elt [⟨tg, iter, [], 0⟩] scope gpos) X.env) Q X.xe s := by
  refine wpAny_GeneratorExp_make L.co (closure_ok (L.has I.ok)) L.cell hdot L.kind (by have := hr.dp; omega) (thn (hi.run pins s σ H _ I h) fun v s1 z => thn z fun itv s2 z => ?_) hs
  obtain ⟨it, fp, tn, J, H1, e, I2, T, t2, f2, ⟨ps, hP, ht⟩, hR⟩ := z
  subst e
  refine ⟨I2.nolimit, ?_⟩
  have hPs : s2.heap.get? P = some { cls := .none, data := .fields ps } := I2.hok P _ hP
  have cd : PySem.W.CodeHd s2.heap c P := TB.code.keeps fun b u e => I2.bk b u e
  have fpP : ∀ b ∈ fp, b ≠ P := fun b hb z => by have := (f2 b hb).1; rw [z, hP] at this; cases this
  have fplt : ∀ b ∈ fp, b < s2.heap.objs.size := fun b hb => by
    obtain ⟨o, e, _⟩ := T.obj _ _ t2 b hb
    exact Heap.lt_size e
  have cont : ∀ (code : Value) (h3 : Heap) (tk : Nat) (ps' : Array Value), Heap.ExtBut P s2.heap h3 → s2.heap.objs.size ≤ h3.objs.size → h3.get? P = some { cls := .none, data := .fields ps' } → (∃ more, ps' = ps ++ more) → TriplesOk ps'.toList →
      wpAny (model X.prog X.w) X.A (builtinsFor X.env.globals X.env.builtins) (fun bi s₄ => ∀ h', h'.Ns s₄.heap.objs.size (fun y => if y = ".0" then some (.ref it) else none) → Heap.SameBut s₄.heap.objs.size (s₄.heap.push { cls := .type "frame", data := .dict #[] }) h' →
          Q (.ref h'.objs.size) { s₄ with
            gens := s₄.gens.push (.fresh (.compStart (.GeneratorExp elt [⟨tg, iter, [], 0⟩] scope gpos) 0 (.ref it) .none (genEnv scope (cloFrom X.env.cells scope.names []) s₄.heap.objs.size code bi X.env))),
            toks := s₄.toks + 1 + 1 + 1,
            heap := h'.push { cls := .type "generator", data := .fields #[.int s₄.gens.size 0, .str "<genexpr>" (s₄.toks + 1), .str (X.env.qual ++ "<genexpr>") (s₄.toks + 1 + 1)] } }) X.xe { s2 with heap := h3, toks := tk } := by
    intro code h3 tk ps' hx hsz hP3 hmore ht3
    obtain ⟨more, em⟩ := hmore
    subst em
    obtain ⟨bm, ob, e1, e2, e3, e4, e5, e6, e7, e8⟩ := TB.bm
    have keep3 : ∀ b u, b ≠ P → s2.heap.get? b = some u → h3.get? b = some u := fun b u hb e => hx b u hb e
    refine wpAny_builtinsFor (m := X.mg) (by rw [I2.ok.glob]; exact (I2.mod.glob.keeps I2.bk).extBut hx TB.gP) e1 e2 (keep3 _ _ e4 (I2.bk _ _ e5)) e6 e7 e8 ?_
    have I4 := GxR.inv_tab (t' := tk) (g' := s2.gens) (d' := s2.drawn) (more := more) (h' := h3) I2 hP keep3 hP3 I2.bare
    intro h' hns hsb
    have kp : ∀ b o, h3.get? b = some o → h'.get? b = some o := fun b o e => hsb.extBut b o (Nat.ne_of_lt (Heap.lt_size e)) (Heap.get?_push_of_some _ e)
    have sz : h'.objs.size = h3.objs.size + 1 := by rw [hsb.1, Heap.size_push]
    refine hQ it fp tn J H1 _ _ code h' tk _ hR ⟨⟨_, upd_same, ht3⟩, fun b hb => upd_ne hb⟩ I4 T (T.keep _ _ _ t2 fun b hb o e => keep3 b o (fpP b hb) e) (fun b hb => ⟨by rw [upd_ne (fpP b hb)]; exact (f2 b hb).1, (f2 b hb).2⟩) (fun b hb => Nat.lt_of_lt_of_le (fplt b hb) hsz) hns kp (by show h3.objs.size < h'.objs.size; omega)
  cases hf : codeAmong gpos ps.toList with
  | none =>
    refine wpAny_genexprCodeX hcode (cd.code hPs ht) (cd.tab hPs) hf fun c' h' tk hx hge hlt hco' _ htab' _ => ?_
    obtain ⟨o1, vs, f1, tf, fl, tg', inF, tx, tt, op, _, _, _, _, _, _, _, _, _, htr, _⟩ := hco'
    exact cont _ h' tk _ hx (Nat.le_trans hge (Nat.le_of_lt hlt)) htab'.2 ⟨_, rfl⟩ htr
  | some cv =>
    refine wpAny_genexprCode_hit hcode (cd.code hPs ht) hf ?_
    exact cont cv s2.heap s2.toks ps (Heap.ExtBut.refl _ _) (Nat.le_refl _) hPs ⟨#[], by simp⟩ ht
end
end Den

namespace Den
variable [Tbs]
open PySem L2 Evl PySem.Spec PyProof.Rows
section
variable {X : Cx} {pins : List (Addr × Obj)} {σ τ : L2.St} {H : Hp} {s : Shared}
theorem pull_mono {prog : Program} {w : World} {A : Around} {I : Addr} {c : Bool} {E : Value → Shared → Prop} {R R' : Bool → Shared → Prop} (h : ∀ b s, R b s → R' b s) : ∀ (n : Nat) (s : Shared), Pull prog w A I c E n R s → Pull prog w A I c E n R' s
  | 0, s, q => wpAny_mono q (fun _ _ z => z.imp (fun z => ⟨z.1, h _ _ z.2⟩) fun z => ⟨z.1, h _ _ z.2⟩) fun _ _ z => z
  | n + 1, s, q => wpAny_mono q (fun _ _ z => z.imp (fun z => ⟨z.1, h _ _ z.2⟩) fun ⟨b, e, z⟩ => ⟨b, e, z.imp (fun z => ⟨z.1, h _ _ z.2⟩) fun z => ⟨z.1, pull_mono h n _ z.2⟩⟩) fun _ _ z => z
/-- any, all of a generator expression: turn by turn; tf: the captured names' slots as the generator sees them -/
def tGenB (P : Addr) (c : Bool) (tf : L2.St → L2.St) (ti : TI) (gG : TG) (te : TE) : TE := fun σ H Q => ti σ H fun J H1 => GxR.TabG H1 P ∧ ∀ H2, GxR.Tabbed P H1 H2 → ∃ (n : Nat) (Iv : Nat → L2.St → Hp → Prop), Iv 0 (tf σ) H2 ∧
  (∀ i σ' H', i < n → Iv i σ' H' → J.go i H' ∧ ∀ x H3, J.yld i H' x H3 → gG x σ' H3 (fun σ2 H4 => te σ2 H4 (fun v H5 => ∃ b, v = .bl b ∧ ((b = c ∧ Q (.bl c) H5) ∨ (b = !c ∧ Iv (i + 1) σ2 H5))))) ∧ ∀ σ' H', Iv n σ' H' → J.stop n H' ∧ Q (.bl (!c)) H'
abbrev genA (A : Around) (tg iter elt : Expr) (scope : Scope) (gpos : Pos) (it : Addr) (env : Env) : Around := A.in1.in1.over (.compLoop (.GeneratorExp elt [⟨tg, iter, [], 0⟩] scope gpos) 0 (.ref it) .none env) []
theorem pe_allG {c P : Addr} {tg elt iter : Expr} {p pos gpos : Pos} {scope : Scope} {ti : TI} {gG : TG} {te : TE} {k : Nat} {N : List Str} {tf : L2.St → L2.St}
    (hr : Room (k + 1) X.A) (hg : Gl X "all") (hm : X.mg "all" = none) (hb : bootBuiltins "all" = some (.builtin "all")) (TB : GxR.TabB X.base X.mg c P) (hcode : X.env.code = .ref c) (L : GenSc X.env.scope scope) (hdot : scope.names.lookup (".0" : Str) = some NameKind.local) (hi : PI X tg iter ti)
    (hs : ∀ v, genFold iter X.env v = pure v)
    (hlen : ∀ σ : L2.St, σ.length = X.N.length → (tf σ).length = N.length) (hτ : ∀ (σ : L2.St) (i : Nat) (y : Str) (v : V), N[i]? = some y → (tf σ)[i]? = some (some v) → Vis scope y → X.N[i]? = some y ∧ σ[i]? = some (some v) ∧ scope.names.lookup y = some .free)
    (hbody : ∀ (A : Around) (s : Shared) (H : Hp) (fp : List Addr) (code : Value), Room k A → PG (genCx X A s H N fp (genEnv scope (cloFrom X.env.cells scope.names []) s.heap.objs.size code builtinsNs X.env)) tg gG ∧ PE (genCx X A s H N fp (genEnv scope (cloFrom X.env.cells scope.names []) s.heap.objs.size code builtinsNs X.env)) elt te)
    (he : starEach [.GeneratorExp elt [⟨tg, iter, [], 0⟩] scope gpos] X.env = (false, eval (.GeneratorExp elt [⟨tg, iter, [], 0⟩] scope gpos) X.env) :: starEach [] X.env := by rfl) :
    PE X (.Call (.Name "all" p) [.GeneratorExp elt [⟨tg, iter, [], 0⟩] scope gpos] [] pos) (tGenB P false tf ti gG te) := by
  refine ⟨fun pins s σ H Q I h => ?_⟩
  refine wpAny_Call_Name_kw (ld_blt I hg hm hb ?_)
  refine PyProof.Rows.callWith_builtin1 ?_ he (by rfl)
  rw [he]
  show wpAny _ _ (spliced ((false, eval (.GeneratorExp elt [⟨tg, iter, [], 0⟩] scope gpos) X.env) :: backTo pos (starEach [] X.env))) _ _ s
  refine Calls.spliced_cons (gen_make hr TB hcode L hdot hi hs I h fun it fp tn J H1 H2 s4 code h1 t tk hR hT I4 T t0 f0 flt hns kp hsz => ?_)
  refine Calls.spliced_nil ?_
  obtain ⟨n, Iv, iv0, hgo, hst⟩ := hR H2 hT
  have isg : (h1.push (genO s4.gens.size (X.env.qual ++ "<genexpr>") t)).IsGen h1.objs.size s4.gens.size := ⟨_, _, _, Heap.get?_push_size _ rfl, rfl, rfl, rfl⟩
  have kp2 : ∀ b o, s4.heap.get? b = some o → (h1.push (genO s4.gens.size (X.env.qual ++ "<genexpr>") t)).get? b = some o := fun b o e => Heap.get?_push_of_some _ (kp b o e)
  have hnew : s4.heap.objs.size ≤ h1.objs.size := Nat.le_of_lt hsz
  have hfr : (genA X.A tg iter elt scope gpos it (genEnv scope (cloFrom X.env.cells scope.names []) s4.heap.objs.size code builtinsNs X.env)).frames = some (genEnv scope (cloFrom X.env.cells scope.names []) s4.heap.objs.size code builtinsNs X.env :: X.stack) := by
    have q := I4.ok.frames
    show (X.A.frames).map _ = _
    rw [q]; rfl
  have hroomA : Room k (genA X.A tg iter elt scope gpos it (genEnv scope (cloFrom X.env.cells scope.names []) s4.heap.objs.size code builtinsNs X.env)) := by
    have d := hr.dp
    have u := hr.un
    refine ⟨hr.hd, ?_, ?_⟩
    · show X.A.depth + 0 + 1 + 3 * k + 5 < _
      omega
    · have e : (genA X.A tg iter elt scope gpos it (genEnv scope (cloFrom X.env.cells scope.names []) s4.heap.objs.size code builtinsNs X.env)).units ≤ X.A.units + 8 := by
        show X.A.in1.in1.units + 0 + _ ≤ _
        simp [Around.in1, Code.cUnits]
        show X.A.units + 2 + 3 * 1 ≤ _
        omega
      omega
  have hps : ∀ q ∈ [(h1.objs.size, genO s4.gens.size (X.env.qual ++ "<genexpr>") t)], (h1.push (genO s4.gens.size (X.env.qual ++ "<genexpr>") t)).get? q.1 = some q.2 ∧ H2 q.1 = none ∧ q.1 ≠ s4.heap.objs.size ∧ q.1 ∉ frs X.stack ∧ ∀ v, q.2.data ≠ .cell v := by
    intro q hq
    rw [List.mem_singleton.mp hq]
    refine ⟨Heap.get?_push_size _ rfl, I4.hok.fresh hnew, Nat.ne_of_gt hsz, fun z => ?_, fun v z => by cases z⟩
    rcases List.mem_cons.mp (I4.stkSub _ z) with e | e
    · have q1 := I4.lt
      rw [← e] at q1
      exact Nat.lt_irrefl _ (Nat.lt_of_lt_of_le q1 hnew)
    · exact I4.nofs hnew e
  have hex : ∀ b ∈ fp, b < s4.heap.objs.size ∧ (∀ o, X.base.get? b ≠ some o) ∧ b ∉ frs X.stack ∧ ∀ x c, X.env.cells.lookup x = some c → c ≠ b := by
    intro b hb
    obtain ⟨q1, q2, q3, q4, q5, q6⟩ := f0 b hb
    refine ⟨flt b hb, fun o e => ?_, fun z => ?_, q5⟩
    · rcases q4 with z | z
      · exact I4.ok.noex b o e z
      · exact Nat.lt_irrefl _ (Nat.lt_of_lt_of_le (Heap.lt_size e) (Nat.le_trans I4.ok.bsz z))
    · rcases List.mem_cons.mp (I4.stkSub _ z) with e | e
      · exact q2 e
      · exact q3 e
  have J0 := gen_start (D := s4.drawn) (tk := tk) (fp := fp) (τ := tf σ) I4 L hroomA.hd hfr (hns.keeps fun b o e => Heap.get?_push_of_some _ e) kp2 (AllBare.push I4.bare (g := .fresh (.compStart (.GeneratorExp elt [⟨tg, iter, [], 0⟩] scope gpos) 0 (.ref it) .none (genEnv scope (cloFrom X.env.cells scope.names []) s4.heap.objs.size code builtinsNs X.env))) rfl) hex (hlen σ I4.len) (hτ σ) hps
  have bd := hbody _ s4 H2 fp code hroomA
  have fpg : ∀ b ∈ fp, FpOk (genCx X (genA X.A tg iter elt scope gpos it (genEnv scope (cloFrom X.env.cells scope.names []) s4.heap.objs.size code builtinsNs X.env)) s4 H2 N fp (genEnv scope (cloFrom X.env.cells scope.names []) s4.heap.objs.size code builtinsNs X.env)) [(h1.objs.size, genO s4.gens.size (X.env.qual ++ "<genexpr>") t)] H2 b := by
    intro b hb
    refine ⟨(f0 b hb).1, Nat.ne_of_lt (flt b hb), (hex b hb).2.2.1, .inl hb, fun x c e => ((J0.ok.exf b hb).2 x c e), fun q hq => ?_⟩
    have hq : q ∈ [] ++ [(h1.objs.size, genO s4.gens.size (X.env.qual ++ "<genexpr>") t)] := hq
    rw [List.mem_singleton.mp hq]
    exact Nat.ne_of_gt (Nat.lt_of_lt_of_le (flt b hb) hnew)
  have GT := gturn (X := (genCx X (genA X.A tg iter elt scope gpos it (genEnv scope (cloFrom X.env.cells scope.names []) s4.heap.objs.size code builtinsNs X.env)) s4 H2 N fp (genEnv scope (cloFrom X.env.cells scope.names []) s4.heap.objs.size code builtinsNs X.env))) (c := false) (g := s4.gens.size) (a := h1.objs.size) (n := n) (Iv := Iv) (Qc := fun b H' => Q (.bl b) H') (J := J) (tn := tn) (it := it) rfl rfl T bd.1 bd.2 (List.mem_singleton.mpr rfl) (fun h e => ⟨genO s4.gens.size (X.env.qual ++ "<genexpr>") t, _, _, e, rfl, rfl, rfl⟩) hgo hst
  have tn0 : tn 0 (h1.push (genO s4.gens.size (X.env.qual ++ "<genexpr>") t)) := T.keep _ _ _ t0 fun b hb o e => kp2 b o e
  refine call_allP (n := n) (wpAny_pyIter_gen isg ⟨_, rfl, pull_mono (R := Thru (genCx X (genA X.A tg iter elt scope gpos it (genEnv scope (cloFrom X.env.cells scope.names []) s4.heap.objs.size code builtinsNs X.env)) s4 H2 N fp (genEnv scope (cloFrom X.env.cells scope.names []) s4.heap.objs.size code builtinsNs X.env)) fun b H' => Q (.bl b) H') (fun b s' z => ?_) n _ (pull_gen (A := X.A.in1) hr.hd (by have := hr.dp; show X.A.depth < _; omega) n _ _ J0.nolimit isg (Array.getElem?_push_size ..) ⟨rfl, ?_⟩)⟩)
  · obtain ⟨ps', σ', H', IG, q⟩ := z
    obtain ⟨hh, g', d', t', os'⟩ := s'
    have os1 : os' = s4.os := IG.os
    subst os1
    exact ⟨.bl b, H', I4.call (h' := hh) (g' := g') (d' := d') (t' := t') (ch := fp) IG.base IG.hok IG.bare (fun b hb => ⟨(f0 b hb).2.2.2.1, (f0 b hb).2.1, (f0 b hb).2.2.2.2.1, (f0 b hb).2.2.2.2.2⟩), rfl, q⟩
  · exact seg_first L.co GT (fun s' Q' E' ⟨_, _, _, _, ht, _⟩ hq => T.self _ 0 s' Q' E' ht hq) _ _ ⟨tf σ, H2, inv_set J0 rfl, fpg, tn0, by simp [Shared.setGen], iv0⟩
theorem pe_anyG {c P : Addr} {tg elt iter : Expr} {p pos gpos : Pos} {scope : Scope} {ti : TI} {gG : TG} {te : TE} {k : Nat} {N : List Str} {tf : L2.St → L2.St}
    (hr : Room (k + 1) X.A) (hg : Gl X "any") (hm : X.mg "any" = none) (hb : bootBuiltins "any" = some (.builtin "any")) (TB : GxR.TabB X.base X.mg c P) (hcode : X.env.code = .ref c) (L : GenSc X.env.scope scope) (hdot : scope.names.lookup (".0" : Str) = some NameKind.local) (hi : PI X tg iter ti)
    (hs : ∀ v, genFold iter X.env v = pure v)
    (hlen : ∀ σ : L2.St, σ.length = X.N.length → (tf σ).length = N.length) (hτ : ∀ (σ : L2.St) (i : Nat) (y : Str) (v : V), N[i]? = some y → (tf σ)[i]? = some (some v) → Vis scope y → X.N[i]? = some y ∧ σ[i]? = some (some v) ∧ scope.names.lookup y = some .free)
    (hbody : ∀ (A : Around) (s : Shared) (H : Hp) (fp : List Addr) (code : Value), Room k A → PG (genCx X A s H N fp (genEnv scope (cloFrom X.env.cells scope.names []) s.heap.objs.size code builtinsNs X.env)) tg gG ∧ PE (genCx X A s H N fp (genEnv scope (cloFrom X.env.cells scope.names []) s.heap.objs.size code builtinsNs X.env)) elt te)
    (he : starEach [.GeneratorExp elt [⟨tg, iter, [], 0⟩] scope gpos] X.env = (false, eval (.GeneratorExp elt [⟨tg, iter, [], 0⟩] scope gpos) X.env) :: starEach [] X.env := by rfl) :
    PE X (.Call (.Name "any" p) [.GeneratorExp elt [⟨tg, iter, [], 0⟩] scope gpos] [] pos) (tGenB P true tf ti gG te) := by
  refine ⟨fun pins s σ H Q I h => ?_⟩
  refine wpAny_Call_Name_kw (ld_blt I hg hm hb ?_)
  refine PyProof.Rows.callWith_builtin1 ?_ he (by rfl)
  rw [he]
  show wpAny _ _ (spliced ((false, eval (.GeneratorExp elt [⟨tg, iter, [], 0⟩] scope gpos) X.env) :: backTo pos (starEach [] X.env))) _ _ s
  refine Calls.spliced_cons (gen_make hr TB hcode L hdot hi hs I h fun it fp tn J H1 H2 s4 code h1 t tk hR hT I4 T t0 f0 flt hns kp hsz => ?_)
  refine Calls.spliced_nil ?_
  obtain ⟨n, Iv, iv0, hgo, hst⟩ := hR H2 hT
  have isg : (h1.push (genO s4.gens.size (X.env.qual ++ "<genexpr>") t)).IsGen h1.objs.size s4.gens.size := ⟨_, _, _, Heap.get?_push_size _ rfl, rfl, rfl, rfl⟩
  have kp2 : ∀ b o, s4.heap.get? b = some o → (h1.push (genO s4.gens.size (X.env.qual ++ "<genexpr>") t)).get? b = some o := fun b o e => Heap.get?_push_of_some _ (kp b o e)
  have hnew : s4.heap.objs.size ≤ h1.objs.size := Nat.le_of_lt hsz
  have hfr : (genA X.A tg iter elt scope gpos it (genEnv scope (cloFrom X.env.cells scope.names []) s4.heap.objs.size code builtinsNs X.env)).frames = some (genEnv scope (cloFrom X.env.cells scope.names []) s4.heap.objs.size code builtinsNs X.env :: X.stack) := by
    have q := I4.ok.frames
    show (X.A.frames).map _ = _
    rw [q]; rfl
  have hroomA : Room k (genA X.A tg iter elt scope gpos it (genEnv scope (cloFrom X.env.cells scope.names []) s4.heap.objs.size code builtinsNs X.env)) := by
    have d := hr.dp
    have u := hr.un
    refine ⟨hr.hd, ?_, ?_⟩
    · show X.A.depth + 0 + 1 + 3 * k + 5 < _
      omega
    · have e : (genA X.A tg iter elt scope gpos it (genEnv scope (cloFrom X.env.cells scope.names []) s4.heap.objs.size code builtinsNs X.env)).units ≤ X.A.units + 8 := by
        show X.A.in1.in1.units + 0 + _ ≤ _
        simp [Around.in1, Code.cUnits]
        show X.A.units + 2 + 3 * 1 ≤ _
        omega
      omega
  have hps : ∀ q ∈ [(h1.objs.size, genO s4.gens.size (X.env.qual ++ "<genexpr>") t)], (h1.push (genO s4.gens.size (X.env.qual ++ "<genexpr>") t)).get? q.1 = some q.2 ∧ H2 q.1 = none ∧ q.1 ≠ s4.heap.objs.size ∧ q.1 ∉ frs X.stack ∧ ∀ v, q.2.data ≠ .cell v := by
    intro q hq
    rw [List.mem_singleton.mp hq]
    refine ⟨Heap.get?_push_size _ rfl, I4.hok.fresh hnew, Nat.ne_of_gt hsz, fun z => ?_, fun v z => by cases z⟩
    rcases List.mem_cons.mp (I4.stkSub _ z) with e | e
    · have q1 := I4.lt
      rw [← e] at q1
      exact Nat.lt_irrefl _ (Nat.lt_of_lt_of_le q1 hnew)
    · exact I4.nofs hnew e
  have hex : ∀ b ∈ fp, b < s4.heap.objs.size ∧ (∀ o, X.base.get? b ≠ some o) ∧ b ∉ frs X.stack ∧ ∀ x c, X.env.cells.lookup x = some c → c ≠ b := by
    intro b hb
    obtain ⟨q1, q2, q3, q4, q5, q6⟩ := f0 b hb
    refine ⟨flt b hb, fun o e => ?_, fun z => ?_, q5⟩
    · rcases q4 with z | z
      · exact I4.ok.noex b o e z
      · exact Nat.lt_irrefl _ (Nat.lt_of_lt_of_le (Heap.lt_size e) (Nat.le_trans I4.ok.bsz z))
    · rcases List.mem_cons.mp (I4.stkSub _ z) with e | e
      · exact q2 e
      · exact q3 e
  have J0 := gen_start (D := s4.drawn) (tk := tk) (fp := fp) (τ := tf σ) I4 L hroomA.hd hfr (hns.keeps fun b o e => Heap.get?_push_of_some _ e) kp2 (AllBare.push I4.bare (g := .fresh (.compStart (.GeneratorExp elt [⟨tg, iter, [], 0⟩] scope gpos) 0 (.ref it) .none (genEnv scope (cloFrom X.env.cells scope.names []) s4.heap.objs.size code builtinsNs X.env))) rfl) hex (hlen σ I4.len) (hτ σ) hps
  have bd := hbody _ s4 H2 fp code hroomA
  have fpg : ∀ b ∈ fp, FpOk (genCx X (genA X.A tg iter elt scope gpos it (genEnv scope (cloFrom X.env.cells scope.names []) s4.heap.objs.size code builtinsNs X.env)) s4 H2 N fp (genEnv scope (cloFrom X.env.cells scope.names []) s4.heap.objs.size code builtinsNs X.env)) [(h1.objs.size, genO s4.gens.size (X.env.qual ++ "<genexpr>") t)] H2 b := by
    intro b hb
    refine ⟨(f0 b hb).1, Nat.ne_of_lt (flt b hb), (hex b hb).2.2.1, .inl hb, fun x c e => ((J0.ok.exf b hb).2 x c e), fun q hq => ?_⟩
    have hq : q ∈ [] ++ [(h1.objs.size, genO s4.gens.size (X.env.qual ++ "<genexpr>") t)] := hq
    rw [List.mem_singleton.mp hq]
    exact Nat.ne_of_gt (Nat.lt_of_lt_of_le (flt b hb) hnew)
  have GT := gturn (X := (genCx X (genA X.A tg iter elt scope gpos it (genEnv scope (cloFrom X.env.cells scope.names []) s4.heap.objs.size code builtinsNs X.env)) s4 H2 N fp (genEnv scope (cloFrom X.env.cells scope.names []) s4.heap.objs.size code builtinsNs X.env))) (c := true) (g := s4.gens.size) (a := h1.objs.size) (n := n) (Iv := Iv) (Qc := fun b H' => Q (.bl b) H') (J := J) (tn := tn) (it := it) rfl rfl T bd.1 bd.2 (List.mem_singleton.mpr rfl) (fun h e => ⟨genO s4.gens.size (X.env.qual ++ "<genexpr>") t, _, _, e, rfl, rfl, rfl⟩) hgo hst
  have tn0 : tn 0 (h1.push (genO s4.gens.size (X.env.qual ++ "<genexpr>") t)) := T.keep _ _ _ t0 fun b hb o e => kp2 b o e
  refine call_anyP (n := n) (wpAny_pyIter_gen isg ⟨_, rfl, pull_mono (R := Thru (genCx X (genA X.A tg iter elt scope gpos it (genEnv scope (cloFrom X.env.cells scope.names []) s4.heap.objs.size code builtinsNs X.env)) s4 H2 N fp (genEnv scope (cloFrom X.env.cells scope.names []) s4.heap.objs.size code builtinsNs X.env)) fun b H' => Q (.bl b) H') (fun b s' z => ?_) n _ (pull_gen (A := X.A.in1) hr.hd (by have := hr.dp; show X.A.depth < _; omega) n _ _ J0.nolimit isg (Array.getElem?_push_size ..) ⟨rfl, ?_⟩)⟩)
  · obtain ⟨ps', σ', H', IG, q⟩ := z
    obtain ⟨hh, g', d', t', os'⟩ := s'
    have os1 : os' = s4.os := IG.os
    subst os1
    exact ⟨.bl b, H', I4.call (h' := hh) (g' := g') (d' := d') (t' := t') (ch := fp) IG.base IG.hok IG.bare (fun b hb => ⟨(f0 b hb).2.2.2.1, (f0 b hb).2.1, (f0 b hb).2.2.2.2.1, (f0 b hb).2.2.2.2.2⟩), rfl, q⟩
  · exact seg_first L.co GT (fun s' Q' E' ⟨_, _, _, _, ht, _⟩ hq => T.self _ 0 s' Q' E' ht hq) _ _ ⟨tf σ, H2, inv_set J0 rfl, fpg, tn0, by simp [Shared.setGen], iv0⟩
end
end Den

namespace Den
variable [Tbs]
open PySem L2 Evl PySem.Spec PyProof.Rows
open Classical
section
variable {K : PySem.W.Frag} {W : WX} {X : Cx} {θ : Addr → Prop} {π α : Nat → Option Addr} {σ : L2.St} {H H' : Hp} {ρ : En} {p : Addr} {o : HO}
/-- what a generator expression sees of its maker's slots -/
def maskS : List Bool → L2.St → L2.St
  | _, [] => []
  | [], _ :: σ => none :: maskS [] σ
  | b :: bs, x :: σ => (match b with | true => x | false => none) :: maskS bs σ
def keepS : Sl → Sl
  | .va d => .va d
  | _ => .no
def maskE : List Bool → En → En
  | _, [] => []
  | [], _ :: ρ => .no :: maskE [] ρ
  | b :: bs, x :: ρ => (match b with | true => keepS x | false => .no) :: maskE bs ρ
omit [Tbs] in
theorem maskS_len : ∀ (bs : List Bool) (σ : L2.St), (maskS bs σ).length = σ.length
  | _, [] => by cases ‹List Bool› <;> rfl
  | [], _ :: σ => congrArg (· + 1) (maskS_len [] σ)
  | _ :: bs, _ :: σ => congrArg (· + 1) (maskS_len bs σ)
omit [Tbs] in
theorem maskE_len : ∀ (bs : List Bool) (ρ : En), (maskE bs ρ).length = ρ.length
  | _, [] => by cases ‹List Bool› <;> rfl
  | [], _ :: σ => congrArg (· + 1) (maskE_len [] σ)
  | _ :: bs, _ :: σ => congrArg (· + 1) (maskE_len bs σ)
omit [Tbs] in
theorem maskS_at : ∀ {bs : List Bool} {σ : L2.St} {i : Nat} {v : V}, (maskS bs σ)[i]? = some (some v) → bs[i]? = some true ∧ σ[i]? = some (some v)
  | bs, [], i, v, h => by
    have e : maskS bs [] = [] := by cases bs <;> rfl
    rw [e] at h; simp at h
  | [], _ :: σ, 0, v, h => by simp [maskS] at h
  | [], x :: σ, i + 1, v, h => by
    have z := (maskS_at (bs := []) (σ := σ) (i := i) (v := v) (by simpa [maskS] using h)).1
    simp at z
  | b :: bs, x :: σ, 0, v, h => by
    cases b with
    | true => exact ⟨rfl, by simpa [maskS] using h⟩
    | false => simp [maskS] at h
  | b :: bs, x :: σ, i + 1, v, h => by
    have z := maskS_at (bs := bs) (σ := σ) (i := i) (v := v) (by simpa [maskS] using h)
    exact ⟨by simpa using z.1, by simpa using z.2⟩
omit [Tbs] in
theorem maskE_at : ∀ {bs : List Bool} {σ : L2.St} {ρ : En} {i : Nat} {s : Sl}, (maskE bs ρ)[i]? = some s → ρ.length = σ.length → s = .no ∨ ∃ d, s = .va d ∧ ρ[i]? = some (.va d) ∧ (maskS bs σ)[i]? = σ[i]?
  | bs, σ, [], i, s, h, _ => by
    have e : maskE bs [] = [] := by cases bs <;> rfl
    rw [e] at h; simp at h
  | _, [], _ :: _, _, _, _, l => by simp at l
  | [], _ :: σ, x :: ρ, 0, s, h, _ => .inl (by simp [maskE] at h; exact h.symm)
  | [], y :: σ, x :: ρ, i + 1, s, h, l => by
    rcases maskE_at (bs := []) (σ := σ) (ρ := ρ) (i := i) (s := s) (by simpa [maskE] using h) (by simpa using l) with z | ⟨d, z1, z2, z3⟩
    · exact .inl z
    · exact .inr ⟨d, z1, by simpa using z2, by simpa [maskS] using z3⟩
  | b :: bs, y :: σ, x :: ρ, 0, s, h, _ => by
    cases b with
    | false => exact .inl (by simp [maskE] at h; exact h.symm)
    | true =>
      have h : keepS x = s := by simpa [maskE] using h
      cases x with
      | va d => exact .inr ⟨d, h.symm, rfl, rfl⟩
      | no => exact .inl h.symm
      | ow d => exact .inl h.symm
      | io d => exact .inl h.symm
      | ex d => exact .inl h.symm
  | b :: bs, y :: σ, x :: ρ, i + 1, s, h, l => by
    rcases maskE_at (bs := bs) (σ := σ) (ρ := ρ) (i := i) (s := s) (by simpa [maskE] using h) (by simpa using l) with z | ⟨d, z1, z2, z3⟩
    · exact .inl z
    · exact .inr ⟨d, z1, by simpa using z2, by simpa [maskS] using z3⟩
omit [Tbs] in
theorem Sof_none {θ : Addr → Prop} : Sof θ (fun _ => none) = θ := funext fun b => propext ⟨fun z => z.elim id fun ⟨i, z⟩ => (by cases z), fun z => .inl z⟩
theorem Rel.gen {bs : List Bool} (r : Rel K θ π α σ H ρ) : Rel K (Sof θ α) (fun _ => none) (fun _ => none) (maskS bs σ) H (maskE bs ρ) := by
  refine ⟨by rw [maskS_len, maskE_len]; exact r.len, fun _ _ _ h => (nomatch h), fun _ _ h => (nomatch h), fun b h => r.live b h, fun _ _ h => (nomatch h), fun _ _ h => (nomatch h), fun b h => ⟨.inl (r.tb b h).1, (r.tb b h).2⟩, fun i s h => ?_⟩
  rcases maskE_at (σ := σ) h r.len with z | ⟨d, z1, z2, z3⟩
  · subst z; trivial
  · subst z1
    obtain ⟨v, h1, h2⟩ := r.sl i _ z2
    exact ⟨v, z3.trans h1, by rw [Sof_none]; exact h2⟩
theorem Rel.back0 {α' : Nat → Option Addr} (r : Rel K θ π α σ H ρ) (s : Stp (Sof θ α) (fun _ => none) H α' H') : Rel K θ π α σ H' ρ ∧ Stp θ α H α H' := by
  have hx : Ex (hidS (Sof θ α) H) (hidS (Sof θ α) H') := by
    have z := s.1
    rw [Sof_none] at z
    refine z.trans fun b o q => ?_
    unfold hidS at q ⊢
    split at q
    · cases q
    · rename_i h
      rw [if_neg (fun t => h (.inl t))]
      exact q
  have hf : ∀ b, θ b → FrO (H b) (H' b) := fun b h => s.2 b (.inl h)
  exact ⟨⟨r.len, r.inj, r.ap, fun b h => (hf b h).ne (r.lv b h), r.dom, r.pin, fun b h => ⟨(r.tb b h).1, (hf b (r.tb b h).1).tb (r.tb b h).2⟩, fun i s' h => (r.sl i s' h).re rfl hx fun a vs ha z => ((s.2 a (.inr ⟨i, ha⟩)).lst z).trans z⟩, hx, hf⟩
theorem tabbed_ext {P : Addr} (hP : Tbs.T P) (h : isTb (H P)) (t : GxR.Tabbed P H H') : ExT H H' := by
  refine ⟨fun b o q => ?_, fun b hb => ?_⟩
  · unfold hidS at q ⊢
    split at q
    · cases q
    · rename_i n
      rw [if_neg n, t.2 b (fun z => n (by rw [z]; exact hP))]
      exact q
  · by_cases e : b = P
    · subst e; exact .inr ⟨h, t.1⟩
    · exact .inl (t.2 b e)
omit [Tbs] in
theorem bne_not : ∀ {b c : Bool}, ¬ b = c → b = !c := by decide
/-- all, any of a generator expression -/
def wGenB (c : Bool) (cs : List Bool) (wi : WI) (wg : WG) (we : WE) : WE := fun ρ R E => wi ρ (fun ds ρ1 => ∃ Inv : Nat → En → Prop, Inv 0 (maskE cs ρ1) ∧
  (∀ i d ρ', ds[i]? = some d → Inv i ρ' → wg d ρ' (fun ρ2 => we ρ2 (fun y ρ3 => ∃ b : Bool, y = .bool b ∧ if b = c then R (.bool c) ρ1 else Inv (i + 1) ρ3) NoE) NoE) ∧
  ∀ ρ', Inv ds.length ρ' → R (.bool (!c)) ρ1) E
theorem can_genB {P : Addr} (hP : Tbs.T P) {c : Bool} {cs : List Bool} {wi : WI} {wg : WG} {we : WE} (σ : L2.St) (H : Hp) (Q : VK) : cE K W (wGenB c cs wi wg we) σ H Q → tGenB P c (maskS cs) (cI K W wi) (cG K WNo wg) (cE K WNo we) σ H Q := by
  rintro ⟨θ, π, α, ρ, R, E, hR, hw, hq, he⟩
  refine ⟨θ, π, α, ρ, _, E, hR, hw, fun α1 J H1 ds ρ1 R1 s1 hJ w1 => ?_, he⟩
  obtain ⟨Inv, i0, step, fin⟩ := w1
  have tP := (R1.tb P hP).2
  refine ⟨tP, fun H2 t2 => ?_⟩
  obtain ⟨R2, s2⟩ := R1.extT (tabbed_ext hP tP t2)
  have Rg := R2.gen (bs := cs)
  refine ⟨ds.length, fun i σ' H' => ∃ αg ρ', Rel K (Sof θ α1) (fun _ => none) αg σ' H' ρ' ∧ Stp (Sof θ α1) (fun _ => none) H2 αg H' ∧ Inv i ρ', ⟨_, _, Rg, Stp.refl .., i0⟩, ?_, ?_⟩
  · rintro i σ' H' hi ⟨αg, ρ', R', s', iv⟩
    have x' : Ex (hidS (Sof θ α1) H1) (hidS (Sof (Sof θ α1) αg) H') := s2.1.trans (by have z := s'.1; rw [Sof_none] at z; exact z)
    obtain ⟨j1, j2⟩ := hJ _ H' i R'.live x'
    obtain ⟨g1, g2⟩ := j2 ds[i] (by simp [hi])
    refine ⟨g1, fun x H3 y => ?_⟩
    obtain ⟨ex, dp⟩ := g2 x H3 y
    refine ⟨_, _, αg, ρ', ds[i], _, _, R'.ext ex, dp, step i ds[i] ρ' (by simp [hi]) iv, fun α4 σ4 H4 ρ4 R4 s4 w4 => ?_, Exi.no⟩
    refine ⟨_, _, α4, ρ4, _, _, R4, w4, fun α5 v H5 y5 ρ5 R5 s5 p5 w5 => ?_, Exi.no⟩
    obtain ⟨b, rfl, w5⟩ := w5
    have sg := ((s'.trans (R'.stp ex)).trans s4).trans s5
    refine ⟨b, dp_b p5, ?_⟩
    by_cases e : b = c
    · rw [if_pos e] at w5
      obtain ⟨Rz, sz⟩ := R2.back0 sg
      exact .inl ⟨e, hq α1 _ H5 _ ρ1 Rz ((s1.trans s2).trans sz) (.bl c) w5⟩
    · rw [if_neg e] at w5
      refine .inr ⟨bne_not e, α5, ρ5, R5, sg, w5⟩
  · rintro σ' H' ⟨αg, ρ', R', s', iv⟩
    have x' : Ex (hidS (Sof θ α1) H1) (hidS (Sof (Sof θ α1) αg) H') := s2.1.trans (by have z := s'.1; rw [Sof_none] at z; exact z)
    obtain ⟨j1, j2⟩ := hJ _ H' ds.length R'.live x'
    obtain ⟨Rz, sz⟩ := R2.back0 s'
    exact ⟨j1 rfl, hq α1 _ H' _ ρ1 Rz ((s1.trans s2).trans sz) (.bl _) (fin ρ' iv)⟩
/-- which slots the generator captures, by its scope -/
def capOk (N : List Str) (cs : List Bool) (scope : Scope) : Bool := (N.zip cs).all fun p => !p.2 || decide (scope.names.lookup p.1 = some .free)
omit [Tbs] in
theorem capOk_at {N : List Str} {cs : List Bool} {scope : Scope} (h : capOk N cs scope = true) {i : Nat} {y : Str} (h1 : N[i]? = some y) (h2 : cs[i]? = some true) : scope.names.lookup y = some .free := by
  have z := List.all_eq_true.mp h (y, true) (List.mem_of_getElem? (i := i) (by rw [List.getElem?_zip_eq_some]; exact ⟨h1, h2⟩))
  simpa using z
section
variable {c P : Addr} {tg elt iter : Expr} {q pos gpos : Pos} {scope : Scope} {wi : WI} {wg : WG} {we : WE} {k : Nat} {cs : List Bool}
theorem dAllG (hP : Tbs.T P) (hr : Room (k + 1) X.A) (hg : Gl X "all") (hm : X.mg "all" = none) (TB : GxR.TabB X.base X.mg c P) (hcode : X.env.code = .ref c) (L : GenSc X.env.scope scope) (hdot : scope.names.lookup (".0" : Str) = some NameKind.local) (hcap : capOk X.N cs scope = true) (hi : PI X tg iter (cI X.K W wi))
    (hbody : ∀ (A : Around) (s : Shared) (H : Hp) (fp : List Addr) (code : Value), Room k A → PG (genCx X A s H X.N fp (genEnv scope (cloFrom X.env.cells scope.names []) s.heap.objs.size code builtinsNs X.env)) tg (cG X.K WNo wg) ∧ PE (genCx X A s H X.N fp (genEnv scope (cloFrom X.env.cells scope.names []) s.heap.objs.size code builtinsNs X.env)) elt (cE X.K WNo we))
    (hs : ∀ v, genFold iter X.env v = pure v := by intro _; rfl)
    (he : starEach [.GeneratorExp elt [⟨tg, iter, [], 0⟩] scope gpos] X.env = (false, eval (.GeneratorExp elt [⟨tg, iter, [], 0⟩] scope gpos) X.env) :: starEach [] X.env := by rfl) :
    PE X (.Call (.Name "all" q) [.GeneratorExp elt [⟨tg, iter, [], 0⟩] scope gpos] [] pos) (cE X.K W (wGenB false cs wi wg we)) :=
  peI (pe_allG (N := X.N) (tf := maskS cs) hr hg hm (by decide +kernel) TB hcode L hdot hi hs (fun σ h => (maskS_len cs σ).trans h) (fun σ i y v h1 h2 _ => ⟨h1, (maskS_at h2).2, capOk_at hcap h1 (maskS_at h2).1⟩) hbody he) (can_genB hP)
theorem dAnyG (hP : Tbs.T P) (hr : Room (k + 1) X.A) (hg : Gl X "any") (hm : X.mg "any" = none) (TB : GxR.TabB X.base X.mg c P) (hcode : X.env.code = .ref c) (L : GenSc X.env.scope scope) (hdot : scope.names.lookup (".0" : Str) = some NameKind.local) (hcap : capOk X.N cs scope = true) (hi : PI X tg iter (cI X.K W wi))
    (hbody : ∀ (A : Around) (s : Shared) (H : Hp) (fp : List Addr) (code : Value), Room k A → PG (genCx X A s H X.N fp (genEnv scope (cloFrom X.env.cells scope.names []) s.heap.objs.size code builtinsNs X.env)) tg (cG X.K WNo wg) ∧ PE (genCx X A s H X.N fp (genEnv scope (cloFrom X.env.cells scope.names []) s.heap.objs.size code builtinsNs X.env)) elt (cE X.K WNo we))
    (hs : ∀ v, genFold iter X.env v = pure v := by intro _; rfl)
    (he : starEach [.GeneratorExp elt [⟨tg, iter, [], 0⟩] scope gpos] X.env = (false, eval (.GeneratorExp elt [⟨tg, iter, [], 0⟩] scope gpos) X.env) :: starEach [] X.env := by rfl) :
    PE X (.Call (.Name "any" q) [.GeneratorExp elt [⟨tg, iter, [], 0⟩] scope gpos] [] pos) (cE X.K W (wGenB true cs wi wg we)) :=
  peI (pe_anyG (N := X.N) (tf := maskS cs) hr hg hm (by decide +kernel) TB hcode L hdot hi hs (fun σ h => (maskS_len cs σ).trans h) (fun σ i y v h1 h2 _ => ⟨h1, (maskS_at h2).2, capOk_at hcap h1 (maskS_at h2).1⟩) hbody he) (can_genB hP)
end
/-- an owned list that is captured is frozen -/
def wFz (j : Nat) (w : WE) : WE := fun ρ R E => match ρ[j]? with
  | some (.ow ds) => w (ρ.set j (.va (.list ds))) R E
  | some (.va _) => w ρ R E
  | _ => False
theorem dFz {e : Expr} {j : Nat} {w : WE} (h : PE X e (cE K W w)) : PE X e (cE K W (wFz j w)) := peI h fun σ H Q ⟨θ, π, α, ρ, R, E, hR, hw, hq, he⟩ => by
  unfold wFz at hw
  split at hw
  · rename_i ds e
    obtain ⟨α', v, r, s, h1, h2⟩ := hR.freeze e
    exact ⟨θ, π, α', _, R, E, r, hw, fun α2 v2 H2 d ρ2 R2 s2 p2 w2 => hq α2 v2 H2 d ρ2 R2 (s.trans s2) p2 w2, he.step s⟩
  · exact ⟨θ, π, α, ρ, R, E, hR, hw, hq, he⟩
  · exact hw.elim

/-! a def whose code object has a table -/
structure FunC (K : PySem.W.Frag) (x qual : Str) (st : Stmt) (f : Addr) (fd : FuncData) (c : Addr) : Prop where
  ex : ∃ (oc : Value) (od : Option Addr) (kV doc pm : Value) (an : Option Addr) (ct : Value) (osl : Array (Option Value)),
    fd = PySem.W.fnOf x qual (defArgs st) (defBody st) (defScope st) .none kV doc pm an (.ref c) ct ∧ K.lookup f = some ⟨oc, od, .func fd, osl⟩ ∧ PySem.W.codeIn K (.ref c) qual = true
theorem fnSC {x qual : Str} {st : Stmt} {f c : Addr} {fd : FuncData} {N ps : List Str} {k : Nat} {P : Program} {w : World} {mg : Str → Option Value} {base : Heap} {S : WF} {wb : WS} (F : FunC K x qual st f fd c) (Sc : FnScope N ps (defScope st))
    (hb : ∀ (A : Around) (outer : List Env) (s : Shared) (H : Hp) (E : XK), Room k (A.deeper (envOfC qual (defScope st) s.heap.objs.size f (.ref c))) →
      PSs (cxOf (L2N.CX P w) P w K mg base N qual (defScope st) f (.ref c) A outer s H E) (defBody st) (cS K (fun cls d _ H => E cls d H) wb))
    (hw : ∀ pr R E, S pr R E → wb (bxOf ps.length R E) (pr ++ List.replicate (N.length - ps.length) .no)) : FnOk P w K mg base (L2N.CX P w) (k + 1) f fd ps (toSp K ps.length S) := by
  obtain ⟨oc, od, kV, doc, pm, an, ct, osl, rfl, lk, hcd⟩ := F.ex
  refine fn_of lk hcd Sc (fun vs H Q E ⟨_, _, _, _, _, h, _⟩ => h) fun A outer s H vs Q E hr hsp => ⟨_, hb A outer s H E hr, ?_⟩
  obtain ⟨θ, β, pr, R, E', hl, r, hS, hq, he⟩ := hsp
  have e := hw pr R E' hS
  rw [← hl] at e
  refine ⟨θ, β, β, _, _, start_rel r, e, ⟨fun α' σ' H' ρ' r' s' h => ?_, fun _ _ _ _ _ _ h => h.elim, fun _ _ _ _ _ _ h => h.elim, fun α' σ' H' v d ρ' r' s' p h => ?_, fun α' σ' p xs H' ds ρ' r' s' np h1 dp h => ?_, fun α' σ' H' c ρ' r' s' h => ?_⟩⟩
  · obtain ⟨r2, x1, x2⟩ := fin_rel r r' s'.1
    exact hq .non H' .none _ r2 x1 s'.2 .non h
  · obtain ⟨r2, x1, x2⟩ := fin_rel r r' s'.1
    exact hq v H' d _ r2 x1 s'.2 (dp_mono x2 p) h
  · exact h.elim
  · obtain ⟨r2, x1, x2⟩ := fin_rel r r' s'.1
    exact he H' c _ r2 x1 s'.2 h
theorem fnFC {x qual : Str} {st : Stmt} {f c : Addr} {fd : FuncData} {N ps : List Str} {k : Nat} {P : Program} {w : World} {mg : Str → Option Value} {base : Heap} {S : WFF} {wb : WS} (F : FunC K x qual st f fd c) (Sc : FnScope N ps (defScope st))
    (hb : ∀ (A : Around) (outer : List Env) (s : Shared) (H : Hp) (E : XK), Room k (A.deeper (envOfC qual (defScope st) s.heap.objs.size f (.ref c))) →
      PSs (cxOf (L2N.CX P w) P w K mg base N qual (defScope st) f (.ref c) A outer s H E) (defBody st) (cS K (fun cls d _ H => E cls d H) wb))
    (hw : ∀ pr R E, S pr R E → wb (bxF ps.length R E) (pr ++ List.replicate (N.length - ps.length) .no)) : FnOk P w K mg base (L2N.CX P w) (k + 1) f fd ps (toSpF K ps.length S) := by
  obtain ⟨oc, od, kV, doc, pm, an, ct, osl, rfl, lk, hcd⟩ := F.ex
  refine fn_of lk hcd Sc (fun vs H Q E ⟨_, _, _, _, _, h, _⟩ => h) fun A outer s H vs Q E hr hsp => ⟨_, hb A outer s H E hr, ?_⟩
  obtain ⟨θ, β, pr, R, E', hl, r, hS, hq, he⟩ := hsp
  have e := hw pr R E' hS
  rw [← hl] at e
  refine ⟨θ, β, β, _, _, start_rel r, e, ⟨fun _ _ _ _ _ _ h => h.elim, fun _ _ _ _ _ _ h => h.elim, fun _ _ _ _ _ _ h => h.elim, fun _ _ _ _ _ _ _ _ _ h => h.elim, fun α' σ' p xs H' ds ρ' r' s' np h1 dp h => ?_, fun α' σ' H' c ρ' r' s' h => ?_⟩⟩
  · obtain ⟨r2, x1, x2⟩ := fin_rel r r' s'.1
    exact hq p xs H' ds _ r2 x1 s'.2 np h1 (dpA_mono x2 dp) h
  · obtain ⟨r2, x1, x2⟩ := fin_rel r r' s'.1
    exact he H' c _ r2 x1 s'.2 h
end
end Den

set_option maxHeartbeats 1000000
/-! zip of any lists and tuples -/
namespace Zn
open PySem
structure It1 where
  t : Bool
  it : Addr
  l : Addr
def ItAt (h : Heap) (p : It1) (k : Nat) : Prop := match p.t with
  | false => h.IsListIter p.it p.l k
  | true => h.IsTupleIter p.it p.l k
def SqAt (h : Heap) (p : It1) (xs : Array Value) : Prop := match p.t with
  | false => h.IsList p.l xs
  | true => h.IsTuple p.l xs
section
variable {h h' : Heap} {p : It1} {k : Nat}
theorem ItAt.at (x : ItAt h p k) (f : ∀ o, h.get? p.it = some o → h'.get? p.it = some o) : ItAt h' p k := by
  obtain ⟨t, it, l⟩ := p
  cases t with
  | false => exact Heap.IsListIter.at x f
  | true => exact Heap.IsTupleIter.at x f
theorem SqAt.at {xs : Array Value} (x : SqAt h p xs) (f : ∀ o, h.get? p.l = some o → h'.get? p.l = some o) : SqAt h' p xs := by
  obtain ⟨t, it, l⟩ := p
  cases t with
  | false => exact Heap.IsList.at x f
  | true =>
    obtain ⟨o, e, r⟩ := x
    exact ⟨o, f o e, r⟩
theorem ItAt.obj (x : ItAt h p k) : ∃ o, h.get? p.it = some o ∧ ∀ v, o.data ≠ .cell v := by
  obtain ⟨t, it, l⟩ := p
  cases t with
  | false => obtain ⟨o, e, _, d⟩ := x; exact ⟨o, e, fun v q => by rw [d] at q; cases q⟩
  | true => obtain ⟨o, e, _, d⟩ := x; exact ⟨o, e, fun v q => by rw [d] at q; cases q⟩
end
section
variable {prog : Program} {w : World} {A : Around} {E : Value → Shared → Prop} {s : Shared} {p : It1} {k : Nat}
theorem nextOf_item {xs : Array Value} {x : Value} {Q : Value → Shared → Prop} (hi : ItAt s.heap p k) (hl : SqAt s.heap p xs) (hx : xs[k]? = some x)
    (hQ : ∀ h', ItAt h' p (k + 1) → Heap.SameBut p.it s.heap h' → Q x { s with heap := h' }) : wpAny (model prog w) A (Builtin.SmallTypes.nextOf (.ref p.it)) Q E s := by
  obtain ⟨t, it, l⟩ := p
  cases t with
  | false => exact wpAny_nextOf_list_item hi hl hx hQ
  | true => exact RZ.nextOf_tuple_item hi hl hx hQ
theorem nextOf_end {xs : Array Value} {Q : Value → Shared → Prop} (hh : A.handled = none) (hi : ItAt s.heap p k) (hl : SqAt s.heap p xs) (hx : xs[k]? = none)
    (hE : ∀ h' e, Heap.ExtBut p.it s.heap h' → (∃ o, h'.get? e = some o ∧ o.cls = .type "StopIteration") → E (.ref e) { s with heap := h' }) : wpAny (model prog w) A (Builtin.SmallTypes.nextOf (.ref p.it)) Q E s := by
  obtain ⟨t, it, l⟩ := p
  cases t with
  | false => exact wpAny_nextOf_list_end hh hi hl hx hE
  | true => exact RZ.nextOf_tuple_end hh hi hl hx hE
theorem fold_rule {α β : Type} {body : α → β → Sem (ForInStep β)} {b : β} {Q : β → Shared → Prop} (I : Nat → Shared → Prop) : ∀ (l : List α) (i : Nat) (s : Shared), I i s →
    (∀ j x s', l[j]? = some x → I (i + j) s' → wpAny (model prog w) A (body x b) (fun r s'' => r = .yield b ∧ I (i + j + 1) s'') E s') →
    (∀ s', I (i + l.length) s' → Q b s') → wpAny (model prog w) A (forIn l b body) Q E s
  | [], i, s, hI, _, done => by
    rw [List.forIn_nil]
    exact wpAny_pure (done s (by simpa using hI))
  | x :: vs, i, s, hI, step, done => by
    rw [List.forIn_cons]
    refine wpAny_bind (wpAny_mono (step 0 x s (by simp) hI) (fun r s' h' => ?_) fun _ _ e => e)
    obtain ⟨rfl, hI'⟩ := h'
    show wpAny _ A (forIn vs b body) Q E s'
    refine fold_rule I vs (i + 1) s' hI' (fun j y s'' hy hJ => ?_) fun s'' hd => done s'' ?_
    · have e : i + (j + 1) = i + 1 + j := by omega
      have z := step (j + 1) y s'' (by simpa using hy) (by rw [e]; exact hJ)
      rw [e] at z
      exact z
    · have e : i + (x :: vs).length = i + 1 + vs.length := by simp; omega
      rw [e]; exact hd
end
abbrev IsTupN (h : Heap) (T : Addr) (vals : Array Value) : Prop := h.get? T = some { cls := .type "tuple", data := .seq vals }
abbrev itsOf (ps : List It1) : Array Value := (ps.map fun p => Value.ref p.it).toArray
structure Apt (z TI TO : Addr) (ps : List It1) : Prop where
  TIz : TI ≠ z
  TOz : TO ≠ z
  TITO : TI ≠ TO
  iz : ∀ p ∈ ps, p.it ≠ z
  iTI : ∀ p ∈ ps, p.it ≠ TI
  iTO : ∀ p ∈ ps, p.it ≠ TO
  lz : ∀ p ∈ ps, p.l ≠ z
  lTO : ∀ p ∈ ps, p.l ≠ TO
  li : ∀ p ∈ ps, ∀ q ∈ ps, p.l ≠ q.it
  ii : ∀ (i j : Nat) (p q : It1), ps[i]? = some p → ps[j]? = some q → i ≠ j → p.it ≠ q.it
/-- what stays -/
def Kp (z TO : Addr) (ps : List It1) (h h' : Heap) : Prop := ∀ c o, c ≠ z → c ≠ TO → (∀ p ∈ ps, c ≠ p.it) → h.get? c = some o → h'.get? c = some o
structure LoopI (xs : It1 → Array Value) (z TI TO : Addr) (ps : List It1) (k : Nat) (s : Shared) (j : Nat) (s' : Shared) : Prop where
  ex : ∃ (h' : Heap) (vals : Array Value), s' = { s with heap := h' } ∧ IsZip h' z TI TO .ellipsis ∧ IsTupN h' TO vals ∧ vals.size = ps.length ∧ (∀ (i : Nat) (p : It1), i < j → ps[i]? = some p → ∃ x, (xs p)[k]? = some x ∧ vals[i]? = some x) ∧
    (∀ (i : Nat) (p : It1), ps[i]? = some p → ItAt h' p (if i < j then k + 1 else k)) ∧ (∀ p ∈ ps, SqAt h' p (xs p)) ∧ h'.objs.size = s.heap.objs.size ∧ Kp z TO ps s.heap h'
section
variable {prog : Program} {w : World} {A : Around} {E : Value → Shared → Prop} {s : Shared} {ps : List It1} {k : Nat} {z TI TO : Addr} {xs : It1 → Array Value}
theorem zipN_next {vals0 : Array Value} {Q : Value → Shared → Prop} (hh : A.handled = none) (D : Apt z TI TO ps) (h0 : ps ≠ []) (hn : ps.length ≤ 64)
    (hz : IsZip s.heap z TI TO .none) (hTI : IsTupN s.heap TI (itsOf ps)) (hTO : IsTupN s.heap TO vals0) (hv : vals0.size = ps.length) (hi : ∀ p ∈ ps, ItAt s.heap p k) (hl : ∀ p ∈ ps, SqAt s.heap p (xs p))
    (hQ : ∀ (row : List Value) (h' : Heap), row.length = ps.length → (∀ (i : Nat) (p : It1), ps[i]? = some p → ∃ x, (xs p)[k]? = some x ∧ row[i]? = some x) → IsZip h' z TI TO (rawInt s.heap.objs.size) → (∃ vals, IsTupN h' TO vals ∧ vals.size = ps.length) →
      (∀ p ∈ ps, ItAt h' p (k + 1)) → IsTupN h' s.heap.objs.size row.toArray → h'.objs.size = s.heap.objs.size + 1 → Kp z TO ps s.heap h' → Q (.ref s.heap.objs.size) { s with heap := h' })
    (hE : (∃ p ∈ ps, (xs p)[k]? = none) → ∀ h' e, Kp z TO ps s.heap h' → (∃ o, h'.get? e = some o ∧ o.cls = .type "StopIteration") → E (.ref e) { s with heap := h' }) :
    wpAny (model prog w) A (Builtin.«zip.__next__» ⟨[.ref z], []⟩) (fun fin s' => ∃ v, fin = .done (.ret v) ∧ Q v s') E s := by
  show wpAny _ _ (field (.ref z) 2 >>= _) _ _ _
  refine wpAny_bind (wpAny_field hz rfl (x := .bool false) rfl ?_)
  show wpAny _ _ (field (.ref z) 3 >>= _) _ _ _
  refine wpAny_bind (wpAny_field hz rfl (x := .ref TI) rfl ?_)
  refine wpAny_bind (wpAny_seqItems hTI rfl ?_)
  have hne : (itsOf ps).isEmpty = false := by
    cases ps with
    | nil => exact absurd rfl h0
    | cons p r => simp [itsOf]
  simp only [hne, Bool.false_eq_true, if_false]
  show wpAny _ _ (Builtin.SmallTypes.ownedTupleIsFree (.ref z) >>= _) _ _ _
  refine wpAny_bind ?_
  unfold Builtin.SmallTypes.ownedTupleIsFree
  refine wpAny_bind (wpAny_field hz rfl (x := .none) rfl (wpAny_pure ?_))
  simp only [if_true]
  refine wpAny_bind (wpAny_rule ?_)
  refine wpAny_bind (wpAny_field hz rfl (x := .ref TO) rfl ?_)
  refine wpAny_bind (wpAny_setField_rec hz (by simp) fun h₁ hz₁ hs₁ => ?_)
  replace hz₁ : IsZip h₁ z TI TO .ellipsis := hz₁
  refine wpAny_bind ?_
  have start : LoopI xs z TI TO ps k s 0 { s with heap := h₁ } := ⟨h₁, vals0, rfl, hz₁, hs₁.extBut _ _ D.TOz hTO, hv, fun i p hi _ => absurd hi (by omega), fun i p e => by
      rw [if_neg (by omega)]
      exact (hi p (List.mem_of_getElem? e)).at fun o q => hs₁.extBut _ _ (D.iz p (List.mem_of_getElem? e)) q, fun p hp => (hl p hp).at fun o q => hs₁.extBut _ _ (D.lz p hp) q, hs₁.1, fun c o c1 _ _ q => hs₁.extBut _ _ c1 q⟩
  refine fold_rule (LoopI xs z TI TO ps k s) ((itsOf ps).toList.zipIdx) 0 _ start ?step ?done
  case step =>
    rintro j ⟨itv, jj⟩ s' hj ⟨h2, vals, rfl, z2, t2, v2, d2, i2, l2, sz2, k2⟩
    simp only [Nat.zero_add] at *
    have hjl : j < ps.length := by
      have q := (List.getElem?_eq_some_iff.mp hj).1
      simpa using q
    obtain ⟨p, hp⟩ : ∃ p, ps[j]? = some p := ⟨_, List.getElem?_eq_getElem hjl⟩
    have hpm := List.mem_of_getElem? hp
    rw [List.getElem?_zipIdx] at hj
    have hj : Option.map (fun a => (a, 0 + j)) ((itsOf ps).toList[j]?) = some (itv, jj) := hj
    have hit : (itsOf ps).toList[j]? = some (.ref p.it) := by
      show (ps.map fun p => Value.ref p.it)[j]? = _
      rw [List.getElem?_map, hp]; rfl
    rw [hit] at hj
    cases hj
    rw [Nat.zero_add]
    have hI := i2 j p hp
    rw [if_neg (Nat.lt_irrefl j)] at hI
    refine wpAny_bind (wpAny_onRaise ?_)
    show wpAny _ _ (Builtin.SmallTypes.nextOf (.ref p.it) >>= _) _ _ _
    cases hx : (xs p)[k]? with
    | none =>
      refine wpAny_bind (nextOf_end hh hI (l2 p hpm) hx fun h3 e hs3 he => ?_)
      obtain ⟨oe, hoe, hce⟩ := he
      have z3 : IsZip h3 z TI TO .ellipsis := hs3 _ _ (D.iz p hpm).symm z2
      have hez : e ≠ z := fun q => by subst q; rw [z3] at hoe; cases hoe; simp at hce
      exact wpAny_setField_rec z3 (by simp) fun h4 _ hs4 => hE ⟨p, hpm, hx⟩ h4 e (fun c o c1 c2 c3 q => hs4.extBut _ _ c1 (hs3 _ _ (c3 p hpm) (k2 c o c1 c2 c3 q))) ⟨oe, hs4.extBut _ _ hez hoe, hce⟩
    | some x =>
      refine wpAny_bind (nextOf_item hI (l2 p hpm) hx fun h3 hi3 hs3 => wpAny_pure ?_)
      have t3 : IsTupN h3 TO vals := hs3.extBut _ _ (D.iTO p hpm).symm t2
      refine wpAny_bind (wpAny_seqItems t3 rfl ?_)
      refine wpAny_bind (wpAny_updateSeq t3 rfl ?_ (by rw [v2, sizeLine_eq]; omega) (by rw [Array.size_setIfInBounds, v2, sizeLine_eq]; omega))
      have s4 := Heap.SameBut.update h3 TO (Obj.mapSeq (·.setIfInBounds j x))
      have t4 : IsTupN (h3.update TO (Obj.mapSeq (·.setIfInBounds j x))) TO (vals.setIfInBounds j x) := by
        show Heap.get? _ _ = _
        rw [Heap.get?_update_self _ t3 rfl]
        simp [Obj.mapSeq]
      refine wpAny_bind (wpAny_letGo (wpAny_pure ⟨rfl, ⟨_, vals.setIfInBounds j x, rfl, ?_, t4, by simpa using v2, fun i q hi hq => ?_, fun i q hq => ?_, fun q hq => ?_, ?_, fun c o c1 c2 c3 e => ?_⟩⟩))
      · exact s4.extBut _ _ D.TOz.symm (hs3.extBut _ _ (D.iz p hpm).symm z2)
      · by_cases e : i = j
        · subst e
          rw [hp] at hq; cases hq
          exact ⟨x, hx, by rw [Array.getElem?_setIfInBounds_self, if_pos (by rw [v2]; exact hjl)]⟩
        · obtain ⟨y, y1, y2⟩ := d2 i q (by omega) hq
          exact ⟨y, y1, by rw [Array.getElem?_setIfInBounds_ne (fun z => e z.symm)]; exact y2⟩
      · have hqm := List.mem_of_getElem? hq
        by_cases e : i = j
        · subst e
          rw [hp] at hq; cases hq
          rw [if_pos (Nat.lt_succ_self i)]
          exact hi3.at fun o e => s4.extBut _ _ (D.iTO p hpm) e
        · have z := i2 i q hq
          have e2 : (if i < j then k + 1 else k) = if i < j + 1 then k + 1 else k := by
            by_cases c : i < j
            · rw [if_pos c, if_pos (by omega)]
            · rw [if_neg c, if_neg (by omega)]
          rw [e2] at z
          exact z.at fun o r => s4.extBut _ _ (D.iTO q hqm) (hs3.extBut _ _ (D.ii i j q p hq hp e) r)
      · exact (l2 q hq).at fun o r => s4.extBut _ _ (D.lTO q hq) (hs3.extBut _ _ (D.li q hq p hpm) r)
      · rw [s4.1, hs3.1]; exact sz2
      · exact s4.extBut _ _ c2 (hs3.extBut _ _ (c3 p hpm) (k2 c o c1 c2 c3 e))
  case done =>
    rintro s' ⟨h5, vals, rfl, z5, t5, v5, d5, i5, l5, sz5, k5⟩
    have hlen : 0 + ((itsOf ps).toList.zipIdx).length = ps.length := by simp
    rw [hlen] at d5 i5
    refine wpAny_bind (wpAny_seqItems t5 rfl ?_)
    refine wpAny_bind (wpAny_newTuple ?_ (by show vals.toList.length ≤ _; rw [Array.length_toList, v5, sizeLine_eq]; omega))
    have hzlt : z < h5.objs.size := Heap.lt_size z5
    show wpAny _ _ (Builtin.SmallTypes.ownedTupleHandOut (.ref z) (.ref h5.objs.size) >>= _) _ _ _
    refine wpAny_bind ?_
    unfold Builtin.SmallTypes.ownedTupleHandOut
    have z6 : IsZip (h5.push { cls := .type "tuple", data := .seq vals.toList.toArray }) z TI TO .ellipsis := Heap.get?_push_of_some _ z5
    refine wpAny_bind (wpAny_setField_rec z6 (by simp) fun h7 z7 hs7 => ?_)
    replace z7 : IsZip h7 z TI TO (rawInt h5.objs.size) := z7
    refine wpAny_setField_rec z7 (by simp) fun h8 z8 hs8 => ?_
    replace z8 : IsZip h8 z TI TO (rawInt h5.objs.size) := z8
    have up : ∀ c o, c ≠ z → h5.get? c = some o → h8.get? c = some o := fun c o c1 e => hs8.extBut _ _ c1 (hs7.extBut _ _ c1 (Heap.get?_push_of_some _ e))
    have hT8 : IsTupN h8 h5.objs.size vals.toList.toArray := hs8.extBut _ _ (Nat.ne_of_gt hzlt) (hs7.extBut _ _ (Nat.ne_of_gt hzlt) (Heap.get?_push_size _ rfl))
    have sz8 : h8.objs.size = h5.objs.size + 1 := by rw [hs8.1, hs7.1, Heap.size_push]
    rw [sz5] at z8 hT8 sz8
    refine wpAny_pure ⟨_, rfl, ?_⟩
    show Q (.ref h5.objs.size) _
    rw [sz5]
    refine hQ vals.toList h8 (by simpa using v5) (fun i p hp => ?_) z8 ⟨vals, up _ _ D.TOz t5, v5⟩ (fun p hp => ?_) hT8 sz8 fun c o c1 c2 c3 e => up c o c1 (k5 c o c1 c2 c3 e)
    · obtain ⟨x, x1, x2⟩ := d5 i p (List.getElem?_eq_some_iff.mp hp).1 hp
      exact ⟨x, x1, by simpa using x2⟩
    · obtain ⟨i, hi'⟩ := List.mem_iff_getElem?.mp hp
      have z := i5 i p hi'
      rw [if_pos (List.getElem?_eq_some_iff.mp hi').1] at z
      exact z.at fun o e => up _ o (D.iz p hp) e
end
section
variable {prog : Program} {w : World} {A : Around} {E : Value → Shared → Prop} {s : Shared} {ps : List It1} {k : Nat} {z TI TO : Addr} {xs : It1 → Array Value}
theorem pyNext_zipN_item {vals0 : Array Value} {Q : Option Value → Shared → Prop} (hh : A.handled = none) (D : Apt z TI TO ps) (h0 : ps ≠ []) (hn : ps.length ≤ 64)
    (hz : IsZip s.heap z TI TO .none) (hTI : IsTupN s.heap TI (itsOf ps)) (hTO : IsTupN s.heap TO vals0) (hv : vals0.size = ps.length) (hi : ∀ p ∈ ps, ItAt s.heap p k) (hl : ∀ p ∈ ps, SqAt s.heap p (xs p)) (hx : ∀ p ∈ ps, (xs p)[k]? ≠ none)
    (hQ : ∀ (row : List Value) (h' : Heap), row.length = ps.length → (∀ (i : Nat) (p : It1), ps[i]? = some p → ∃ x, (xs p)[k]? = some x ∧ row[i]? = some x) → IsZip h' z TI TO (rawInt s.heap.objs.size) → (∃ vals, IsTupN h' TO vals ∧ vals.size = ps.length) →
      (∀ p ∈ ps, ItAt h' p (k + 1)) → IsTupN h' s.heap.objs.size row.toArray → h'.objs.size = s.heap.objs.size + 1 → Kp z TO ps s.heap h' → Q (some (.ref s.heap.objs.size)) { s with heap := h' }) :
    wpAny (model prog w) A (pyNext (.ref z)) Q E s := by
  have hT : s.TypeIs (.ref z) "zip" := ⟨_, hz, rfl⟩
  unfold pyNext
  exact wpAny_bind (wpAny_attempt (wpAny_callSpecial?_slot (name := Str.ofString "__next__") hT F.slot_zip_next
    (wpAny_call_entry F.slot_zip_next hT F.entry_zip_next
      (zipN_next hh D h0 hn hz hTI hTO hv hi hl (fun row h' a1 a2 a3 a4 a5 a6 a7 a8 => wpAny_pure (hQ row h' a1 a2 a3 a4 a5 a6 a7 a8)) fun ⟨p, hp, e⟩ => absurd e (hx p hp)) (F.args_zip_next_1 _))))
theorem pyNext_zipN_end {vals0 : Array Value} {Q : Option Value → Shared → Prop} (hh : A.handled = none) (D : Apt z TI TO ps) (h0 : ps ≠ []) (hn : ps.length ≤ 64)
    (hz : IsZip s.heap z TI TO .none) (hTI : IsTupN s.heap TI (itsOf ps)) (hTO : IsTupN s.heap TO vals0) (hv : vals0.size = ps.length) (hi : ∀ p ∈ ps, ItAt s.heap p k) (hl : ∀ p ∈ ps, SqAt s.heap p (xs p)) (hx : ∃ p ∈ ps, (xs p)[k]? = none)
    (hQ : ∀ h', Kp z TO ps s.heap h' → Q none { s with heap := h' }) :
    wpAny (model prog w) A (pyNext (.ref z)) Q E s := by
  have hT : s.TypeIs (.ref z) "zip" := ⟨_, hz, rfl⟩
  unfold pyNext
  refine wpAny_bind (wpAny_attempt (wpAny_callSpecial?_slot (name := Str.ofString "__next__") hT F.slot_zip_next
    (wpAny_call_entry F.slot_zip_next hT F.entry_zip_next
      (zipN_next hh D h0 hn hz hTI hTO hv hi hl (fun row h' a1 a2 a3 a4 a5 a6 a7 a8 => ?_) fun _ h' e hk he => ?_) (F.args_zip_next_1 _))))
  · obtain ⟨p, hp, e⟩ := hx
    obtain ⟨i, q⟩ := List.mem_iff_getElem?.mp hp
    obtain ⟨x, x1, _⟩ := a2 i p q
    rw [e] at x1; cases x1
  · obtain ⟨o, ho, hc⟩ := he
    refine wpAny_bind (wpAny_isInstance (T := "StopIteration") (b := true) ⟨o, ho, hc⟩ isSubtype_stop ?_)
    exact wpAny_pure (hQ _ hk)
end
/-! making a zip -/
def itO (p : It1) : Obj := { cls := .type (match p.t with | false => "list_iterator" | true => "tuple_iterator"), data := .fields #[.ref p.l, .int 0 0] }
theorem itO_at {h : Heap} {p : It1} (e : h.get? p.it = some (itO p)) : ItAt h p 0 := by
  obtain ⟨t, it, l⟩ := p
  cases t with
  | false => exact ⟨_, e, rfl, rfl⟩
  | true => exact ⟨_, e, rfl, rfl⟩
theorem pyIter_sq {prog : Program} {w : World} {A : Around} {E : Value → Shared → Prop} {s : Shared} {p : It1} {xs : Array Value} {Q : Value → Shared → Prop} (hl : SqAt s.heap p xs)
    (hQ : Q (.ref s.heap.objs.size) { s with heap := s.heap.push (itO p) }) : wpAny (model prog w) A (pyIter (.ref p.l)) Q E s := by
  obtain ⟨t, it, l⟩ := p
  cases t with
  | false => exact wpAny_pyIter_list hl hQ
  | true => exact wpAny_pyIter_tuple hl hQ
theorem SqAt.push {h : Heap} {p : It1} {xs : Array Value} (x : SqAt h p xs) (o : Obj) : SqAt (h.push o) p xs := x.at fun _ e => Heap.get?_push_of_some _ e
abbrev zO (TI TO : Addr) : Obj := { cls := .type "zip", data := .fields #[.none, .bool false, .bool false, .ref TI, .ref TO] }
abbrev tO (vals : Array Value) : Obj := { cls := .type "tuple", data := .seq vals }
abbrev h2_1 (h : Heap) (p q : It1) : Heap := (h.push (itO p)).push (itO q)
abbrev h2_2 (h : Heap) (p q : It1) : Heap := ((h2_1 h p q).push (tO #[.ref h.objs.size, .ref (h.push (itO p)).objs.size]))
abbrev h2_3 (h : Heap) (p q : It1) : Heap := (h2_2 h p q).push (tO #[.none, .none])
abbrev h2_4 (h : Heap) (p q : It1) : Heap := (h2_3 h p q).push (zO (h2_1 h p q).objs.size (h2_2 h p q).objs.size)
theorem meets_zip2 (p q : It1) (xs ys : Array Value) :
    Meets (Builtin.«zip.__new__» ⟨[.type "zip", .ref p.l, .ref q.l], []⟩) (fun _ R s => SqAt s.heap p xs ∧ SqAt s.heap q ys ∧
      R (.ok (.ret (.ref (h2_3 s.heap p q).objs.size))) { s with heap := h2_4 s.heap p q }) :=
  .of_wp fun prog w A R s h => by
    obtain ⟨hp, g, d, tk, os⟩ := s; obtain ⟨hl1, hl2, h⟩ := h
    have hsub := sub_zip
    have hL1 : SqAt (Shared.heap ⟨hp, g, d, tk, os⟩) p xs := hl1
    have hL2 : SqAt (Shared.heap ⟨hp.push (itO p), g, d, tk, os⟩) q ys := hl2.push _
    wp_walk using pyIter_sq hL1, pyIter_sq hL2
    exact ⟨_, rfl, h⟩
abbrev h3_1 (h : Heap) (p q r : It1) : Heap := ((h.push (itO p)).push (itO q)).push (itO r)
abbrev h3_2 (h : Heap) (p q r : It1) : Heap := ((h3_1 h p q r).push (tO #[.ref h.objs.size, .ref (h.push (itO p)).objs.size, .ref ((h.push (itO p)).push (itO q)).objs.size]))
abbrev h3_3 (h : Heap) (p q r : It1) : Heap := (h3_2 h p q r).push (tO #[.none, .none, .none])
abbrev h3_4 (h : Heap) (p q r : It1) : Heap := (h3_3 h p q r).push (zO (h3_1 h p q r).objs.size (h3_2 h p q r).objs.size)
theorem meets_zip3 (p q r : It1) (xs ys zs : Array Value) :
    Meets (Builtin.«zip.__new__» ⟨[.type "zip", .ref p.l, .ref q.l, .ref r.l], []⟩) (fun _ R s => SqAt s.heap p xs ∧ SqAt s.heap q ys ∧ SqAt s.heap r zs ∧
      R (.ok (.ret (.ref (h3_3 s.heap p q r).objs.size))) { s with heap := h3_4 s.heap p q r }) :=
  .of_wp fun prog w A R s h => by
    obtain ⟨hp, g, d, tk, os⟩ := s; obtain ⟨hl1, hl2, hl3, h⟩ := h
    have hsub := sub_zip
    have hL1 : SqAt (Shared.heap ⟨hp, g, d, tk, os⟩) p xs := hl1
    have hL2 : SqAt (Shared.heap ⟨hp.push (itO p), g, d, tk, os⟩) q ys := hl2.push _
    have hL3 : SqAt (Shared.heap ⟨(hp.push (itO p)).push (itO q), g, d, tk, os⟩) r zs := (hl3.push _).push _
    wp_walk using pyIter_sq hL1, pyIter_sq hL2, pyIter_sq hL3
    exact ⟨_, rfl, h⟩
theorem typeCall_zip_3 (a b c : Value) : checkTypeCall "zip" ⟨[a, b, c], []⟩ = pure () := by kernel_rfl
theorem newCall_zip_3 (a b c : Value) : checkBuiltinCall "zip.__new__" ⟨[.type "zip", a, b, c], []⟩ = pure () := by kernel_rfl
theorem args_object_init_4 (a b c d : Value) : argsOk "object.__init__" ⟨[a, b, c, d], []⟩ := by
  unfold argsOk; rw [signature?_of (id := "object.__init__") (n := ['_', '_', 't', 'i', 'n', 'i', '_', '_']) (o := ['t', 'c', 'e', 'j', 'b', 'o']) (by kernel_rfl) F.owner_object]; kernel_rfl
end Zn

set_option maxHeartbeats 1000000
namespace Zn
open PySem
/-- a zip that was just made -/
structure Made (h0 h' : Heap) (ps : List It1) (z TI TO : Addr) : Prop where
  hz : IsZip h' z TI TO .none
  hti : IsTupN h' TI (itsOf ps)
  hto : ∃ vals, IsTupN h' TO vals ∧ vals.size = ps.length
  hit : ∀ p ∈ ps, ItAt h' p 0
  apt : (∀ p ∈ ps, p.l < h0.objs.size) → Apt z TI TO ps
  new : ∀ c, c = z ∨ c = TI ∨ c = TO ∨ c ∈ ps.map (·.it) → h0.objs.size ≤ c
  kp : ∀ c o, h0.get? c = some o → h'.get? c = some o
section
variable {prog : Program} {w : World} {A : Around} {E : Value → Shared → Prop} {s : Shared}
theorem call_zip2 {p q : It1} {xs ys : Array Value} {Q : Value → Shared → Prop} (hl1 : SqAt s.heap p xs) (hl2 : SqAt s.heap q ys)
    (h : ∀ h' z TI TO ps, (∃ i1 i2, ps = [{ p with it := i1 }, { q with it := i2 }]) → Made s.heap h' ps z TI TO → Q (.ref z) { s with heap := h' }) :
    wpAny (model prog w) A (call (.type "zip") [.ref p.l, .ref q.l]) Q E s := by
  refine callType_new F.called_zip (by decide) (F.typeCall_zip_2 _ _) (F.newCall_zip_2 _ _) (fun obj => F.args_object_init_3 obj _ _) F.entry_zip_new
    (meets_zip2 p q xs ys) ⟨hl1, hl2, ?_⟩
  have z1 : (s.heap.push (itO p)).objs.size = s.heap.objs.size + 1 := Heap.size_push ..
  have z2 : (h2_1 s.heap p q).objs.size = s.heap.objs.size + 2 := by rw [Heap.size_push, z1]
  have z3 : (h2_2 s.heap p q).objs.size = s.heap.objs.size + 3 := by rw [Heap.size_push, z2]
  have z4 : (h2_3 s.heap p q).objs.size = s.heap.objs.size + 4 := by rw [Heap.size_push, z3]
  have g5 : (h2_4 s.heap p q).get? (h2_3 s.heap p q).objs.size = some _ := Heap.get?_push_size _ rfl
  have g4 : (h2_4 s.heap p q).get? (h2_2 s.heap p q).objs.size = some _ := Heap.get?_push_of_some _ (Heap.get?_push_size _ rfl)
  have g3 : (h2_4 s.heap p q).get? (h2_1 s.heap p q).objs.size = some _ := Heap.get?_push_of_some _ (Heap.get?_push_of_some _ (Heap.get?_push_size _ rfl))
  have g2 : (h2_4 s.heap p q).get? (s.heap.push (itO p)).objs.size = some _ := Heap.get?_push_of_some _ (Heap.get?_push_of_some _ (Heap.get?_push_of_some _ (Heap.get?_push_size _ rfl)))
  have g1 : (h2_4 s.heap p q).get? s.heap.objs.size = some _ := Heap.get?_push_of_some _ (Heap.get?_push_of_some _ (Heap.get?_push_of_some _ (Heap.get?_push_of_some _ (Heap.get?_push_size _ rfl))))
  refine ⟨⟨_, g5, rfl⟩, ?_⟩
  rw [z2, z3, z4] at g5
  rw [z1, z2] at g3
  rw [z3] at g4
  rw [z1] at g2
  rw [z4]
  refine h _ _ (s.heap.objs.size + 2) (s.heap.objs.size + 3) [{ p with it := s.heap.objs.size }, { q with it := s.heap.objs.size + 1 }] ⟨_, _, rfl⟩ ⟨g5, g3, ⟨_, g4, rfl⟩, fun r hr => ?_, fun hlt => ?_, fun c hc => ?_, fun c o e => Heap.get?_push_of_some _ (Heap.get?_push_of_some _ (Heap.get?_push_of_some _ (Heap.get?_push_of_some _ (Heap.get?_push_of_some _ e))))⟩
  · rcases List.mem_cons.mp hr with e | hr
    · subst e; exact itO_at g1
    · rw [List.mem_singleton.mp hr]; exact itO_at g2
  · have a1 := hlt _ List.mem_cons_self
    have a2 := hlt _ (List.mem_cons_of_mem _ List.mem_cons_self)
    dsimp only at a1 a2
    have al : ∀ r ∈ [{ p with it := s.heap.objs.size }, { q with it := s.heap.objs.size + 1 }], r.l < s.heap.objs.size ∧ s.heap.objs.size ≤ r.it ∧ r.it < s.heap.objs.size + 2 := fun r hr => by
      rcases List.mem_cons.mp hr with e | hr
      · subst e; exact ⟨a1, Nat.le_refl _, by dsimp only; omega⟩
      · rw [List.mem_singleton.mp hr]; exact ⟨a2, by dsimp only; omega, by dsimp only; omega⟩
    refine ⟨Nat.ne_of_lt (by omega), Nat.ne_of_lt (by omega), Nat.ne_of_lt (by omega), fun r hr => ?_, fun r hr => ?_, fun r hr => ?_, fun r hr => ?_, fun r hr => ?_, fun r hr r' hr' => ?_, fun i j r r' hi hj hij => ?_⟩
    · have := al r hr; exact Nat.ne_of_lt (by omega)
    · have := al r hr; exact Nat.ne_of_lt (by omega)
    · have := al r hr; exact Nat.ne_of_lt (by omega)
    · have := al r hr; exact Nat.ne_of_lt (by omega)
    · have := al r hr; exact Nat.ne_of_lt (by omega)
    · have := al r hr; have := al r' hr'; exact Nat.ne_of_lt (by omega)
    · have li := (List.getElem?_eq_some_iff.mp hi).1
      have lj := (List.getElem?_eq_some_iff.mp hj).1
      simp only [List.length_cons, List.length_nil] at li lj
      have ci : i = 0 ∨ i = 1 := by omega
      have cj : j = 0 ∨ j = 1 := by omega
      rcases ci with rfl | rfl <;> rcases cj with rfl | rfl
      · exact absurd rfl hij
      · cases hi; cases hj; exact Nat.ne_of_lt (by dsimp only; omega)
      · cases hi; cases hj; exact Nat.ne_of_gt (by dsimp only; omega)
      · exact absurd rfl hij
  · simp only [List.map_cons, List.map_nil, List.mem_cons, List.not_mem_nil, or_false] at hc
    rcases hc with e | e | e | e | e <;> (rw [e]; first | exact Nat.le_refl _ | exact Nat.le_add_right _ _)
theorem call_zip3 {p q r : It1} {xs ys zs : Array Value} {Q : Value → Shared → Prop} (hl1 : SqAt s.heap p xs) (hl2 : SqAt s.heap q ys) (hl3 : SqAt s.heap r zs)
    (h : ∀ h' z TI TO ps, (∃ i1 i2 i3, ps = [{ p with it := i1 }, { q with it := i2 }, { r with it := i3 }]) → Made s.heap h' ps z TI TO → Q (.ref z) { s with heap := h' }) :
    wpAny (model prog w) A (call (.type "zip") [.ref p.l, .ref q.l, .ref r.l]) Q E s := by
  refine callType_new F.called_zip (by decide) (typeCall_zip_3 _ _ _) (newCall_zip_3 _ _ _) (fun obj => args_object_init_4 obj _ _ _) F.entry_zip_new
    (meets_zip3 p q r xs ys zs) ⟨hl1, hl2, hl3, ?_⟩
  have z1 : (s.heap.push (itO p)).objs.size = s.heap.objs.size + 1 := Heap.size_push ..
  have z1' : ((s.heap.push (itO p)).push (itO q)).objs.size = s.heap.objs.size + 2 := by rw [Heap.size_push, z1]
  have z2 : (h3_1 s.heap p q r).objs.size = s.heap.objs.size + 3 := by rw [Heap.size_push, z1']
  have z3 : (h3_2 s.heap p q r).objs.size = s.heap.objs.size + 4 := by rw [Heap.size_push, z2]
  have z4 : (h3_3 s.heap p q r).objs.size = s.heap.objs.size + 5 := by rw [Heap.size_push, z3]
  have g5 : (h3_4 s.heap p q r).get? (h3_3 s.heap p q r).objs.size = some _ := Heap.get?_push_size _ rfl
  have g4 : (h3_4 s.heap p q r).get? (h3_2 s.heap p q r).objs.size = some _ := Heap.get?_push_of_some _ (Heap.get?_push_size _ rfl)
  have g3 : (h3_4 s.heap p q r).get? (h3_1 s.heap p q r).objs.size = some _ := Heap.get?_push_of_some _ (Heap.get?_push_of_some _ (Heap.get?_push_size _ rfl))
  have g2' : (h3_4 s.heap p q r).get? ((s.heap.push (itO p)).push (itO q)).objs.size = some _ := Heap.get?_push_of_some _ (Heap.get?_push_of_some _ (Heap.get?_push_of_some _ (Heap.get?_push_size _ rfl)))
  have g2 : (h3_4 s.heap p q r).get? (s.heap.push (itO p)).objs.size = some _ := Heap.get?_push_of_some _ (Heap.get?_push_of_some _ (Heap.get?_push_of_some _ (Heap.get?_push_of_some _ (Heap.get?_push_size _ rfl))))
  have g1 : (h3_4 s.heap p q r).get? s.heap.objs.size = some _ := Heap.get?_push_of_some _ (Heap.get?_push_of_some _ (Heap.get?_push_of_some _ (Heap.get?_push_of_some _ (Heap.get?_push_of_some _ (Heap.get?_push_size _ rfl)))))
  refine ⟨⟨_, g5, rfl⟩, ?_⟩
  rw [z2, z3, z4] at g5
  rw [z1, z1', z2] at g3
  rw [z3] at g4
  rw [z1'] at g2'
  rw [z1] at g2
  rw [z4]
  refine h _ _ (s.heap.objs.size + 3) (s.heap.objs.size + 4) [{ p with it := s.heap.objs.size }, { q with it := s.heap.objs.size + 1 }, { r with it := s.heap.objs.size + 2 }] ⟨_, _, _, rfl⟩ ⟨g5, g3, ⟨_, g4, rfl⟩, fun r hr => ?_, fun hlt => ?_, fun c hc => ?_, fun c o e => Heap.get?_push_of_some _ (Heap.get?_push_of_some _ (Heap.get?_push_of_some _ (Heap.get?_push_of_some _ (Heap.get?_push_of_some _ (Heap.get?_push_of_some _ e)))))⟩
  · rcases List.mem_cons.mp hr with e | hr
    · subst e; exact itO_at g1
    · rcases List.mem_cons.mp hr with e | hr
      · subst e; exact itO_at g2
      · rw [List.mem_singleton.mp hr]; exact itO_at g2'
  · have a1 := hlt _ List.mem_cons_self
    have a2 := hlt _ (List.mem_cons_of_mem _ List.mem_cons_self)
    have a3 := hlt _ (List.mem_cons_of_mem _ (List.mem_cons_of_mem _ List.mem_cons_self))
    dsimp only at a1 a2 a3
    have al : ∀ r' ∈ [{ p with it := s.heap.objs.size }, { q with it := s.heap.objs.size + 1 }, { r with it := s.heap.objs.size + 2 }], r'.l < s.heap.objs.size ∧ s.heap.objs.size ≤ r'.it ∧ r'.it < s.heap.objs.size + 3 := fun r' hr => by
      rcases List.mem_cons.mp hr with e | hr
      · subst e; exact ⟨a1, Nat.le_refl _, by dsimp only; omega⟩
      · rcases List.mem_cons.mp hr with e | hr
        · subst e; exact ⟨a2, by dsimp only; omega, by dsimp only; omega⟩
        · rw [List.mem_singleton.mp hr]; exact ⟨a3, by dsimp only; omega, by dsimp only; omega⟩
    refine ⟨Nat.ne_of_lt (by omega), Nat.ne_of_lt (by omega), Nat.ne_of_lt (by omega), fun r hr => ?_, fun r hr => ?_, fun r hr => ?_, fun r hr => ?_, fun r hr => ?_, fun r hr r' hr' => ?_, fun i j r' r'' hi hj hij => ?_⟩
    · have := al r hr; exact Nat.ne_of_lt (by omega)
    · have := al r hr; exact Nat.ne_of_lt (by omega)
    · have := al r hr; exact Nat.ne_of_lt (by omega)
    · have := al r hr; exact Nat.ne_of_lt (by omega)
    · have := al r hr; exact Nat.ne_of_lt (by omega)
    · have := al r hr; have := al r' hr'; exact Nat.ne_of_lt (by omega)
    · have li := (List.getElem?_eq_some_iff.mp hi).1
      have lj := (List.getElem?_eq_some_iff.mp hj).1
      simp only [List.length_cons, List.length_nil] at li lj
      have ci : i = 0 ∨ i = 1 ∨ i = 2 := by omega
      have cj : j = 0 ∨ j = 1 ∨ j = 2 := by omega
      rcases ci with rfl | rfl | rfl <;> rcases cj with rfl | rfl | rfl <;> first | exact absurd rfl hij | (cases hi; cases hj; exact Nat.ne_of_lt (by dsimp only; omega)) | (cases hi; cases hj; exact Nat.ne_of_gt (by dsimp only; omega))
  · simp only [List.map_cons, List.map_nil, List.mem_cons, List.not_mem_nil, or_false] at hc
    rcases hc with e | e | e | e | e | e <;> (rw [e]; first | exact Nat.le_refl _ | exact Nat.le_add_right _ _)
end
end Zn

set_option maxHeartbeats 1000000
namespace Zn
open PySem PySem.Spec PyProof.Rows L2
open Classical
def SqV (K : PySem.W.Frag) (H : Hp) (t : Bool) (a : Addr) (xs : List V) : Prop := match t with
  | false => SqL K H a xs
  | true => SqT K H a xs
def ItzN (K : PySem.W.Frag) (as : List (Bool × Addr)) : It :=
  ⟨fun i H => ∀ p ∈ as, ∃ xs, SqV K H p.1 p.2 xs ∧ i < xs.length,
    fun i H v H' => ∃ T row, v = .ref T ∧ H T = none ∧ H' = upd H T (.tup row) ∧ row.length = as.length ∧ ∀ (j : Nat) (p : Bool × Addr) (xs : List V), as[j]? = some p → SqV K H p.1 p.2 xs → ∃ x, xs[i]? = some x ∧ row[j]? = some x,
    fun i H => (∀ p ∈ as, ∃ xs, SqV K H p.1 p.2 xs) ∧ ∃ p ∈ as, ∃ xs, SqV K H p.1 p.2 xs ∧ xs.length ≤ i⟩
theorem sqv_at {X : Cx} {pins : List (Addr × Obj)} {σ : L2.St} {H : Hp} {s : Shared} (I : Inv X pins σ H s) {p : It1} {xs : List V} (h : SqV X.K H p.t p.l xs) : ∃ its : List Value, Vals xs its ∧ SqAt s.heap p its.toArray := by
  obtain ⟨t, it, l⟩ := p
  cases t with
  | false => obtain ⟨its, rv, q, _⟩ := I.list h; exact ⟨its, rv, q.isList⟩
  | true => obtain ⟨its, rv, q, _⟩ := I.tuple h; exact ⟨its, rv, q⟩
theorem sqv_inj {X : Cx} {pins : List (Addr × Obj)} {σ : L2.St} {H : Hp} {s : Shared} (I : Inv X pins σ H s) {t : Bool} {a : Addr} {xs ys : List V} (h : SqV X.K H t a xs) (h' : SqV X.K H t a ys) : xs = ys := by
  cases t with
  | false => exact I.list_inj h h'
  | true => exact I.tuple_inj h h'
theorem vals_of {R : Nat → V → Value → Prop} : ∀ (n : Nat), (∀ j, j < n → ∃ x u, R j x u ∧ RelV x u) → ∃ (row : List V) (us : List Value), row.length = n ∧ us.length = n ∧ Vals row us ∧ ∀ j, j < n → ∃ x u, row[j]? = some x ∧ us[j]? = some u ∧ R j x u
  | 0, _ => ⟨[], [], rfl, rfl, .nil, fun j h => by omega⟩
  | n + 1, h => by
    obtain ⟨row, us, l1, l2, rv, hr⟩ := vals_of (R := fun j => R (j + 1)) n fun j hj => h (j + 1) (by omega)
    obtain ⟨x, u, r0, rx⟩ := h 0 (by omega)
    refine ⟨x :: row, u :: us, by simp [l1], by simp [l2], .cons rx rv, fun j hj => ?_⟩
    cases j with
    | zero => exact ⟨x, u, rfl, rfl, r0⟩
    | succ j => obtain ⟨y, z, a, b, c⟩ := hr j (by omega); exact ⟨y, z, by simpa using a, by simpa using b, c⟩
theorem turn_zipN {P : Program} {w : World} {K : PySem.W.Frag} {elts : List Expr} {kk : Nat} {tpos : Pos} {z TI TO : Addr} {ps : List It1} (D : Apt z TI TO ps) (h0 : ps ≠ []) (hn : ps.length ≤ 64) :
    Turn P w K (.Tuple elts kk tpos) (ItzN K (ps.map fun p => (p.t, p.l))) (z :: TI :: TO :: ps.map (·.it)) z (fun i h => IsZip h z TI TO .none ∧ IsTupN h TI (itsOf ps) ∧ (∃ vals, IsTupN h TO vals ∧ vals.size = ps.length) ∧ ∀ p ∈ ps, ItAt h p i) where
  mem := by simp
  obj := fun i h st c hc => by
    obtain ⟨hz, hTI, ⟨vals, hTO, _⟩, hi⟩ := st
    rcases List.mem_cons.mp hc with e | hc
    · rw [e]; exact ⟨_, hz, fun v q => nomatch q⟩
    rcases List.mem_cons.mp hc with e | hc
    · rw [e]; exact ⟨_, hTI, fun v q => nomatch q⟩
    rcases List.mem_cons.mp hc with e | hc
    · rw [e]; exact ⟨_, hTO, fun v q => nomatch q⟩
    obtain ⟨p, hp, e⟩ := List.mem_map.mp hc
    rw [← e]; exact (hi p hp).obj
  keep := fun i h h' st k => by
    obtain ⟨hz, hTI, ⟨vals, hTO, hv⟩, hi⟩ := st
    exact ⟨k z (by simp) _ hz, k TI (by simp) _ hTI, ⟨vals, k TO (by simp) _ hTO, hv⟩, fun p hp => (hi p hp).at fun o q => k p.it (by simp; exact .inr (.inr (.inr ⟨p, hp, rfl⟩))) o q⟩
  item := by
    intro X hP hw hK hc i pins s σ H E I hf st hg
    subst hP hw hK
    obtain ⟨hz, hTI, ⟨vals, hTO, hv⟩, hi⟩ := st
    have hzl : z < s.heap.objs.size := Heap.lt_size hz
    have hs : ∀ p ∈ ps, ∃ (xs : List V) (its : List Value), SqV X.K H p.t p.l xs ∧ i < xs.length ∧ Vals xs its ∧ SqAt s.heap p its.toArray := fun p hp => by
      obtain ⟨xs, h1, h2⟩ := hg (p.t, p.l) (List.mem_map.mpr ⟨p, hp, rfl⟩)
      obtain ⟨its, h3, h4⟩ := sqv_at I h1
      exact ⟨xs, its, h1, h2, h3, h4⟩
    have hs' : ∃ g : It1 → Array Value, ∀ p ∈ ps, ∃ (xs : List V) (its : List Value), SqV X.K H p.t p.l xs ∧ i < xs.length ∧ Vals xs its ∧ SqAt s.heap p (g p) ∧ g p = its.toArray := by
      refine ⟨fun p => if h : p ∈ ps then ((hs p h).choose_spec.choose).toArray else #[], fun p hp => ?_⟩
      have q := (hs p hp).choose_spec.choose_spec
      exact ⟨_, _, q.1, q.2.1, q.2.2.1, by dsimp only; rw [dif_pos hp]; exact q.2.2.2, by dsimp only; rw [dif_pos hp]⟩
    obtain ⟨g, hg'⟩ := hs'
    refine pyNext_zipN_item (xs := g) (I.ok.hd hc) D h0 hn hz hTI hTO hv hi (fun p hp => by obtain ⟨_, _, _, _, _, q, _⟩ := hg' p hp; exact q) (fun p hp e => ?_) fun row h' hrl hrow z' TO' it' hT hsz hk => ?_
    · obtain ⟨xs, its, _, q1, q2, _, q3⟩ := hg' p hp
      rw [q3] at e
      have := q2.length
      rw [List.getElem?_toArray, List.getElem?_eq_none_iff] at e
      omega
    refine ⟨_, rfl, wpAny_letOwnedTupleGo_zip (s := { s with heap := h' }) z' fun h'' z'' sb => ?_⟩
    have hT2 : h''.get? s.heap.objs.size = some { cls := .type "tuple", data := .seq row.toArray } := (sb.2 _ (Nat.ne_of_gt hzl)).trans hT
    obtain ⟨vrow, us, l1, l2, rv, hr⟩ := vals_of (R := fun j x u => ∀ p, ps[j]? = some p → ∃ (xs : List V), SqV X.K H p.t p.l xs ∧ xs[i]? = some x ∧ row[j]? = some u) ps.length fun j hj => by
      obtain ⟨p, hp⟩ : ∃ p, ps[j]? = some p := ⟨_, List.getElem?_eq_getElem hj⟩
      obtain ⟨xs, its, a1, a2, a3, a4, a5⟩ := hg' p (List.mem_of_getElem? hp)
      obtain ⟨u, b1, b2⟩ := hrow j p hp
      obtain ⟨u', c1, c2⟩ := a3.get (List.getElem?_eq_getElem a2)
      rw [a5, List.getElem?_toArray, c1] at b1
      cases b1
      exact ⟨xs[i], _, fun q hq => by rw [hp] at hq; cases hq; exact ⟨xs, a1, List.getElem?_eq_getElem a2, b2⟩, c2⟩
    have eus : us = row := by
      apply List.ext_getElem?
      intro j
      by_cases hj : j < ps.length
      · obtain ⟨p, hp⟩ : ∃ p, ps[j]? = some p := ⟨_, List.getElem?_eq_getElem hj⟩
        obtain ⟨x, u, _, d2, d3⟩ := hr j hj
        obtain ⟨_, _, _, d4⟩ := d3 p hp
        rw [d2, d4]
      · rw [List.getElem?_eq_none (by omega), List.getElem?_eq_none (by omega)]
    subst eus
    have new : ObjOk X.prog X.w (upd H s.heap.objs.size (.tup vrow)) h'' s.heap.objs.size (.tup vrow) :=
      ⟨by show vrow.length ≤ sizeLine; rw [l1, sizeLine_eq]; omega, us, rv, ⟨_, hT2, rfl, _, rfl⟩⟩
    have mem4 : ∀ c, c ∉ z :: TI :: TO :: ps.map (·.it) → c ≠ z ∧ c ≠ TO ∧ ∀ p ∈ ps, c ≠ p.it := fun c hc => ⟨fun e => hc (by rw [e]; simp), fun e => hc (by rw [e]; simp), fun p hp e => hc (by rw [e]; simp; exact .inr (.inr (.inr ⟨p, hp, rfl⟩)))⟩
    have I1 : Inv X pins σ (upd H s.heap.objs.size (.tup vrow)) { s with heap := h'' } :=
      I.turnedNew (t' := s.toks) (ch := z :: TI :: TO :: ps.map (·.it)) (fun c o hb q => (sb.2 c (mem4 c hb).1).trans (hk c o (mem4 c hb).1 (mem4 c hb).2.1 (mem4 c hb).2.2 q)) hf (Nat.le_refl _) new
    refine ⟨.ref s.heap.objs.size, _, I1, rfl, ⟨_, vrow, rfl, I.hok.fresh (Nat.le_refl _), rfl, by rw [l1, List.length_map], fun j p xs hj hxs => ?_⟩, ⟨z'', ?_, ?_, ?_⟩, fun c hcm => ?_⟩
    · rw [List.getElem?_map] at hj
      cases hp : ps[j]? with
      | none => rw [hp] at hj; cases hj
      | some q =>
        rw [hp] at hj
        cases hj
        obtain ⟨x, u, d1, d2, d3⟩ := hr j (List.getElem?_eq_some_iff.mp hp).1
        obtain ⟨ys, e1, e2, _⟩ := d3 q hp
        have ee := sqv_inj I hxs e1
        subst ee
        exact ⟨x, e2, d1⟩
    · exact (sb.2 _ D.TIz).trans (hk _ _ D.TIz D.TITO (fun p hp => (D.iTI p hp).symm) hTI)
    · obtain ⟨v, q1, q2⟩ := TO'
      exact ⟨v, (sb.2 _ D.TOz).trans q1, q2⟩
    · exact fun p hp => (it' p hp).at fun o q => (sb.2 _ (D.iz p hp)).trans q
    · have hlt : c < s.heap.objs.size := by
        rcases List.mem_cons.mp hcm with e | hc
        · rw [e]; exact hzl
        rcases List.mem_cons.mp hc with e | hc
        · rw [e]; exact Heap.lt_size hTI
        rcases List.mem_cons.mp hc with e | hc
        · rw [e]; exact Heap.lt_size hTO
        obtain ⟨p, hp, e⟩ := List.mem_map.mp hc
        rw [← e]; obtain ⟨o, q, _⟩ := (hi p hp).obj; exact Heap.lt_size q
      rw [upd_ne (Nat.ne_of_lt hlt)]
      exact (hf c hcm).1
  done := by
    intro X hP hw hK hc i pins s σ H E I hf st hg
    subst hP hw hK
    obtain ⟨hz, hTI, ⟨vals, hTO, hv⟩, hi⟩ := st
    obtain ⟨hall, p1, hp1, xs1, hxs1, hle⟩ := hg
    have hs : ∀ p ∈ ps, ∃ (xs : List V) (its : List Value), SqV X.K H p.t p.l xs ∧ Vals xs its ∧ SqAt s.heap p its.toArray := fun p hp => by
      obtain ⟨xs, h1⟩ := hall (p.t, p.l) (List.mem_map.mpr ⟨p, hp, rfl⟩)
      obtain ⟨its, h3, h4⟩ := sqv_at I h1
      exact ⟨xs, its, h1, h3, h4⟩
    have hs' : ∃ g : It1 → Array Value, ∀ p ∈ ps, ∃ (xs : List V) (its : List Value), SqV X.K H p.t p.l xs ∧ Vals xs its ∧ SqAt s.heap p (g p) ∧ g p = its.toArray := by
      refine ⟨fun p => if h : p ∈ ps then ((hs p h).choose_spec.choose).toArray else #[], fun p hp => ?_⟩
      have q := (hs p hp).choose_spec.choose_spec
      exact ⟨_, _, q.1, q.2.1, by dsimp only; rw [dif_pos hp]; exact q.2.2, by dsimp only; rw [dif_pos hp]⟩
    obtain ⟨g, hg'⟩ := hs'
    have mem4 : ∀ c, c ∉ z :: TI :: TO :: ps.map (·.it) → c ≠ z ∧ c ≠ TO ∧ ∀ p ∈ ps, c ≠ p.it := fun c hc => ⟨fun e => hc (by rw [e]; simp), fun e => hc (by rw [e]; simp), fun p hp e => hc (by rw [e]; simp; exact .inr (.inr (.inr ⟨p, hp, rfl⟩)))⟩
    refine pyNext_zipN_end (xs := g) (I.ok.hd hc) D h0 hn hz hTI hTO hv hi (fun p hp => by obtain ⟨_, _, _, _, q, _⟩ := hg' p hp; exact q) ?_ fun h' hk => ⟨rfl, I.turnedL (t' := s.toks) (ch := z :: TI :: TO :: ps.map (·.it)) (fun c o hb q =>
      hk c o (mem4 c hb).1 (mem4 c hb).2.1 (mem4 c hb).2.2 q) hf⟩
    obtain ⟨p, hp, e⟩ := List.mem_map.mp hp1
    subst e
    obtain ⟨xs, its, q1, q2, _, q3⟩ := hg' p hp
    have ee := sqv_inj I hxs1 q1
    subst ee
    refine ⟨p, hp, ?_⟩
    rw [q3, List.getElem?_toArray, List.getElem?_eq_none_iff]
    have := q2.length
    omega
  self := fun A i s Q E st h => wpAny_pyIter_zip st.1 h
def iZipN (K : PySem.W.Frag) (n : Nat) (ta : TA) : TI := fun σ H R => ta σ H fun vs H1 => ∃ as : List (Bool × Addr), as.length = n ∧ vs = as.map (fun p => V.ref p.2) ∧ (∀ p ∈ as, ∃ xs, SqV K H1 p.1 p.2 xs) ∧ R (ItzN K as) H1
section
variable {X : Cx} {pins : List (Addr × Obj)} {σ : L2.St} {H : Hp}
theorem made_pie {tg : Expr} {elts : List Expr} {kk : Nat} {tpos : Pos} {R : It → Hp → Prop} {s1 : Shared} {h' : Heap} {z TI TO : Addr} {ps : List It1} {as : List (Bool × Addr)} (I1 : Inv X pins σ H s1) (h0 : ps ≠ []) (hn : ps.length ≤ 64)
    (eas : as = ps.map fun p => (p.t, p.l)) (hl : ∀ p ∈ ps, p.l < s1.heap.objs.size) (m : Made s1.heap h' ps z TI TO) (q : R (ItzN X.K as) H) : PIE X pins σ (.Tuple elts kk tpos) R (.ref z) { s1 with heap := h' } := by
  subst eas
  have D := m.apt hl
  refine ⟨z, z :: TI :: TO :: ps.map (·.it), _, _, H, rfl, I1.kept (t' := s1.toks) m.kp, turn_zipN D h0 hn, ⟨m.hz, m.hti, m.hto, m.hit⟩, fun c hc => ?_, q⟩
  have hle : s1.heap.objs.size ≤ c := m.new c (by
    rcases List.mem_cons.mp hc with e | hc
    · exact .inl e
    rcases List.mem_cons.mp hc with e | hc
    · exact .inr (.inl e)
    rcases List.mem_cons.mp hc with e | hc
    · exact .inr (.inr (.inl e))
    exact .inr (.inr (.inr hc)))
  exact I1.fpOk hle (I1.hok.fresh hle)
theorem sqat_lt {h : Heap} {p : It1} {xs : Array Value} (x : SqAt h p xs) : p.l < h.objs.size := by
  obtain ⟨t, it, l⟩ := p
  cases t with
  | false => obtain ⟨o, e, _⟩ := x; exact Heap.lt_size e
  | true => obtain ⟨o, e, _⟩ := x; exact Heap.lt_size e
theorem pi_zipN2 {e e2 : Expr} {ta : TA} {p pos tpos : Pos} {elts : List Expr} {kk : Nat} (hg : Gl X "zip") (hm : X.mg "zip" = none) (ha : PA X [e, e2] ta)
    (hs : starEach [e, e2] X.env = (false, eval e X.env) :: starEach [e2] X.env := by rfl) (hpl : (backTo pos (starEach [e2] X.env)).any (·.1) = false := by rfl) :
    PI X (.Tuple elts kk tpos) (.Call (.Name "zip" p) [e, e2] [] pos) (iZipN X.K 2 ta) := by
  refine ⟨fun pins s σ H R I h => ?_⟩
  refine Call_ (ld_blt I hg hm PyProof.Rows.boot_zip (PyProof.Rows.callWith_type1 (thn (ha.run pos pins s σ H _ I h) fun us s1 ⟨vs, H1, I1, r1, q1⟩ => ?_) hs hpl))
  obtain ⟨as, el, ex, hq, q1⟩ := q1
  match as, el with
  | [a, b], _ =>
    subst ex
    obtain ⟨xs, hx⟩ := hq a List.mem_cons_self
    obtain ⟨ys, hy⟩ := hq b (List.mem_cons_of_mem _ List.mem_cons_self)
    cases r1 with
    | cons r rr =>
      cases rr with
      | cons r' rr =>
        cases rr
        cases r
        cases r'
        obtain ⟨its, rv, p1⟩ := sqv_at (p := ⟨a.1, 0, a.2⟩) I1 hx
        obtain ⟨its2, rv2, p2⟩ := sqv_at (p := ⟨b.1, 0, b.2⟩) I1 hy
        refine call_zip2 p1 p2 fun h' z TI TO ps hps m => wpAny_pyIter_zip m.hz ?_
        obtain ⟨i1, i2, rfl⟩ := hps
        refine made_pie (tg := e) I1 (by simp) (by simp) (by simp) (fun q hq => ?_) m q1
        rcases List.mem_cons.mp hq with e | hq
        · rw [e]; exact sqat_lt p1
        · rw [List.mem_singleton.mp hq]; exact sqat_lt p2
theorem pi_zipN3 {e e2 e3 : Expr} {ta : TA} {p pos tpos : Pos} {elts : List Expr} {kk : Nat} (hg : Gl X "zip") (hm : X.mg "zip" = none) (ha : PA X [e, e2, e3] ta)
    (hs : starEach [e, e2, e3] X.env = (false, eval e X.env) :: starEach [e2, e3] X.env := by rfl) (hpl : (backTo pos (starEach [e2, e3] X.env)).any (·.1) = false := by rfl) :
    PI X (.Tuple elts kk tpos) (.Call (.Name "zip" p) [e, e2, e3] [] pos) (iZipN X.K 3 ta) := by
  refine ⟨fun pins s σ H R I h => ?_⟩
  refine Call_ (ld_blt I hg hm PyProof.Rows.boot_zip (PyProof.Rows.callWith_type1 (thn (ha.run pos pins s σ H _ I h) fun us s1 ⟨vs, H1, I1, r1, q1⟩ => ?_) hs hpl))
  obtain ⟨as, el, ex, hq, q1⟩ := q1
  match as, el with
  | [a, b, c], _ =>
    subst ex
    obtain ⟨xs, hx⟩ := hq a List.mem_cons_self
    obtain ⟨ys, hy⟩ := hq b (List.mem_cons_of_mem _ List.mem_cons_self)
    obtain ⟨zs, hzz⟩ := hq c (List.mem_cons_of_mem _ (List.mem_cons_of_mem _ List.mem_cons_self))
    cases r1 with
    | cons r rr =>
      cases rr with
      | cons r' rr =>
        cases rr with
        | cons r'' rr =>
          cases rr
          cases r
          cases r'
          cases r''
          obtain ⟨its, rv, p1⟩ := sqv_at (p := ⟨a.1, 0, a.2⟩) I1 hx
          obtain ⟨its2, rv2, p2⟩ := sqv_at (p := ⟨b.1, 0, b.2⟩) I1 hy
          obtain ⟨its3, rv3, p3⟩ := sqv_at (p := ⟨c.1, 0, c.2⟩) I1 hzz
          refine call_zip3 p1 p2 p3 fun h' z TI TO ps hps m => wpAny_pyIter_zip m.hz ?_
          obtain ⟨i1, i2, i3, rfl⟩ := hps
          refine made_pie (tg := e) I1 (by simp) (by simp) (by simp) (fun q hq => ?_) m q1
          rcases List.mem_cons.mp hq with e | hq
          · rw [e]; exact sqat_lt p1
          rcases List.mem_cons.mp hq with e | hq
          · rw [e]; exact sqat_lt p2
          · rw [List.mem_singleton.mp hq]; exact sqat_lt p3
end
end Zn
namespace Den
variable [Tbs]
open PySem L2 Evl PySem.Spec PyProof.Rows Zn
section
variable {K : PySem.W.Frag} {W : WX} {X : Cx} {θ : Addr → Prop} {π α : Nat → Option Addr} {σ : L2.St} {H : Hp} {ρ : En}
/-- the items of a list or a tuple -/
def seqD : D → Option (List D)
  | .list ds => some ds
  | .tuple ds => some ds
  | _ => none
def seqsD : List D → Option (List (List D))
  | [] => some []
  | d :: ds => match seqD d, seqsD ds with
    | some x, some xs => some (x :: xs)
    | _, _ => none
/-- the rows of a zip -/
def zipD (xss : List (List D)) : List D := (List.range ((xss.map List.length).foldr min (xss.headD []).length)).map fun i => .tuple (xss.map fun xs => xs.getD i .none)
def zip2D (xs ys : List D) : List D := List.zipWith (fun x y => PyData.tuple [x, y]) xs ys
def zip3D : List D → List D → List D → List D
  | x :: xs, y :: ys, z :: zs => .tuple [x, y, z] :: zip3D xs ys zs
  | _, _, _ => []
theorem dp_seq {v : V} {d : D} {ds : List D} {G : Hp} (h : Dp K G v d) (e : seqD d = some ds) : ∃ t a vs, v = .ref a ∧ SqV K G t a vs ∧ DpAll K G vs ds := by
  cases h with
  | lst h hs => cases e; exact ⟨false, _, _, rfl, h, hs⟩
  | tup h hs => cases e; exact ⟨true, _, _, rfl, h, hs⟩
  | non => cases e
  | bl => cases e
  | int => cases e
  | str => cases e
theorem sqv_ex {H H' : Hp} {t : Bool} {a : Addr} {vs : List V} (e : Ex H H') (h : SqV K H t a vs) : SqV K H' t a vs := by
  cases t with
  | false => exact ex_l e h
  | true => exact ex_t e h
theorem zip2D_at : ∀ {xs ys : List D} {i : Nat} {d : D}, (zip2D xs ys)[i]? = some d → ∃ x y, xs[i]? = some x ∧ ys[i]? = some y ∧ d = .tuple [x, y] := by
  intro xs ys i d h
  unfold zip2D at h
  rw [List.getElem?_zipWith] at h
  cases hx : xs[i]? with
  | none => rw [hx] at h; cases h
  | some x =>
    cases hy : ys[i]? with
    | none => rw [hx, hy] at h; cases h
    | some y => rw [hx, hy] at h; cases h; exact ⟨x, y, rfl, rfl, rfl⟩
theorem zip2D_len {xs ys : List D} : (zip2D xs ys).length = min xs.length ys.length := List.length_zipWith
theorem zip3D_at : ∀ {xs ys zs : List D} {i : Nat} {d : D}, (zip3D xs ys zs)[i]? = some d → ∃ x y z, xs[i]? = some x ∧ ys[i]? = some y ∧ zs[i]? = some z ∧ d = .tuple [x, y, z]
  | x :: xs, y :: ys, z :: zs, 0, d, h => by cases h; exact ⟨x, y, z, rfl, rfl, rfl, rfl⟩
  | x :: xs, y :: ys, z :: zs, i + 1, d, h => by
    obtain ⟨a, b, c, h1, h2, h3, h4⟩ := zip3D_at (xs := xs) (ys := ys) (zs := zs) (i := i) (d := d) (by simpa [zip3D] using h)
    exact ⟨a, b, c, by simpa using h1, by simpa using h2, by simpa using h3, h4⟩
  | [], _, _, i, d, h => by simp [zip3D] at h
  | _ :: _, [], _, i, d, h => by simp [zip3D] at h
  | _ :: _, _ :: _, [], i, d, h => by simp [zip3D] at h
theorem zip3D_len : ∀ {xs ys zs : List D}, (zip3D xs ys zs).length = min xs.length (min ys.length zs.length)
  | x :: xs, y :: ys, z :: zs => by simp [zip3D, zip3D_len (xs := xs)]
  | [], _, _ => by simp [zip3D]
  | _ :: _, [], _ => by simp [zip3D]
  | _ :: _, _ :: _, [] => by simp [zip3D]
theorem walks_zip2 {G : Hp} {s t : Bool} {a b : Addr} {vs ws : List V} {xs ys : List D} (h1 : SqV K G s a vs) (h2 : SqV K G t b ws) (d1 : DpAll K G vs xs) (d2 : DpAll K G ws ys) : Walks K (ItzN K [(s, a), (t, b)]) G (zip2D xs ys) := fun S2 H2 i hl hx => by
  have k1 : SqV K H2 s a vs := sqv_ex (hx.trans hidS_ex) h1
  have k2 : SqV K H2 t b ws := sqv_ex (hx.trans hidS_ex) h2
  refine ⟨fun e => ⟨fun p hp => ?_, ?_⟩, fun d hi => ?_⟩
  · rcases List.mem_cons.mp hp with e | hp
    · rw [e]; exact ⟨_, k1⟩
    · rw [List.mem_singleton.mp hp]; exact ⟨_, k2⟩
  · rw [zip2D_len] at e
    by_cases c : vs.length ≤ i
    · exact ⟨_, List.mem_cons_self, vs, k1, c⟩
    · exact ⟨_, List.mem_cons_of_mem _ List.mem_cons_self, ws, k2, by have := dpA_len d1; have := dpA_len d2; omega⟩
  · obtain ⟨x, y, e1, e2, rfl⟩ := zip2D_at hi
    obtain ⟨v, v1, v2⟩ := dpA_get d1 e1
    obtain ⟨u, u1, u2⟩ := dpA_get d2 e2
    refine ⟨fun p hp => ?_, fun z H3 q => ?_⟩
    · rcases List.mem_cons.mp hp with e | hp
      · rw [e]; exact ⟨_, k1, (List.getElem?_eq_some_iff.mp v1).1⟩
      · rw [List.mem_singleton.mp hp]; exact ⟨_, k2, (List.getElem?_eq_some_iff.mp u1).1⟩
    · obtain ⟨T, row, rfl, hT, rfl, hl2, hr⟩ := q
      obtain ⟨x1, q1, q2⟩ := hr 0 (s, a) vs rfl k1
      obtain ⟨x2, q3, q4⟩ := hr 1 (t, b) ws rfl k2
      rw [v1] at q1; cases q1
      rw [u1] at q3; cases q3
      match row, hl2, q2, q4 with
      | [r1, r2], _, q2, q4 =>
        cases q2; cases q4
        exact ⟨Ex.new hT, new_tup hl hT (.cons (dp_mono hx v2) (.cons (dp_mono hx u2) .nil))⟩
theorem walks_zip3 {G : Hp} {s t r : Bool} {a b c : Addr} {vs ws us : List V} {xs ys zs : List D} (h1 : SqV K G s a vs) (h2 : SqV K G t b ws) (h3 : SqV K G r c us) (d1 : DpAll K G vs xs) (d2 : DpAll K G ws ys) (d3 : DpAll K G us zs) : Walks K (ItzN K [(s, a), (t, b), (r, c)]) G (zip3D xs ys zs) := fun S2 H2 i hl hx => by
  have k1 : SqV K H2 s a vs := sqv_ex (hx.trans hidS_ex) h1
  have k2 : SqV K H2 t b ws := sqv_ex (hx.trans hidS_ex) h2
  have k3 : SqV K H2 r c us := sqv_ex (hx.trans hidS_ex) h3
  have l1 := dpA_len d1
  have l2 := dpA_len d2
  have l3 := dpA_len d3
  refine ⟨fun e => ⟨fun p hp => ?_, ?_⟩, fun d hi => ?_⟩
  · rcases List.mem_cons.mp hp with e | hp
    · rw [e]; exact ⟨_, k1⟩
    rcases List.mem_cons.mp hp with e | hp
    · rw [e]; exact ⟨_, k2⟩
    · rw [List.mem_singleton.mp hp]; exact ⟨_, k3⟩
  · rw [zip3D_len] at e
    by_cases c1 : vs.length ≤ i
    · exact ⟨_, List.mem_cons_self, vs, k1, c1⟩
    by_cases c2 : ws.length ≤ i
    · exact ⟨_, List.mem_cons_of_mem _ List.mem_cons_self, ws, k2, c2⟩
    · exact ⟨_, List.mem_cons_of_mem _ (List.mem_cons_of_mem _ List.mem_cons_self), us, k3, by omega⟩
  · obtain ⟨x, y, z, e1, e2, e3, rfl⟩ := zip3D_at hi
    obtain ⟨v, v1, v2⟩ := dpA_get d1 e1
    obtain ⟨u, u1, u2⟩ := dpA_get d2 e2
    obtain ⟨w, w1, w2⟩ := dpA_get d3 e3
    refine ⟨fun p hp => ?_, fun z H3 q => ?_⟩
    · rcases List.mem_cons.mp hp with e | hp
      · rw [e]; exact ⟨_, k1, (List.getElem?_eq_some_iff.mp v1).1⟩
      rcases List.mem_cons.mp hp with e | hp
      · rw [e]; exact ⟨_, k2, (List.getElem?_eq_some_iff.mp u1).1⟩
      · rw [List.mem_singleton.mp hp]; exact ⟨_, k3, (List.getElem?_eq_some_iff.mp w1).1⟩
    · obtain ⟨T, row, rfl, hT, rfl, hl2, hr⟩ := q
      obtain ⟨x1, q1, q2⟩ := hr 0 (s, a) vs rfl k1
      obtain ⟨x2, q3, q4⟩ := hr 1 (t, b) ws rfl k2
      obtain ⟨x3, q5, q6⟩ := hr 2 (r, c) us rfl k3
      rw [v1] at q1; cases q1
      rw [u1] at q3; cases q3
      rw [w1] at q5; cases q5
      match row, hl2, q2, q4, q6 with
      | [r1, r2, r3], _, q2, q4, q6 =>
        cases q2; cases q4; cases q6
        exact ⟨Ex.new hT, new_tup hl hT (.cons (dp_mono hx v2) (.cons (dp_mono hx u2) (.cons (dp_mono hx w2) .nil)))⟩
/-- zip(a, b), zip(a, b, c) -/
def wiZ2 (wa : WA) : WI := fun ρ R E => wa ρ (fun ds ρ' => ∃ d e xs ys, ds = [d, e] ∧ seqD d = some xs ∧ seqD e = some ys ∧ R (zip2D xs ys) ρ') E
def wiZ3 (wa : WA) : WI := fun ρ R E => wa ρ (fun ds ρ' => ∃ d e f xs ys zs, ds = [d, e, f] ∧ seqD d = some xs ∧ seqD e = some ys ∧ seqD f = some zs ∧ R (zip3D xs ys zs) ρ') E
theorem diZ2 {tg e : Expr} {n : Nat} {w : WA} (h : PI X tg e (iZipN K 2 (cA K W n w))) : PI X tg e (cI K W (wiZ2 w)) := piI h fun σ H Q ⟨θ, π, α, ρ, R, E, hR, hw, hq, he⟩ =>
  ⟨θ, π, α, ρ, _, E, hR, hw, fun α1 vs H1 ds ρ1 R1 s1 p1 l1 w1 => by
    obtain ⟨d, e, xs, ys, rfl, e1, e2, w1⟩ := w1
    cases p1 with
    | cons h1 hs =>
      cases hs with
      | cons h2 hs =>
        cases hs
        obtain ⟨t1, a1, v1, rfl, q1, r1⟩ := dp_seq h1 e1
        obtain ⟨t2, a2, v2, rfl, q2, r2⟩ := dp_seq h2 e2
        exact ⟨[(t1, a1), (t2, a2)], rfl, rfl, fun p hp => by
          rcases List.mem_cons.mp hp with e | hp
          · rw [e]; exact ⟨_, sqv_ex hidS_ex q1⟩
          · rw [List.mem_singleton.mp hp]; exact ⟨_, sqv_ex hidS_ex q2⟩, hq α1 _ H1 _ ρ1 R1 s1 (walks_zip2 q1 q2 r1 r2) w1⟩, he⟩
theorem diZ3 {tg e : Expr} {n : Nat} {w : WA} (h : PI X tg e (iZipN K 3 (cA K W n w))) : PI X tg e (cI K W (wiZ3 w)) := piI h fun σ H Q ⟨θ, π, α, ρ, R, E, hR, hw, hq, he⟩ =>
  ⟨θ, π, α, ρ, _, E, hR, hw, fun α1 vs H1 ds ρ1 R1 s1 p1 l1 w1 => by
    obtain ⟨d, e, f, xs, ys, zs, rfl, e1, e2, e3, w1⟩ := w1
    cases p1 with
    | cons h1 hs =>
      cases hs with
      | cons h2 hs =>
        cases hs with
        | cons h3 hs =>
          cases hs
          obtain ⟨t1, a1, v1, rfl, q1, r1⟩ := dp_seq h1 e1
          obtain ⟨t2, a2, v2, rfl, q2, r2⟩ := dp_seq h2 e2
          obtain ⟨t3, a3, v3, rfl, q3, r3⟩ := dp_seq h3 e3
          exact ⟨[(t1, a1), (t2, a2), (t3, a3)], rfl, rfl, fun p hp => by
            rcases List.mem_cons.mp hp with e | hp
            · rw [e]; exact ⟨_, sqv_ex hidS_ex q1⟩
            rcases List.mem_cons.mp hp with e | hp
            · rw [e]; exact ⟨_, sqv_ex hidS_ex q2⟩
            · rw [List.mem_singleton.mp hp]; exact ⟨_, sqv_ex hidS_ex q3⟩, hq α1 _ H1 _ ρ1 R1 s1 (walks_zip3 q1 q2 q3 r1 r2 r3) w1⟩, he⟩
end
end Den

namespace Den
variable [Tbs]
open PySem L2 Evl PySem.Spec PyProof.Rows Zn
/-! sum, min, max of tuples -/
section
variable {prog : Program} {w : World} {A : Around} {E : Value → Shared → Prop} {s : Shared} {l : Addr} {its : List Value} {ns : List Int} {Q : Value → Shared → Prop}
omit [Tbs] in
theorem iter_intTup {xs : Array (Int × Tok)} (hl : s.heap.IsTuple l (intItems xs))
    (h : ∀ s₂ : Shared, s₂ = { s with heap := s.heap.push { cls := .type "tuple_iterator", data := .fields #[.ref l, .int 0 0] } } →
      (s₂.heap.IsTupleIter s.heap.objs.size l 0 ∧ s₂.heap.IsTuple l (intItems xs)) → (∀ b ∈ [s.heap.objs.size, l], b < s₂.heap.objs.size) → l ≠ s.heap.objs.size → Q (.ref s.heap.objs.size) s₂) :
    wpAny (model prog w) A (pyIter (.ref l)) Q E s := by
  have hlt : l < s.heap.objs.size := by obtain ⟨_, e, _⟩ := hl; exact Heap.lt_size e
  refine wpAny_pyIter_tuple hl (h _ rfl ⟨⟨_, Heap.get?_push_size _ rfl, rfl, rfl⟩, by obtain ⟨o, e, r⟩ := hl; exact ⟨o, Heap.get?_push_of_some _ e, r⟩⟩ (fun b hb => ?_) (Nat.ne_of_lt hlt))
  show b < (s.heap.push _).objs.size
  rw [Heap.size_push]
  rcases List.mem_cons.mp hb with rfl | hb
  · exact Nat.lt_succ_self _
  · rw [List.mem_singleton.mp hb]; exact Nat.lt_succ_of_lt hlt
omit [Tbs] in
theorem old_keptT {h' : Heap} {o0 : Obj} (hk : ∀ b o, b ∉ [s.heap.objs.size] → (s.heap.push o0).get? b = some o → h'.get? b = some o) :
    ∀ b o, s.heap.get? b = some o → h'.get? b = some o := fun b o e => by
  refine hk b o (fun hm => ?_) (Heap.get?_push_of_some _ e)
  rw [List.mem_singleton.mp hm] at e
  exact Nat.lt_irrefl _ (Heap.lt_size e)
omit [Tbs] in
theorem sum_rawT (hh : A.handled = none) (hl : s.heap.IsTuple l its.toArray) (hi : IntsAre its ns)
    (h : ∀ h' tk t', (∀ b o, s.heap.get? b = some o → h'.get? b = some o) → Q (.int ns.sum t') { s with heap := h', toks := tk }) : wpAny (model prog w) A (call (.builtin "sum") [.ref l]) Q E s := by
  obtain ⟨xs, e⟩ := hi.allInts.items
  have hn : numsOf (intItems xs).toList = ns := by rw [← e]; exact hi.numsOf
  rw [nums_intItems] at hn
  rw [e] at hl
  refine call_sum_walkG (iter_intTup hl fun s₂ e st hfp hlI => ?_)
  subst e
  refine ⟨_, _, _, _, _, _, numAt xs, rfl, Walks.tuple (A := A.in1) hh _ l hlI (intItems xs), st, hfp, (fun _ _ => intItems_at), fun h' tk t' hk => ?_⟩
  have z := h h' tk t' (old_keptT hk)
  have e2 : (intItems xs).size = xs.size := by simp [intItems]
  rw [e2, preSum_eq, List.take_of_length_le (by simp), hn]
  exact z
omit [Tbs] in
theorem max_rawT (hh : A.handled = none) (hl : s.heap.IsTuple l its.toArray) (hi : IntsAre its ns) (hne : 0 < ns.length)
    (h : ∀ h' tk M t', (∀ b o, s.heap.get? b = some o → h'.get? b = some o) → M ∈ ns → (∀ a, a ∈ ns → a ≤ M) → Q (.int M t') { s with heap := h', toks := tk }) : wpAny (model prog w) A (call (.builtin "max") [.ref l]) Q E s := by
  obtain ⟨xs, e⟩ := hi.allInts.items
  have hn : numsOf (intItems xs).toList = ns := by rw [← e]; exact hi.numsOf
  rw [nums_intItems] at hn
  subst hn
  rw [e] at hl
  have hsz : 0 < xs.size := by simpa using hne
  refine call_max_walk (iter_intTup hl fun s₂ e st hfp hlI => ?_)
  subst e
  refine ⟨_, _, _, _, _, _, _, rfl, Walks.tuple (A := A.in1) hh _ l hlI (intItems xs), st, hfp, by simpa [intItems] using hsz, CmpOf.ints_gt (numAt xs) (fun _ _ => intItems_at), fun v h' tk hP hk => ?_⟩
  have hv : (intItems xs)[argBest (fun i j => decide (numAt xs i > numAt xs j)) (xs.size - 1)]? = some v := by simpa [intItems] using hP
  obtain ⟨t, rfl⟩ := intItems_at hv
  obtain ⟨h1, h2⟩ := argBest_gt (numAt xs) (xs.size - 1)
  refine h h' tk _ t (old_keptT hk) ?_ fun a ha => ?_
  · rw [numAt_eq]; exact PySem.getD_mem (by rw [List.length_map, Array.length_toList]; omega)
  · obtain ⟨j, hj, rfl⟩ := mem_getD ha
    rw [List.length_map, Array.length_toList] at hj
    rw [← numAt_eq]; exact h2 j (by omega)
omit [Tbs] in
theorem min_rawT (hh : A.handled = none) (hl : s.heap.IsTuple l its.toArray) (hi : IntsAre its ns) (hne : 0 < ns.length)
    (h : ∀ h' tk M t', (∀ b o, s.heap.get? b = some o → h'.get? b = some o) → M ∈ ns → (∀ a, a ∈ ns → M ≤ a) → Q (.int M t') { s with heap := h', toks := tk }) : wpAny (model prog w) A (call (.builtin "min") [.ref l]) Q E s := by
  obtain ⟨xs, e⟩ := hi.allInts.items
  have hn : numsOf (intItems xs).toList = ns := by rw [← e]; exact hi.numsOf
  rw [nums_intItems] at hn
  subst hn
  rw [e] at hl
  have hsz : 0 < xs.size := by simpa using hne
  refine call_min_walk (iter_intTup hl fun s₂ e st hfp hlI => ?_)
  subst e
  refine ⟨_, _, _, _, _, _, _, rfl, Walks.tuple (A := A.in1) hh _ l hlI (intItems xs), st, hfp, by simpa [intItems] using hsz, CmpOf.ints_lt (numAt xs) (fun _ _ => intItems_at), fun v h' tk hP hk => ?_⟩
  have hv : (intItems xs)[argBest (fun i j => decide (numAt xs i < numAt xs j)) (xs.size - 1)]? = some v := by simpa [intItems] using hP
  obtain ⟨t, rfl⟩ := intItems_at hv
  obtain ⟨h1, h2⟩ := argBest_lt (numAt xs) (xs.size - 1)
  refine h h' tk _ t (old_keptT hk) ?_ fun a ha => ?_
  · rw [numAt_eq]; exact PySem.getD_mem (by rw [List.length_map, Array.length_toList]; omega)
  · obtain ⟨j, hj, rfl⟩ := mem_getD ha
    rw [List.length_map, Array.length_toList] at hj
    rw [← numAt_eq]; exact h2 j (by omega)
end
section
variable {K : PySem.W.Frag} {W : WX} {X : Cx} {θ : Addr → Prop} {π α : Nat → Option Addr} {σ : L2.St} {H : Hp} {ρ : En}
def rSumT (K : PySem.W.Frag) : List V → Hp → VK → Prop := fun vs H Q => ∃ (a : Addr) (ns : List Int), vs = [V.ref a] ∧ SqT K H a (ns.map V.int) ∧ Q (.int ns.sum) H
def rMaxT (K : PySem.W.Frag) : List V → Hp → VK → Prop := fun vs H Q => ∃ (a : Addr) (ns : List Int), vs = [V.ref a] ∧ SqT K H a (ns.map V.int) ∧ 0 < ns.length ∧ ∀ m, m ∈ ns → (∀ y, y ∈ ns → y ≤ m) → Q (.int m) H
def rMinT (K : PySem.W.Frag) : List V → Hp → VK → Prop := fun vs H Q => ∃ (a : Addr) (ns : List Int), vs = [V.ref a] ∧ SqT K H a (ns.map V.int) ∧ 0 < ns.length ∧ ∀ m, m ∈ ns → (∀ y, y ∈ ns → m ≤ y) → Q (.int m) H
omit [Tbs] in
theorem cr_sumT (hc : X.calm = true) : CallR X (.builtin "sum") (rSumT X.K) := by
  intro pins s σ H vs us Q I r h
  obtain ⟨a, ns, rfl, hs, q⟩ := h
  obtain ⟨its, rv, hl, _⟩ := I.tuple hs
  rw [Vals.ref1 r]
  exact sum_rawT (I.ok.hd hc) (show s.heap.IsTuple a its.toArray from hl) rv.ints fun h' tk t' hk => ⟨.int _, H, I.kept hk, ⟨_, rfl⟩, q⟩
omit [Tbs] in
theorem cr_maxT (hc : X.calm = true) : CallR X (.builtin "max") (rMaxT X.K) := by
  intro pins s σ H vs us Q I r h
  obtain ⟨a, ns, rfl, hs, hne, q⟩ := h
  obtain ⟨its, rv, hl, _⟩ := I.tuple hs
  rw [Vals.ref1 r]
  exact max_rawT (I.ok.hd hc) (show s.heap.IsTuple a its.toArray from hl) rv.ints hne fun h' tk m t' hk h1 h2 => ⟨.int _, H, I.kept hk, ⟨_, rfl⟩, q m h1 h2⟩
omit [Tbs] in
theorem cr_minT (hc : X.calm = true) : CallR X (.builtin "min") (rMinT X.K) := by
  intro pins s σ H vs us Q I r h
  obtain ⟨a, ns, rfl, hs, hne, q⟩ := h
  obtain ⟨its, rv, hl, _⟩ := I.tuple hs
  rw [Vals.ref1 r]
  exact min_rawT (I.ok.hd hc) (show s.heap.IsTuple a its.toArray from hl) rv.ints hne fun h' tk m t' hk h1 h2 => ⟨.int _, H, I.kept hk, ⟨_, rfl⟩, q m h1 h2⟩
def orC (r r' : List V → Hp → VK → Prop) : List V → Hp → VK → Prop := fun vs H Q => r vs H Q ∨ r' vs H Q
omit [Tbs] in
theorem callR_or {f : Value} {r r' : List V → Hp → VK → Prop} (a : CallR X f r) (b : CallR X f r') : CallR X f (orC r r') := fun pins s σ H vs us Q I rv h => h.elim (a pins s σ H vs us Q I rv) (b pins s σ H vs us Q I rv)
/-- the ints of a list or a tuple -/
def intsL : List D → Option (List Int)
  | [] => some []
  | .int i :: ds => (intsL ds).map (i :: ·)
  | _ => none
def intsD (d : D) : Option (List Int) := (seqD d).bind intsL
omit [Tbs] in
theorem intsL_eq : ∀ {ds : List D} {ns : List Int}, intsL ds = some ns → ds = ns.map PyData.int
  | [], ns, h => by cases h; rfl
  | .int i :: ds, ns, h => by
    unfold intsL at h
    cases q : intsL ds with
    | none => rw [q] at h; cases h
    | some ms => rw [q] at h; cases h; rw [intsL_eq q]; rfl
  | .none :: _, _, h => by cases h
  | .bool _ :: _, _, h => by cases h
  | .str _ :: _, _, h => by cases h
  | .list _ :: _, _, h => by cases h
  | .tuple _ :: _, _, h => by cases h
  | .dict _ :: _, _, h => by cases h
omit [Tbs] in
theorem intsL_map (ns : List Int) : intsL (ns.map PyData.int) = some ns := by
  induction ns with
  | nil => rfl
  | cons n ns ih => show (intsL (ns.map PyData.int)).map (n :: ·) = _; rw [ih]; rfl
theorem dpA_toInts {G : Hp} : ∀ {vs : List V} {ns : List Int}, DpAll K G vs (ns.map PyData.int) → vs = ns.map V.int
  | [], [], _ => rfl
  | [], _ :: _, h => by cases h
  | _ :: _, [], h => by cases h
  | v :: vs, n :: ns, h => by
    cases h with
    | cons h hs => cases dp_int h; rw [dpA_toInts hs]; rfl
def fSum (d : D) (k : D → Prop) : Prop := ∃ ns, intsD d = some ns ∧ k (.int ns.sum)
def fMaxS (d : D) (k : D → Prop) : Prop := ∃ ns, intsD d = some ns ∧ 0 < ns.length ∧ ∀ m, m ∈ ns → (∀ y, y ∈ ns → y ≤ m) → k (.int m)
def fMinS (d : D) (k : D → Prop) : Prop := ∃ ns, intsD d = some ns ∧ 0 < ns.length ∧ ∀ m, m ∈ ns → (∀ y, y ∈ ns → m ≤ y) → k (.int m)
theorem rp_ints {S : Addr → Prop} {x : V} {d : D} {ns : List Int} (h : Rp K S H x d) (e : intsD d = some ns) : ∃ a, x = .ref a ∧ (SqL K H a (ns.map V.int) ∨ SqT K H a (ns.map V.int)) := by
  unfold intsD at e
  cases d with
  | list ds =>
    have q := intsL_eq (show intsL ds = some ns from e)
    subst q
    obtain ⟨a, vs, rfl, h1, h2⟩ := h.lst
    rw [dpA_toInts h2] at h1
    exact ⟨a, rfl, .inl h1⟩
  | tuple ds =>
    have q := intsL_eq (show intsL ds = some ns from e)
    subst q
    obtain ⟨a, vs, rfl, h1, h2⟩ := h.tup
    rw [dpA_toInts h2] at h1
    exact ⟨a, rfl, .inr h1⟩
  | none => cases e
  | bool => cases e
  | int => cases e
  | str => cases e
  | dict => cases e
theorem su_sum : SU K (fun x => orC (rSum K) (rSumT K) [x]) fSum := by
  intro S H x d Q R lv hx hf q
  obtain ⟨ns, e, hk⟩ := hf
  obtain ⟨a, rfl, h | h⟩ := rp_ints hx e
  · exact .inl ⟨a, ns, rfl, h, q _ H _ (Ex.refl _) (.int _) hk⟩
  · exact .inr ⟨a, ns, rfl, h, q _ H _ (Ex.refl _) (.int _) hk⟩
theorem su_maxS : SU K (fun x => orC (rMax K) (rMaxT K) [x]) fMaxS := by
  intro S H x d Q R lv hx hf q
  obtain ⟨ns, e, hn, hk⟩ := hf
  obtain ⟨a, rfl, h | h⟩ := rp_ints hx e
  · exact .inl ⟨a, ns, rfl, h, hn, fun m h1 h2 => q _ H _ (Ex.refl _) (.int _) (hk m h1 h2)⟩
  · exact .inr ⟨a, ns, rfl, h, hn, fun m h1 h2 => q _ H _ (Ex.refl _) (.int _) (hk m h1 h2)⟩
theorem su_minS : SU K (fun x => orC (rMin K) (rMinT K) [x]) fMinS := by
  intro S H x d Q R lv hx hf q
  obtain ⟨ns, e, hn, hk⟩ := hf
  obtain ⟨a, rfl, h | h⟩ := rp_ints hx e
  · exact .inl ⟨a, ns, rfl, h, hn, fun m h1 h2 => q _ H _ (Ex.refl _) (.int _) (hk m h1 h2)⟩
  · exact .inr ⟨a, ns, rfl, h, hn, fun m h1 h2 => q _ H _ (Ex.refl _) (.int _) (hk m h1 h2)⟩
omit [Tbs] in
theorem cr_sumA (hc : X.calm = true) : CallR X (.builtin "sum") (orC (rSum X.K) (rSumT X.K)) := callR_or (cr_sum hc) (cr_sumT hc)
omit [Tbs] in
theorem cr_maxA (hc : X.calm = true) : CallR X (.builtin "max") (orC (rMax X.K) (rMaxT X.K)) := callR_or (cr_max hc) (cr_maxT hc)
omit [Tbs] in
theorem cr_minA (hc : X.calm = true) : CallR X (.builtin "min") (orC (rMin X.K) (rMinT X.K)) := callR_or (cr_min hc) (cr_minT hc)
abbrev fMax2 := f2i fun i j => .int (if j > i then j else i)
abbrev fMin2 := f2i fun i j => .int (if j < i then j else i)
theorem sr_max2 : SR K (fun x y H Q => ∃ i j, [x, y] = [V.int i, V.int j] ∧ Q (.int (if j > i then j else i)) H) fMax2 := by
  intro S H x y d e Q R lv hx hy hf q
  unfold fMax2 f2i at hf
  split at hf
  · cases hx.int; cases hy.int; exact ⟨_, _, rfl, q _ H _ (Ex.refl _) (.int _) hf⟩
  · exact hf.elim
theorem sr_min2 : SR K (fun x y H Q => ∃ i j, [x, y] = [V.int i, V.int j] ∧ Q (.int (if j < i then j else i)) H) fMin2 := by
  intro S H x y d e Q R lv hx hy hf q
  unfold fMin2 f2i at hf
  split at hf
  · cases hx.int; cases hy.int; exact ⟨_, _, rfl, q _ H _ (Ex.refl _) (.int _) hf⟩
  · exact hf.elim
/-! tuple(x), list(x) -/
def fTupOf (d : D) (k : D → Prop) : Prop := ∃ ds, seqD d = some ds ∧ k (.tuple ds)
theorem su_tupOf : SU K (fun x H Q => ∃ p ys, [x] = [V.ref p] ∧ ((SqL K H p ys ∧ ∀ l, H l = none → Q (.ref l) (upd H l (.tup ys))) ∨ (SqT K H p ys ∧ Q (.ref p) H))) fTupOf := by
  intro S H x d Q R lv hx hf q
  obtain ⟨ds, e, hk⟩ := hf
  cases d with
  | list xs =>
    cases e
    obtain ⟨a, vs, rfl, h1, h2⟩ := hx.lst
    exact ⟨a, vs, rfl, .inl ⟨h1, fun l hl => q _ _ _ (Ex.new hl) (new_tup lv hl h2) hk⟩⟩
  | tuple xs =>
    cases e
    cases hx with
    | val h =>
      obtain ⟨a, vs, rfl, h1, h2⟩ := (Rp.val h : Rp K S H x (.tuple _)).tup
      exact ⟨a, vs, rfl, .inr ⟨h1, q _ H _ (Ex.refl _) h hk⟩⟩
  | none => cases e
  | bool => cases e
  | int => cases e
  | str => cases e
  | dict => cases e
/-- a new list from a value -/
def wNewL (g : D → (List D → Prop) → Prop) (w : WL) : WA := fun ρ R E => w ρ (fun L ρ1 => ∃ d, L ρ1 d ∧ g d (fun ds => R ds ρ1)) E
def SN (K : PySem.W.Frag) (r : V → Hp → VK → Prop) (g : D → (List D → Prop) → Prop) : Prop := ∀ (S : Addr → Prop) (H : Hp) (x : V) (d : D) (Q : VK) (R : List D → Prop), Live S H → Rp K S H x d → g d R →
  (∀ p vs ds, H p = none → DpAll K (hidS S H) vs ds → R ds → Q (.ref p) (upd H p (.lst vs))) → r x H Q
theorem dNewL {r : List V → Hp → VK → Prop} {g : D → (List D → Prop) → Prop} {e a : Expr} {w : WL} (h : ∀ ta, PE X a ta → PE X e (tCB r (tCons ta tNil))) (hr : SN K (fun x => r [x]) g) (ha : PE X a (cL K W w)) : PE X e (cF K W (wNewL g w)) :=
  peI (h _ ha) fun σ H Q ⟨θ, π, α, ρ, R, E, hR, hw, hq, he⟩ => by
    refine ⟨θ, π, α, ρ, _, E, hR, hw, fun α1 v1 H1 L1 ρ1 R1 s1 l1 w1 => ?_, he⟩
    obtain ⟨d, hd, hg⟩ := w1
    refine hr _ H1 v1 d Q _ R1.live (l1 α1 H1 ρ1 R1 (Stp.refl ..) d hd) hg fun p vs ds hp hds hk => ?_
    have e := hid_new (θ := θ) (α := α1) (o := .lst vs) hp
    exact hq α1 p _ _ _ ρ1 (R1.hideNew hp) ⟨by rw [e]; exact s1.1, fun b hb => (s1.2 b hb).trans ((R1.stpNew hp).2 b hb)⟩ (fun z => R1.lv p z hp) upd_same (by rw [e]; exact hds) hk
def gListOf (d : D) (k : List D → Prop) : Prop := ∃ ds, seqD d = some ds ∧ k ds
theorem sn_listOf : SN K (fun x H Q => ∃ p ys, [x] = [V.ref p] ∧ (SqL K H p ys ∨ SqT K H p ys) ∧ ∀ l, H l = none → Q (.ref l) (upd H l (.lst ys))) gListOf := by
  intro S H x d Q R lv hx hg q
  obtain ⟨ds, e, hk⟩ := hg
  cases d with
  | list xs =>
    cases e
    obtain ⟨a, vs, rfl, h1, h2⟩ := hx.lst
    exact ⟨a, vs, rfl, .inl h1, fun l hl => q l vs _ hl h2 hk⟩
  | tuple xs =>
    cases e
    obtain ⟨a, vs, rfl, h1, h2⟩ := hx.tup
    exact ⟨a, vs, rfl, .inr h1, fun l hl => q l vs _ hl h2 hk⟩
  | none => cases e
  | bool => cases e
  | int => cases e
  | str => cases e
  | dict => cases e
/-! x in xs -/
def flatD : D → Bool
  | .none => true
  | .bool _ => true
  | .int _ => true
  | .str _ => true
  | _ => false
def eqF : D → D → Bool
  | .none, .none => true
  | .bool a, .bool b => a == b
  | .bool a, .int b => (if a then 1 else 0) == b
  | .int a, .bool b => a == (if b then 1 else 0)
  | .int a, .int b => a == b
  | .str a, .str b => a == b
  | _, _ => false
def inD (x : D) (xs : List D) : Bool := xs.any fun y => eqF y x
omit [Tbs] in
theorem flat_dp {G : Hp} {v : V} {d : D} (h : Dp K G v d) (f : flatD d = true) : flatV v = true := by
  cases h with
  | lst h hs => cases f
  | tup h hs => cases f
  | non => rfl
  | bl => rfl
  | int => rfl
  | str => rfl
omit [Tbs] in
theorem eqF_dp {G : Hp} {v u : V} {d e : D} (h : Dp K G v d) (h2 : Dp K G u e) (f : flatD d = true) (f2 : flatD e = true) : eqV v u = eqF d e := by
  cases h with
  | lst h hs => cases f
  | tup h hs => cases f
  | non => cases h2 with
    | lst h hs => cases f2
    | tup h hs => cases f2
    | non => rfl
    | bl => rfl
    | int => rfl
    | str => rfl
  | bl => cases h2 with
    | lst h hs => cases f2
    | tup h hs => cases f2
    | non => rfl
    | bl => rfl
    | int => rfl
    | str => rfl
  | int => cases h2 with
    | lst h hs => cases f2
    | tup h hs => cases f2
    | non => rfl
    | bl => rfl
    | int => rfl
    | str => rfl
  | str => cases h2 with
    | lst h hs => cases f2
    | tup h hs => cases f2
    | non => rfl
    | bl => rfl
    | int => rfl
    | str => rfl
omit [Tbs] in
theorem inD_dp {G : Hp} {u : V} {e : D} (h2 : Dp K G u e) (f2 : flatD e = true) : ∀ {vs : List V} {ds : List D}, DpAll K G vs ds → ds.all flatD = true → vs.all flatV = true ∧ inV u vs = inD e ds
  | _, _, .nil, _ => ⟨rfl, rfl⟩
  | v :: vs, d :: ds, .cons h hs, f => by
    have f : flatD d = true ∧ ds.all flatD = true := by simpa using f
    obtain ⟨a, b⟩ := inD_dp h2 f2 hs f.2
    refine ⟨by simp [flat_dp h f.1, a], ?_⟩
    show (eqV v u || inV u vs) = (eqF d e || inD e ds)
    rw [b, eqF_dp h h2 f.1 f2]
def fIn (neg : Bool) (d e : D) (k : D → Prop) : Prop := ∃ ds, seqD e = some ds ∧ flatD d = true ∧ ds.all flatD = true ∧ k (.bool (if neg then !inD d ds else inD d ds))
theorem sr_in (neg : Bool) : SR K (rIn K neg) (fIn neg) := by
  intro S H x y d e Q R lv hx hy hf q
  obtain ⟨ds, e1, f1, f2, hk⟩ := hf
  have hx' := hx.full
  obtain ⟨t, a, vs, rfl, h1, h2⟩ := dp_seq hy.full e1
  obtain ⟨g1, g2⟩ := inD_dp hx' f1 h2 f2
  refine ⟨a, vs, rfl, ?_, flat_dp hx' f1, g1, by rw [g2]; exact q _ H _ (Ex.refl _) (.bl _) hk⟩
  cases t with
  | false => exact .inl h1
  | true => exact .inr h1
/-! is None -/
def isNon : D → Bool
  | .none => true
  | _ => false
def fIsN (d e : D) (k : D → Prop) : Prop := e = .none ∧ k (.bool (isNon d))
def fNotN (d e : D) (k : D → Prop) : Prop := e = .none ∧ k (.bool (!isNon d))
omit [Tbs] in
theorem isNon_dp {G : Hp} {v : V} {d : D} (h : Dp K G v d) : decide (v = .non) = isNon d := by
  cases h <;> first | rfl | exact decide_eq_false (fun z => by cases z)
theorem sr_isN : SR K (fun x y H Q => y = .non ∧ Q (.bl (decide (x = .non))) H) fIsN := by
  intro S H x y d e Q R lv hx hy hf q
  obtain ⟨rfl, hf⟩ := hf
  exact ⟨hy.non, by rw [isNon_dp hx.full]; exact q _ H _ (Ex.refl _) (.bl _) hf⟩
theorem sr_notN : SR K (fun x y H Q => y = .non ∧ Q (.bl (!decide (x = .non))) H) fNotN := by
  intro S H x y d e Q R lv hx hy hf q
  obtain ⟨rfl, hf⟩ := hf
  exact ⟨hy.non, by rw [isNon_dp hx.full]; exact q _ H _ (Ex.refl _) (.bl _) hf⟩
end
end Den

namespace Den
open PySem L2 Evl PySem.Spec PyProof.Rows
/-! the end, with tables -/
theorem walk_ofTT {l : PySem.W.OpenLaw} {n k : Nat} {q : Program} {loose : List Str} {XP : (Str → Option Value) → Heap → Prop} {YP : World → Heap → Prop} {d : DefRec} {K : Params → PySem.W.Frag} {CX : World → CXT} {x : Str}
    (hn : l.most = some n) (hn2 : n ≤ sizeLine) (hdf : d.params.defaults = []) (hr : Room k callerA) (hY : ∀ (w : World) (h : Heap), YP w h → (K w.params).In h)
    (F : ∀ (w : World) (mg : Str → Option Value) (fa : Addr) (h : Heap), (K w.params).In h → h.Ns mainGlobals mg → mg d.name = some (.ref fa) → (∃ loose' mean mb, Top q loose' mean mg mb h) → LamX.LawAtS l w (K w.params) (CX w) k n x mg fa h)
    (hCX : ∀ (w : World) (H : Hp) (s : Shared) (e : Value) (s' : Shared), CX w [] H s (fun _ _ _ => False) e s' → False) :
    PySem.W.WalkO q loose XP YP l.row.toRowW d [] (fun f vs => PySem.call f vs) := by
  refine Att.attach_callB hn hdf fun w s₀ s₁ mg mb fa o pm cd doc a vs ns G Y ho hd hcd hmg hobj hints hlen hbits hg => ?_
  have KX := hY w _ Y
  obtain ⟨fd, cs, sp, hT, nT, C, hb, hsp, hF⟩ := F w mg fa _ KX G.T.g hmg ⟨_, _, _, G.T⟩
  exact LamX.law_callTs KX G.T.g G.T.b G.T.builtins G.T.nolimit hg hT nT C G.T.bmain hobj hints (Nat.le_trans hlen hn2) hr hF hb (fun H hH hS => hsp H a ns hlen hbits hH hS) fun H e s' => hCX w H s₁ e s'
theorem noTab_none {K : PySem.W.Frag} {h : Heap} {P : Addr} (X : K.In h) (nt : PySem.W.noTabs K = true) (e : h.get? P = some (PySem.W.tabObj #[])) : K.lookup P = none := by
  cases q : K.lookup P with
  | none => rfl
  | some o =>
    have z := X P o q
    rw [e] at z
    have h2 := List.all_eq_true.mp nt (P, o) (PySem.W.mem_of_lookupK q)
    rw [← Option.some.inj z] at h2
    exact absurd (show false = true from h2) Bool.false_ne_true
theorem fun_mkC {K : PySem.W.Frag} {h : Heap} {mg : Str → Option Value} {x qual : Str} {st : Stmt} {f c P : Addr} {oc : Value} {od an : Option Addr} {osl : Array (Option Value)} {kV doc pm cdv ct : Value} (X : K.In h) (G : h.Ns mainGlobals mg) (ht : PySem.W.tabIn K x = some (c, P)) (hm : mg x = some (.ref f))
    (l : K.lookup f = some ⟨oc, od, .func (PySem.W.fnOf x qual (defArgs st) (defBody st) (defScope st) .none kV doc pm an cdv ct), osl⟩)
    (e : PySem.W.codeIn K cdv qual = true) : FunC K x qual st f (PySem.W.fnOf x qual (defArgs st) (defBody st) (defScope st) .none kV doc pm an cdv ct) c := by
  have q := PySem.W.law_code X G ht hm (X _ _ l) rfl
  have q : cdv = .ref c := q
  subst q
  exact ⟨oc, od, kV, doc, pm, an, ct, osl, rfl, l, e⟩
theorem tabB_of {base : Heap} {mg : Str → Option Value} {c P : Addr} (t : LamX.TabB base mg c P) : GxR.TabB base mg c P := ⟨t.code, t.bm, t.gP⟩
/-! steps -/
variable [Tbs]
section
variable {ρ ρ1 : En} {R : RC} {E : EC} {A : List D → En → Prop} {w we : WE} {wi : WI} {wg : WG} {la : WL} {ar : WA} {cs : List Bool} {c : Bool} {j : Nat} {ds : List D}
theorem s_gen (h : wi ρ (fun ds ρ1 => ∃ Inv : Nat → En → Prop, Inv 0 (maskE cs ρ1) ∧
  (∀ i d ρ', ds[i]? = some d → Inv i ρ' → wg d ρ' (fun ρ2 => we ρ2 (fun y ρ3 => ∃ b : Bool, y = .bool b ∧ if b = c then R (.bool c) ρ1 else Inv (i + 1) ρ3) NoE) NoE) ∧
  ∀ ρ', Inv ds.length ρ' → R (.bool (!c)) ρ1) E) : wGenB c cs wi wg we ρ R E := h
def AllUp (p : D → Bool) (ds : List D) (i : Nat) : Prop := ∀ k z, k < i → ds[k]? = some z → p z = true
/-- all of a pure test -/
theorem s_all (p : D → Bool) (C : En → Prop) (hR : R (.bool (ds.all p)) ρ1) (h0 : C (maskE cs ρ1))
    (hs : ∀ i d ρ', ds[i]? = some d → C ρ' → (p d = false → R (.bool false) ρ1) → AllUp p ds i → wg d ρ' (fun ρ2 => we ρ2 (fun y ρ3 => ∃ b : Bool, y = .bool b ∧ if b = false then R (.bool false) ρ1 else (C ρ3 ∧ AllUp p ds (i + 1))) NoE) NoE) : ∃ Inv : Nat → En → Prop, Inv 0 (maskE cs ρ1) ∧
  (∀ i d ρ', ds[i]? = some d → Inv i ρ' → wg d ρ' (fun ρ2 => we ρ2 (fun y ρ3 => ∃ b : Bool, y = .bool b ∧ if b = false then R (.bool false) ρ1 else Inv (i + 1) ρ3) NoE) NoE) ∧
  ∀ ρ', Inv ds.length ρ' → R (.bool (!false)) ρ1 := by
  refine ⟨fun i ρ' => C ρ' ∧ AllUp p ds i, ⟨h0, fun k z hk => absurd hk (by omega)⟩, fun i d ρ' hi hc => hs i d ρ' hi hc.1 (fun hp => ?_) hc.2, fun ρ' hc => ?_⟩
  · have e : ds.all p = false := by
      rw [List.all_eq_false]
      exact ⟨d, List.mem_of_getElem? hi, by rw [hp]; simp⟩
    rw [e] at hR; exact hR
  · have e : ds.all p = true := by
      rw [List.all_eq_true]
      intro z hz
      obtain ⟨k, q⟩ := List.mem_iff_getElem?.mp hz
      exact hc.2 k z (List.getElem?_eq_some_iff.mp q).1 q
    rw [e] at hR; exact hR
theorem all_fin {p : D → Bool} {C : En → Prop} {i : Nat} {d : D} {b : Bool} {ρ3 : En} {F : Prop} (e : p d = b) (hi : ds[i]? = some d) (hf : p d = false → F) (hp : AllUp p ds i) (hC : C ρ3) :
    ∃ b' : Bool, (PyData.bool b) = .bool b' ∧ if b' = false then F else (C ρ3 ∧ AllUp p ds (i + 1)) := by
  refine ⟨b, rfl, ?_⟩
  cases b with
  | false => rw [if_pos rfl]; exact hf e
  | true =>
    rw [if_neg (by simp)]
    refine ⟨hC, fun k z hk hz => ?_⟩
    by_cases q : k = i
    · subst q; rw [hi] at hz; cases hz; exact e
    · exact hp k z (by omega) hz
theorem s_iZ2 {G : List D → En → Prop} (h : ar ρ (fun ds ρ' => ∃ d e xs ys, ds = [d, e] ∧ seqD d = some xs ∧ seqD e = some ys ∧ G (zip2D xs ys) ρ') E) : wiZ2 ar ρ G E := h
theorem s_iZ3 {G : List D → En → Prop} (h : ar ρ (fun ds ρ' => ∃ d e f xs ys zs, ds = [d, e, f] ∧ seqD d = some xs ∧ seqD e = some ys ∧ seqD f = some zs ∧ G (zip3D xs ys zs) ρ') E) : wiZ3 ar ρ G E := h
theorem s_z2e {G : List D → List D → Prop} {d e : D} (xs ys : List D) (h1 : seqD d = some xs) (h2 : seqD e = some ys) (h : G xs ys) : ∃ d' e' xs ys, ([d, e] : List D) = [d', e'] ∧ seqD d' = some xs ∧ seqD e' = some ys ∧ G xs ys := ⟨d, e, xs, ys, rfl, h1, h2, h⟩
theorem s_z3e {G : List D → List D → List D → Prop} {d e f : D} (xs ys zs : List D) (h1 : seqD d = some xs) (h2 : seqD e = some ys) (h3 : seqD f = some zs) (h : G xs ys zs) : ∃ d' e' f' xs ys zs, ([d, e, f] : List D) = [d', e', f'] ∧ seqD d' = some xs ∧ seqD e' = some ys ∧ seqD f' = some zs ∧ G xs ys zs := ⟨d, e, f, xs, ys, zs, rfl, h1, h2, h3, h⟩
theorem s_fz {w : WE} (d : D) (e : ρ[j]? = some (.va d)) (h : w ρ R E) : wFz j w ρ R E := by unfold wFz; rw [e]; exact h
theorem s_fzo {w : WE} (ds : List D) (e : ρ[j]? = some (.ow ds)) (h : w (ρ.set j (.va (.list ds))) R E) : wFz j w ρ R E := by unfold wFz; rw [e]; exact h
theorem s_sum {d : D} {k : D → Prop} (ns : List Int) (e : intsD d = some ns) (h : k (.int ns.sum)) : fSum d k := ⟨ns, e, h⟩
theorem s_tupOf {d : D} {k : D → Prop} (xs : List D) (e : seqD d = some xs) (h : k (.tuple xs)) : fTupOf d k := ⟨xs, e, h⟩
theorem s_in {d e : D} {k : D → Prop} (xs : List D) (h1 : seqD e = some xs) (h2 : flatD d = true) (h3 : xs.all flatD = true) (h : k (.bool (inD d xs))) : fIn false d e k := ⟨xs, h1, h2, h3, h⟩
theorem s_nin {d e : D} {k : D → Prop} (xs : List D) (h1 : seqD e = some xs) (h2 : flatD d = true) (h3 : xs.all flatD = true) (h : k (.bool (!inD d xs))) : fIn true d e k := ⟨xs, h1, h2, h3, h⟩
theorem s_isN {d : D} {k : D → Prop} (h : k (.bool (isNon d))) : fIsN d .none k := ⟨rfl, h⟩
theorem s_notN {d : D} {k : D → Prop} (h : k (.bool (!isNon d))) : fNotN d .none k := ⟨rfl, h⟩
theorem s_newL {g : D → (List D → Prop) → Prop} (h : la ρ (fun L ρ1 => ∃ d, L ρ1 d ∧ g d (fun ds => A ds ρ1)) E) : wNewL g la ρ A E := h
theorem s_listOf {d : D} {k : List D → Prop} (xs : List D) (e : seqD d = some xs) (h : k xs) : gListOf d k := ⟨xs, e, h⟩
/-- a comprehension that maps -/
theorem s_lcm {vs : List Nat} {wt : WT} (f : D → D) (hl : ds.length ≤ sizeLine)
    (hs : ∀ i d acc, ds[i]? = some d → acc.length < sizeLine → acc = (ds.take i).map f → okw ρ vs ∧ wg d (wipeE ρ vs) (fun ρ2 => wt ρ2 (fun b ρ3 =>
      if b = true then w ρ3 (fun y ρ4 => acc.length < sizeLine ∧ okw ρ4 vs ∧ (back ρ vs ρ4 = ρ ∧ acc ++ [y] = (ds.take (i + 1)).map f)) NoE else okw ρ3 vs ∧ (back ρ vs ρ3 = ρ ∧ acc = (ds.take (i + 1)).map f)) NoE) NoE) (hA : A (ds.map f) ρ) :
    ∃ Inv : Nat → List D → En → Prop, Inv 0 [] ρ ∧ (∀ i d acc ρ', ds[i]? = some d → Inv i acc ρ' → okw ρ' vs ∧ wg d (wipeE ρ' vs) (fun ρ2 => wt ρ2 (fun b ρ3 =>
      if b = true then w ρ3 (fun y ρ4 => acc.length < sizeLine ∧ okw ρ4 vs ∧ Inv (i + 1) (acc ++ [y]) (back ρ' vs ρ4)) NoE else okw ρ3 vs ∧ Inv (i + 1) acc (back ρ' vs ρ3)) NoE) NoE) ∧ ∀ acc ρ', Inv ds.length acc ρ' → A acc ρ' := by
  refine ⟨fun i acc ρ' => ρ' = ρ ∧ acc = (ds.take i).map f, ⟨rfl, by simp⟩, fun i d acc ρ' hi h => ?_, fun acc ρ' h => ?_⟩
  · obtain ⟨e1, e2⟩ := h
    subst e1
    exact hs i d acc hi (by rw [e2, List.length_map, List.length_take]; have := (List.getElem?_eq_some_iff.mp hi).1; omega) e2
  · obtain ⟨e1, e2⟩ := h
    subst e1
    rw [e2, List.take_length]; exact hA
theorem lcm_fin {f : D → D} {i : Nat} {d y : D} {acc : List D} (hi : ds[i]? = some d) (ha : acc = (ds.take i).map f) (e : y = f d) : acc ++ [y] = (ds.take (i + 1)).map f := by
  rw [ha, e, List.take_add_one, hi]; simp
end
end Den

namespace Den
variable [Tbs]
open PySem L2 Evl PySem.Spec PyProof.Rows
open Classical
section
variable {K : PySem.W.Frag} {W : WX} {X : Cx} {θ : Addr → Prop} {π α : Nat → Option Addr} {σ : L2.St} {H : Hp} {ρ : En} {p : Addr} {o : HO}
/-- a, b = x, y: two plain locals -/
def wPar (i j : Nat) (w : WA) : WS := fun B ρ => w ρ (fun ds ρ1 => ∃ x y, ds = [x, y] ∧ asgV i (.va x) ρ1 (fun ρ2 => asgV j (.va y) ρ2 B.nx)) B.rs
theorem dPar {i j : Nat} {s : Stmt} {w : WA} {n : Nat} (h : PS X s (tPar i j (cA K W n w))) : PS X s (cS K W (wPar i j w)) := psI h fun D σ H ⟨θ, π, α, ρ, B, hR, hw, hf⟩ => by
  refine ⟨θ, π, α, ρ, _, _, hR, hw, fun α1 vs H1 ds ρ1 R1 s1 p1 l1 w1 => ?_, hf.exi⟩
  obtain ⟨x, y, rfl, w1⟩ := w1
  cases p1 with
  | cons a r =>
    cases r with
    | cons b r =>
      cases r
      obtain ⟨a1, a2, a3⟩ := asgV_of w1
      obtain ⟨α', r, s⟩ := R1.put a1 a2 a
      obtain ⟨b1, b2, b3⟩ := asgV_of a3
      obtain ⟨α2, r2, t⟩ := r.put b1 b2 (dp_mono s.1 b)
      exact ⟨_, _, rfl, hf.nx α2 _ H1 _ r2 ((s1.trans s).trans t) b3⟩
theorem s_par {i j : Nat} {wa : WA} {nx : En → Prop} {rt rf bk ct rs} (h : wa ρ (fun ds ρ1 => ∃ x y, ds = [x, y] ∧ asgV i (.va x) ρ1 (fun ρ2 => asgV j (.va y) ρ2 nx)) rs) : wPar i j wa ⟨nx, rt, rf, bk, ct, rs⟩ ρ := h
theorem s_xy {x y : D} {G : D → D → Prop} (h : G x y) : ∃ x' y', ([x, y] : List D) = [x', y'] ∧ G x' y' := ⟨x, y, rfl, h⟩
theorem nd_io {j : Nat} {d : D} : (ios [Ar.io j, Ar.v d]).Nodup := List.Pairwise.cons (fun _ h => nomatch h) List.Pairwise.nil
theorem nd_io2 {j : Nat} {d e : D} : (ios [Ar.io j, Ar.v d, Ar.v e]).Nodup := List.Pairwise.cons (fun _ h => nomatch h) List.Pairwise.nil
theorem nd_io3 {j : Nat} {d e f : D} : (ios [Ar.io j, Ar.v d, Ar.v e, Ar.v f]).Nodup := List.Pairwise.cons (fun _ h => nomatch h) List.Pairwise.nil
end
end Den

namespace Den
variable [Tbs]
open PySem L2 Evl PySem.Spec PyProof.Rows
open Classical
section
variable {K : PySem.W.Frag} {W : WX} {X : Cx} {θ : Addr → Prop} {π α : Nat → Option Addr} {σ : L2.St} {H : Hp} {ρ : En} {p : Addr} {o : HO}
/-! lcm -/
def CLcm (a b : Int) : Prop := a.natAbs < 2 ^ 64 ∧ b.natAbs < 2 ^ 64
def rLcm : List V → Hp → VK → Prop := fun vs H Q => ∃ a b : Int, vs = [.int a, .int b] ∧ CLcm a b ∧ Q (.int ((Nat.lcm a.natAbs b.natAbs : Nat) : Int)) H
omit [Tbs] in
theorem lcm_small {a b : Nat} (ha : a < 2 ^ 64) (hb : b < 2 ^ 64) : (((Nat.lcm a b : Nat) : Int)).natAbs.log2 < bitsLine := by
  rw [Int.natAbs_natCast]
  by_cases z : Nat.lcm a b = 0
  · rw [z]; decide
  · have h1 : Nat.lcm a b ≤ a * b := by
      have hz : 0 < a * b := Nat.pos_of_ne_zero fun e => z (by rcases Nat.mul_eq_zero.mp e with e | e <;> simp [e])
      exact Nat.le_of_dvd hz (Nat.lcm_dvd_mul a b)
    have h2 : a * b < 2 ^ 128 := by
      calc a * b < 2 ^ 64 * 2 ^ 64 := Nat.mul_lt_mul'' ha hb
        _ = 2 ^ 128 := by decide
    exact Nat.lt_of_lt_of_le ((Nat.log2_lt z).mpr (Nat.lt_of_le_of_lt h1 h2)) (by decide)
omit [Tbs] in
theorem cr_lcm : CallR X (.builtin "math.lcm") rLcm := by
  intro pins s σ H vs us Q I r h
  obtain ⟨a, b, rfl, ⟨ha, hb⟩, q⟩ := h
  obtain ⟨t, u, rfl⟩ := Vals.int2 r
  have e : (Nat.lcm 1 a.natAbs).lcm b.natAbs = Nat.lcm a.natAbs b.natAbs := by rw [Nat.lcm_one_left]
  refine PySem.W.mg_lcm ha hb (by rw [e]; exact lcm_small ha hb) ?_
  rw [e]
  exact ⟨.int _, H, I.tok _, ⟨_, rfl⟩, q⟩
def fLcm (d e : D) (k : D → Prop) : Prop := match d, e with
  | .int a, .int b => CLcm a b ∧ k (.int ((Nat.lcm a.natAbs b.natAbs : Nat) : Int))
  | _, _ => False
theorem sr_lcm : SR K (fun x y => rLcm [x, y]) fLcm := by
  intro S H x y d e Q R lv hx hy hf q
  unfold fLcm at hf
  split at hf
  · cases hx.int; cases hy.int; exact ⟨_, _, rfl, hf.1, q _ H _ (Ex.refl _) (.int _) hf.2⟩
  · exact hf.elim
theorem s_lcmi {a b : Int} {k : D → Prop} (h : k (.int ((Nat.lcm a.natAbs b.natAbs : Nat) : Int))) (c : CLcm a b) : fLcm (.int a) (.int b) k := ⟨c, h⟩
/-! slices of tuples and of texts -/
def sliceD (d : D) (lo hi : Option Int) : Option D := match d with
  | .tuple ds => some (.tuple (cutG ds lo hi))
  | .str z => if z.length ≤ sizeLine then some (.str (cutS z lo hi)) else none
  | _ => none
def wSlV (w : WL) (wl wh : WO) : WE := fun ρ R E => w ρ (fun L ρ1 => wl ρ1 (fun lo ρ2 => wh ρ2 (fun hi ρ3 => ∃ d z, L ρ3 d ∧ sliceD d lo hi = some z ∧ R z ρ3) E) E) E
theorem dSlV {e : Expr} {lo hi : Option Expr} {p2 pos : Pos} {w : WL} {wl wh : WO} (h : PE X e (cL X.K W w)) (hl : PO X lo (cO X.K W wl)) (hh : PO X hi (cO X.K W wh)) : PE X (.Subscript e (.Slice lo hi none p2) pos) (cE X.K W (wSlV w wl wh)) :=
  peI (pe_slice (SlR.or sl_tupA sl_str) h hl hh) fun σ H Q => by
    rintro ⟨θ, π, α, ρ, R, E, hR, hw, hq, he⟩
    refine ⟨θ, π, α, ρ, _, E, hR, hw, fun α1 v1 H1 L1 ρ1 R1 s1 l1 w1 => ?_, he⟩
    refine ⟨θ, π, α1, ρ1, _, E, R1, w1, fun α2 H2 lo ρ2 R2 s2 w2 => ?_, he.step s1⟩
    refine ⟨θ, π, α2, ρ2, _, E, R2, w2, fun α3 H3 hi ρ3 R3 s3 w3 => ?_, he.step (s1.trans s2)⟩
    obtain ⟨d, z, hd, hz, w3⟩ := w3
    have r3 := l1 α3 H3 ρ3 R3 (s2.trans s3) _ hd
    unfold sliceD at hz
    split at hz
    · rename_i ds
      cases hz
      cases r3 with
      | val hv =>
        cases hv with
        | tup h1 h2 =>
          rename_i a vs
          refine .inl ⟨a, vs, rfl, ex_t hidS_ex h1, fun hwh => ?_, fun _ p hp => ?_⟩
          · have hl : ds.length = vs.length := (dpA_len h2).symm
            have e : cutG ds lo hi = ds := by
              unfold cutG
              rw [hl, hwh.1, hwh.2, List.drop_zero, Nat.sub_zero, ← hl, List.take_length]
            rw [e] at w3
            exact hq α3 _ H3 _ ρ3 R3 ((s1.trans s2).trans s3) (.tup h1 h2) w3
          · exact hq α3 _ _ _ ρ3 (R3.ext (Ex.new hp)) (((s1.trans s2).trans s3).trans (R3.stp (Ex.new hp))) (new_tup R3.live hp (dpA_cut h2)) w3
    · rename_i x
      split at hz
      · rename_i hs
        cases hz
        have ev := r3.str
        subst ev
        exact .inr ⟨x, rfl, hs, hq α3 _ H3 _ ρ3 R3 ((s1.trans s2).trans s3) (.str _) w3⟩
      · cases hz
    · cases hz
theorem s_slV {w : WL} {wl wh : WO} {R : RC} {E : EC} (h : w ρ (fun L ρ1 => wl ρ1 (fun lo ρ2 => wh ρ2 (fun hi ρ3 => ∃ d z, L ρ3 d ∧ sliceD d lo hi = some z ∧ R z ρ3) E) E) E) : wSlV w wl wh ρ R E := h
/-! tuple * int -/
omit [Tbs] in
theorem tuple_mul1 (l : Addr) (items : Array Value) (n : Nat) (sl : Array (Option Value)) (dd : Option Addr) (u : Tok) :
    Meets (Builtin.«tuple.__mul__» ⟨[.ref l, .int 1 u], []⟩) (fun _ R s => s.heap.get? l = some { cls := .type "tuple", dict := dd, data := .seq items n, slots := sl } ∧ R (.ok (.ret (Value.ref l))) s) :=
  .of_wp fun prog w A R s h => by
    obtain ⟨hp, g, d, tk, os⟩ := s
    obtain ⟨hl, h⟩ := h
    have f1 := AutoSeq1.idx_int
    have c1 : (items.isEmpty || (1 : Int) == 1) = true := by simp
    wp_walk using wpAny_loadPart' hl
    repeat (first
      | (refine wpAny_ite_true (decide_eq_true (by rw [c1])) ?_; wp_walk using wpAny_loadPart' hl)
      | (refine wpAny_ite_false (by decide) ?_; wp_walk using wpAny_loadPart' hl))
    exact ⟨_, rfl, h⟩
def rRepA (K : PySem.W.Frag) : R2 := fun x y H Q => ∃ l k xs, x = .ref l ∧ y = .int k ∧ SqT K H l xs ∧ xs ≠ [] ∧ 1 ≤ k ∧ k ≤ 1000 ∧ xs.length ≤ 1000 ∧ (k = 1 → Q (.ref l) H) ∧ (k ≠ 1 → ∀ p, H p = none → Q (.ref p) (upd H p (.tup (List.replicate k.toNat xs).flatten)))
omit [Tbs] in
theorem op_repA : OpR X (binaryOp .Mult) (rRepA X.K) := by
  intro pins s σ H x y v u Q I rx ry h
  obtain ⟨l, k, xs, rfl, rfl, hT, hne, h1, h2, hz, q1, q⟩ := h
  by_cases hk : k = 1
  · subst hk
    cases rx
    obtain ⟨t, rfl⟩ := ry
    obtain ⟨its, r, ⟨⟨cls, dd, data, sl⟩, ho, hc, n, hd⟩, hs⟩ := I.tuple hT
    simp only at hc hd
    subst hc hd
    exact wpAny_binaryOp_repeat_ref (T := "tuple") (U := "int") (by decide) ⟨_, ho, rfl⟩ (fun s' => typeIs_int s' 1 t) noFill_tuple_mul F.fills_int_mul F.slot_int_rmul repeat_tuple F.slot_int_index.lookup
      (call_meets F.slot_int_rmul (typeIs_int s 1 t) F.entry_int_rmul (F.args_int_rmul_2 _ _) (int_rmul_tuple 1 t l its.toArray n dd sl)
        ⟨ho, rfl, ⟨_, ho, rfl⟩, call_meets F.slot_tuple_mul ⟨_, ho, rfl⟩ F.entry_tuple_mul (F.args_tuple_mul_2 _ _) (tuple_mul1 l its.toArray n sl dd t) ⟨ho, ⟨.ref l, H, I, rfl, q1 rfl⟩⟩⟩)
  · exact op_repT pins s σ H _ _ v u Q I rx ry ⟨l, k, xs, rfl, rfl, hT, hne, by omega, h2, hz, q hk⟩
def fRepT (d e : D) (k : D → Prop) : Prop := match d, e with
  | .tuple ds, .int n => ds ≠ [] ∧ 1 ≤ n ∧ n ≤ 1000 ∧ ds.length ≤ 1000 ∧ k (.tuple (List.replicate n.toNat ds).flatten)
  | _, _ => False
theorem dpA_rep {G : Hp} {vs : List V} {ds : List D} (h : DpAll K G vs ds) : ∀ n : Nat, DpAll K G (List.replicate n vs).flatten (List.replicate n ds).flatten
  | 0 => .nil
  | n + 1 => by
    rw [List.replicate_succ, List.replicate_succ, List.flatten_cons, List.flatten_cons]
    exact dpA_app h (dpA_rep h n)
theorem sr_rep : SR K (rRepA K) fRepT := by
  intro S H x y d e Q R lv hx hy hf q
  unfold fRepT at hf
  split at hf
  · rename_i ds n
    obtain ⟨h0, h1, h2, h3, hr⟩ := hf
    have ey := hy.int
    subst ey
    cases hx with
    | val hv =>
      cases hv with
      | tup t1 t2 =>
        rename_i a vs
        have hl := dpA_len t2
        refine ⟨a, n, vs, rfl, rfl, ex_t hidS_ex t1, fun e => ?_, h1, h2, by omega, fun e1 => ?_, fun e1 p hp => ?_⟩
        · rw [e] at hl; exact h0 (List.eq_nil_of_length_eq_zero hl.symm)
        · subst e1
          have e : (List.replicate (Int.toNat 1) ds).flatten = ds := by
            show (List.replicate 1 ds).flatten = ds
            simp
          rw [e] at hr
          exact q _ H _ (Ex.refl _) (.tup t1 t2) hr
        · exact q _ _ _ (Ex.new hp) (new_tup lv hp (dpA_rep t2 _)) hr
  · exact hf.elim
theorem s_rep {ds : List D} {n : Int} {k : D → Prop} (h : k (.tuple (List.replicate n.toNat ds).flatten)) (h0 : ds ≠ []) (h1 : 1 ≤ n) (h2 : n ≤ 1000) (h3 : ds.length ≤ 1000) : fRepT (.tuple ds) (.int n) k := ⟨h0, h1, h2, h3, h⟩
/-! a call without arguments -/
theorem dCallZ {k : Nat} {f : Addr} {fd : FuncData} {ps : List Str} {S : WF} {x : Str} {q pos : Pos} (F : FnOk X.prog X.w X.K X.mg X.base (L2N.CX X.prog X.w) k f fd ps (toSp X.K 0 S)) (hr : Room k X.A) (hg : Gl X x) (hm : X.mg x = some (.ref f)) (hk : PySem.W.keepIn X.K (.ref f) = true) (hb : Binds X.K fd ps [])
    (hdb : (x == ("__debug__" : Str)) = false := by decide) : PE X (.Call (.Name x q) [] [] pos) (cE X.K W (wCall0 S wmNil)) :=
  peI (pe_call0 F hr hg hm hk hb .nil passLN hdb) (can_call0 (fun σ H Q ⟨θ, π, α, ρ, R, E, hR, hw, hq, he⟩ => hq α [] H [] ρ hR (Stp.refl ..) .nil rfl hw))
end
end Den

namespace Den
variable [Tbs]
open PySem L2 Evl PySem.Spec PyProof.Rows
open Classical
section
variable {K : PySem.W.Frag} {W : WX} {X : Cx} {θ : Addr → Prop} {π α : Nat → Option Addr} {σ : L2.St} {H : Hp} {ρ : En} {p : Addr} {o : HO}
/-! xs.pop(), xs a list of one's own: a value, and the list is shorter -/
def wPop (j : Nat) : WE := fun ρ R _ => ownd ρ j fun ds f => ∃ d, ds[ds.length - 1]? = some d ∧ R d (f ds.dropLast)
theorem dpA_dropLast {G : Hp} {vs : List V} {ds : List D} (h : DpAll K G vs ds) : DpAll K G vs.dropLast ds.dropLast := by
  rw [List.dropLast_eq_take, List.dropLast_eq_take, dpA_len h]
  exact dpA_take _ h
theorem dPop {e : Expr} {j : Nat} (h : PE X e (tBM0 K "list" rPop (tVar j))) : PE X e (cE K W (wPop j)) := peI h fun σ H Q ⟨θ, π, α, ρ, R, E, hR, hw, hq, he⟩ => by
  obtain ⟨a, vs, ds, f, hs, h1, hd, ⟨d, hd1, hn⟩, hc⟩ := hR.change hw
  obtain ⟨v, q1, q2⟩ := dpA_get hd hd1
  obtain ⟨r2, s2⟩ := hc vs.dropLast ds.dropLast (dpA_dropLast hd)
  exact ⟨.ref a, hs, .inl ⟨rfl, vs, .inl (.inl h1)⟩, a, vs, v, rfl, rfl, h1, by rw [dpA_len hd]; exact q1, hq α v _ d _ r2 s2 (dp_mono s2.1 q2) hn⟩
theorem s_pop {j : Nat} {R : RC} {E : EC} (h : ownd ρ j fun ds f => ∃ d, ds[ds.length - 1]? = some d ∧ R d (f ds.dropLast)) : wPop j ρ R E := h
end
end Den

namespace Den
variable [Tbs]
open PySem L2 Evl PySem.Spec PyProof.Rows
open Classical
section
variable {K : PySem.W.Frag} {W : WX} {X : Cx} {θ : Addr → Prop} {π α : Nat → Option Addr} {σ : L2.St} {H : Hp} {ρ : En} {p : Addr} {o : HO}
/-! name op= e, both ints -/
def wAug (i : Nat) (g : Int → Int → Int) (w : WE) : WS := fun B ρ => ∃ a, rd ρ i = some (.int a) ∧ w ρ (fun d ρ' => ∃ b, d = .int b ∧ asgV i (.va (.int (g a b))) ρ' B.nx) B.rs
theorem dAug {s : Stmt} {i : Nat} {g : Int → Int → Int} {w : WE} (h : PS X s (tAug i (cE K W w) (ipI g))) : PS X s (cS K W (wAug i g w)) := psI h fun D σ H ⟨θ, π, α, ρ, B, hR, hw, hf⟩ => by
  obtain ⟨a, ha, hw⟩ := hw
  obtain ⟨v, h1, h2⟩ := hR.rd ha
  have := h2.int
  subst this
  refine ⟨_, h1, θ, π, α, ρ, _, _, hR, hw, fun α1 v H1 d ρ1 R1 s1 p1 w1 => ?_, hf.exi⟩
  obtain ⟨b, rfl, w1⟩ := w1
  cases p1
  refine ⟨a, b, rfl, rfl, ?_⟩
  obtain ⟨a1, a2, a3⟩ := asgV_of w1
  obtain ⟨α', r, s⟩ := R1.put a1 a2 (.int (g a b))
  exact hf.nx α' _ H1 _ r (s1.trans s) a3
variable {nx : En → Prop} {rt : D → En → Prop} {rf : List D → En → Prop} {bk ct : En → Prop} {rs : Addr → En → Prop}
theorem s_aug {i : Nat} {g : Int → Int → Int} {w : WE} (a : Int) (h1 : rd ρ i = some (.int a)) (h : w ρ (fun d ρ' => ∃ b, d = .int b ∧ asgV i (.va (.int (g a b))) ρ' nx) rs) : wAug i g w ⟨nx, rt, rf, bk, ct, rs⟩ ρ := ⟨a, h1, h⟩
theorem s_augI {i : Nat} {x b : Int} {ρ' : En} {nx : En → Prop} (h : asgV i (.va (.int x)) ρ' nx) (e : b = x) : asgV i (.va (.int b)) ρ' nx := by rw [e]; exact h
end
end Den

namespace RT
open PySem PySem.Spec PyProof.Rows
section
variable {prog : Program} {w : World} {A : Around} {E : Value → Shared → Prop} {s : Shared}
theorem extend_rev {R : Result → Shared → Prop} {it l : Addr} {items : Array Value} (hh : A.handled = none) (hit : s.heap.IsRevIter it l ((items.size : Int) - 1)) (hl : s.heap.IsList l items) (hne : l ≠ it) (hn : items.size ≤ sizeLine)
    (S : Addr) (res : Value) (c₀ : Nat) (hSi : S ≠ it) (hSl : S ≠ l) (hS : s.heap.get? S = some { cls := .type "list", data := .seq #[] c₀ })
    (hR : ∀ (h' : Heap) (tk : Nat) (acc' : Array Value) (c' : Nat), (∀ b o, b ≠ S → b ≠ it → s.heap.get? b = some o → h'.get? b = some o) → h'.get? S = some { cls := .type "list", dict := none, data := .seq acc' c', slots := #[] } →
      ItemsOf (fun i v => items[items.size - 1 - i]? = some v) acc' items.size → R (.ok (.ret res)) { s with heap := h', toks := tk }) :
    wpAny (model prog w) A.in1 (Builtin.List.listExtendWith (.ref S) (.ref it) res)
      (fun fin s' => match fin with | .done f => R (.ok f) s' | .again c' => c'.quiet = true ∧ codeAny (model prog w) A c' R s') (fun e s' => R (.error e) s') s := by
  have W := (Walks.listRev (prog := prog) (w := w) (A := A.in1) hh it l hne items).toS
  have hSf : S ∉ [it, l] := by simp only [List.mem_cons, List.not_mem_nil, or_false, not_or]; exact ⟨hSi, hSl⟩
  have hT : s.TypeIs (.ref it) "list_reverseiterator" := Heap.IsRevIter.typeIs (s := s) hit
  have h1 : Builtin.List.listSameRef (.ref S) (.ref it) = false := by simp [Builtin.List.listSameRef, hSi]
  unfold Builtin.List.listExtendWith
  refine wpAny_bind (wpAny_typeOf hT ?_)
  rw [if_neg (by rw [h1]; decide)]
  refine wpAny_bind (wpAny_pyIter_revIter (s := s) hit ?_)
  refine wpAny_bind (wpAny_holding ?_)
  unfold Builtin.List.listLengthHint
  refine wpAny_bind (wpAny_specialOf hT nolen_lri ?_)
  show wpAny _ A.in1 (specialOf (Value.ref it) (Str.ofString "__length_hint__") >>= _) _ _ _
  refine wpAny_bind (wpAny_specialOf hT hint_lri ?_)
  generalize hid : ("list_reverseiterator.__length_hint__" : String) = id0
  wp_delta
  rw [show splitId id0 = some ("list_reverseiterator", "__length_hint__") from by subst hid; decide +kernel]
  subst hid
  refine wpAny_bind (wpAny_isInstance (b := true) hT (by rw [isSubtype_type]; kernel_rfl) ?_)
  refine wpAny_pure ?_
  rw [if_neg (by decide)]
  have e0 : ((items.size : Nat) : Int) - 1 - ((0 : Nat) : Int) = (items.size : Int) - 1 := by omega
  refine wpAny_pure ⟨plainId_quiet F.plain_extend_loop _, codeAny_extend_loopS W hn _ hSf _ items.size 0 _ _ _ rfl (Nat.zero_le _) ⟨Nat.zero_le _, by rw [e0]; exact hit, hl⟩ hS (ItemsOf.nil _) fun s' acc' c' hm hS' hacc => ?_⟩
  rw [Moved.eq_with hm]
  refine hR s'.heap s'.toks acc' c' (fun b o hb hi e => hm.heap b o (fun hmem => ?_) e) hS' hacc
  rcases List.mem_cons.mp hmem with e' | hmem
  · exact hb e'
  · exact hi (List.mem_singleton.mp hmem)
theorem list_init_rev {R : Result → Shared → Prop} {it l : Addr} {items : Array Value} (hh : A.handled = none) (hit : s.heap.IsRevIter it l ((items.size : Int) - 1)) (hl : s.heap.IsList l items) (hne : l ≠ it) (hn : items.size ≤ sizeLine)
    (S : Addr) (hSi : S ≠ it) (hSl : S ≠ l) (hS : s.heap.get? S = some { cls := .type "list", data := .seq #[] })
    (hR : ∀ (h' : Heap) (tk : Nat) (acc' : Array Value) (c' : Nat), (∀ b o, b ≠ S → b ≠ it → s.heap.get? b = some o → h'.get? b = some o) → h'.get? S = some { cls := .type "list", dict := none, data := .seq acc' c', slots := #[] } →
      ItemsOf (fun i v => items[items.size - 1 - i]? = some v) acc' items.size → R (.ok (.ret .none)) { s with heap := h', toks := tk }) :
    wpAny (model prog w) A.in1 (Builtin.«list.__init__» ⟨[.ref S, .ref it], []⟩)
      (fun fin s' => match fin with | .done f => R (.ok f) s' | .again c' => c'.quiet = true ∧ codeAny (model prog w) A c' R s') (fun e s' => R (.error e) s') s := by
  show wpAny _ _ (do let old ← Builtin.List.listItems (.ref S); Builtin.List.listUpdate (.ref S) (fun _ => #[]); letGo old.toList.reverse; Builtin.List.listExtendWith (.ref S) (.ref it) .none) _ _ s
  refine wpAny_bind ?_
  unfold Builtin.List.listItems
  refine wpAny_bind (wpAny_seqItems hS rfl (wpAny_pure ?_))
  show wpAny _ _ (updateSeq S (fun _ => #[]) >>= fun _ => letGo (#[] : Array Value).toList.reverse >>= fun _ => Builtin.List.listExtendWith (.ref S) (.ref it) .none) _ _ s
  refine wpAny_bind (wpAny_updateSeq hS rfl ?_)
  have hS₂ := Heap.get?_update_self (Obj.mapSeq (fun _ => (#[] : Array Value))) hS rfl
  have oth : ∀ b o, b ≠ S → s.heap.get? b = some o → (s.heap.update S (Obj.mapSeq (fun _ => (#[] : Array Value)))).get? b = some o :=
    fun b o hb e => (Heap.get?_update_other _ _ (Ne.symm hb)).trans e
  refine wpAny_bind (wpAny_letGo ?_)
  obtain ⟨oi, hoi, hc1, hd1⟩ := id hit
  obtain ⟨ol, hol, hc2⟩ := id hl
  refine extend_rev hh ⟨oi, oth it _ (Ne.symm hSi) hoi, hc1, hd1⟩ ⟨ol, oth l _ (Ne.symm hSl) hol, hc2⟩ hne hn S .none _ hSi hSl hS₂ fun h' tk acc' c' hk hS' hacc => ?_
  exact hR h' tk acc' c' (fun b o hb hi e => hk b o hb hi (oth b o hb e)) hS' hacc
theorem call_list_rev {Q : Value → Shared → Prop} {it l : Addr} {items : Array Value} (hh : A.handled = none) (hit : s.heap.IsRevIter it l ((items.size : Int) - 1)) (hl : s.heap.IsList l items) (hne : l ≠ it) (hn : items.size ≤ sizeLine)
    (hQ : ∀ (h' : Heap) (tk : Nat) (acc' : Array Value) (c' : Nat), (∀ b o, b ≠ it → s.heap.get? b = some o → h'.get? b = some o) →
      h'.get? s.heap.objs.size = some { cls := .type "list", dict := none, data := .seq acc' c', slots := #[] } → ItemsOf (fun i v => items[items.size - 1 - i]? = some v) acc' items.size → Q (.ref s.heap.objs.size) { s with heap := h', toks := tk }) :
    wpAny (model prog w) A (call (.type "list") [.ref it]) Q E s := by
  refine callType_codes (Q₁ := fun obj s₁ => obj = .ref s.heap.objs.size ∧ s₁ = { s with heap := s.heap.push { cls := .type "list", data := .seq #[] } }) F.called_list (F.typeCall_list_1 _) F.entry_list_init
    (code_list_new _ ⟨rfl, rfl⟩) fun obj s₁ h₁ => ?_
  obtain ⟨rfl, rfl⟩ := h₁
  have hS : (s.heap.push { cls := .type "list", data := .seq #[] }).get? s.heap.objs.size = some { cls := .type "list", data := .seq #[] } := Heap.get?_push_size _ rfl
  obtain ⟨oi, hoi, hc1⟩ := id hit
  obtain ⟨ol, hol, hc2⟩ := id hl
  refine ⟨⟨_, hS, rfl⟩, F.args_list_init_2 _ _, list_init_rev (A := A.in1) hh ⟨oi, Heap.get?_push_of_some _ hoi, hc1⟩ ⟨ol, Heap.get?_push_of_some _ hol, hc2⟩ hne hn _ (Nat.ne_of_gt (Heap.lt_size hoi)) (Nat.ne_of_gt (Heap.lt_size hol)) hS fun h' tk acc' c' hk hS' hacc => ?_⟩
  exact ⟨rfl, hQ h' tk acc' c' (fun b o hi e => hk b o (Nat.ne_of_lt (Heap.lt_size e)) hi (Heap.get?_push_of_some _ e)) hS' hacc⟩
end
end RT
namespace L2
open PySem PySem.Spec PyProof.Rows RT
/-- list(reversed(x)), x a list: a new list -/
def tLstRev (K : PySem.W.Frag) (te : TE) : TE := fun σ H Q => te σ H fun v H1 => ∃ (a : Addr) (xs : List V), v = .ref a ∧ SqL K H1 a xs ∧ ∀ q, H1 q = none → Q (.ref q) (upd H1 q (.lst xs.reverse))
section
variable {X : Cx}
theorem pe_lstRev {e : Expr} {te : TE} {p p2 pos pos2 : Pos} (hc : X.calm = true) (hg : Gl X "list") (hm : X.mg "list" = none) (hg2 : Gl X "reversed") (hm2 : X.mg "reversed" = none) (he : PE X e te)
    (hs : starEach [e] X.env = (false, eval e X.env) :: starEach [] X.env := by rfl)
    (hs2 : starEach [.Call (.Name "reversed" p2) [e] [] pos2] X.env = (false, eval (.Call (.Name "reversed" p2) [e] [] pos2) X.env) :: starEach [] X.env := by rfl) :
    PE X (.Call (.Name "list" p) [.Call (.Name "reversed" p2) [e] [] pos2] [] pos) (tLstRev X.K te) := by
  refine ⟨fun pins s σ H Q I h => ?_⟩
  refine Call_ (ld_blt I hg hm boot_list (PyProof.Rows.callWith_type1 (args_cons (Call_ (ld_blt I hg2 hm2 PyProof.Rows.boot_reversed (PyProof.Rows.callWith_type1 (args_cons (thn (he.run pins s σ H _ I h) fun u s1 ⟨v, H1, I1, r1, q1⟩ => args_nil ?_) hs) hs rfl))) hs2) hs2 rfl))
  obtain ⟨a, xs, ev, hq, q⟩ := q1
  subst ev
  obtain rfl : u = Value.ref a := r1
  obtain ⟨its, rv, p', hz⟩ := I1.list hq
  refine call_reversed_list p'.isList (args_nil ?_)
  have k0 : ∀ b o, s1.heap.get? b = some o → (s1.heap.push (revObj a ((its.toArray.size : Int) - 1))).get? b = some o := fun b o e => Heap.get?_push_of_some _ e
  have I2 : Inv X pins σ H1 { s1 with heap := s1.heap.push (revObj a ((its.toArray.size : Int) - 1)) } := I1.kept (t' := s1.toks) k0
  have hl := p'.isList
  obtain ⟨ol, hol, _⟩ := id hl
  have hne : a ≠ s1.heap.objs.size := Nat.ne_of_lt (Heap.lt_size hol)
  have hn : its.toArray.size ≤ sizeLine := by rw [List.size_toArray, ← rv.length]; exact hz
  refine call_list_rev (s := { s1 with heap := s1.heap.push (revObj a ((its.toArray.size : Int) - 1)) }) (I1.ok.hd hc) ⟨_, Heap.get?_push_size _ rfl, rfl, rfl⟩ (hl.push _) hne hn fun h' tk acc c' hk e' hi => ?_
  have hsz : (s1.heap.push (revObj a ((its.toArray.size : Int) - 1))).objs.size = s1.heap.objs.size + 1 := by simp [Heap.push]
  have hfr : H1 (s1.heap.push (revObj a ((its.toArray.size : Int) - 1))).objs.size = none := I2.hok.fresh (Nat.le_refl _)
  have hneS : s1.heap.objs.size ≠ (s1.heap.push (revObj a ((its.toArray.size : Int) - 1))).objs.size := by rw [hsz]; omega
  obtain ⟨f0, f1, f2, f3, f4, f5⟩ := I1.fpOk (H' := upd H1 (s1.heap.push (revObj a ((its.toArray.size : Int) - 1))).objs.size (.lst xs.reverse)) (b := s1.heap.objs.size) (Nat.le_refl _) (by rw [upd_ne hneS]; exact I1.hok.fresh (Nat.le_refl _))
  have I3 : Inv X pins σ (upd H1 (s1.heap.push (revObj a ((its.toArray.size : Int) - 1))).objs.size (.lst xs.reverse)) { s1 with heap := (s1.heap.push (revObj a ((its.toArray.size : Int) - 1))).push { cls := .type "list", dict := none, data := .seq acc c', slots := #[] } } :=
    I2.laid (t' := s1.toks) (fun c o e => Heap.get?_push_of_some _ e) (Nat.le_refl _) (show ObjOk X.prog X.w _ _ _ (.lst xs.reverse) from ⟨by rw [List.length_reverse]; exact hz, acc.toList, c', vals_rev rv hi, by rw [Array.toArray_toList]; exact Heap.get?_push_size _ rfl⟩)
  have I4 : Inv X pins σ (upd H1 (s1.heap.push (revObj a ((its.toArray.size : Int) - 1))).objs.size (.lst xs.reverse)) { s1 with heap := h', toks := tk } := by
    have I5 := I3.turned (h' := h') (t' := tk) (it := s1.heap.objs.size) (fun b o hb e => by
      rcases Heap.get?_push_cases e with ⟨rfl, rfl⟩ | e
      · exact e'
      · exact hk b o hb e) f0 f1 f3 f4 f5
    exact I5
  exact ⟨.ref _, _, I4, rfl, q _ hfr⟩
end
end L2
namespace Den
variable [Tbs]
open PySem L2 Evl PySem.Spec PyProof.Rows
open Classical
section
variable {K : PySem.W.Frag} {W : WX} {X : Cx} {θ : Addr → Prop} {π α : Nat → Option Addr} {σ : L2.St} {H : Hp} {ρ : En} {p : Addr} {o : HO}
/-! list(reversed(x)): a new list -/
def wRevL (w : WL) : WA := fun ρ R E => w ρ (fun L ρ1 => ∃ ds, L ρ1 (.list ds) ∧ R ds.reverse ρ1) E
theorem dpA_reverse {G : Hp} : ∀ {vs : List V} {ds : List D}, DpAll K G vs ds → DpAll K G vs.reverse ds.reverse
  | _, _, .nil => .nil
  | _, _, .cons h hs => by
    rw [List.reverse_cons, List.reverse_cons]
    exact dpA_app (dpA_reverse hs) (.cons h .nil)
theorem dRevL {e a : Expr} {w : WL} (h : ∀ ta, PE X a ta → PE X e (tLstRev X.K ta)) (ha : PE X a (cL X.K W w)) : PE X e (cF X.K W (wRevL w)) :=
  peI (h _ ha) fun σ H Q ⟨θ, π, α, ρ, R, E, hR, hw, hq, he⟩ => by
    refine ⟨θ, π, α, ρ, _, E, hR, hw, fun α1 v1 H1 L1 ρ1 R1 s1 l1 w1 => ?_, he⟩
    obtain ⟨ds, hd, hk⟩ := w1
    obtain ⟨a, vs, rfl, h1, h2⟩ := (l1 α1 H1 ρ1 R1 (Stp.refl ..) _ hd).lst
    refine ⟨a, vs, rfl, h1, fun p hp => ?_⟩
    have e := hid_new (θ := θ) (α := α1) (o := .lst vs.reverse) hp
    exact hq α1 p _ _ _ ρ1 (R1.hideNew hp) ⟨by rw [e]; exact s1.1, fun b hb => (s1.2 b hb).trans ((R1.stpNew hp).2 b hb)⟩ (fun z => R1.lv p z hp) upd_same (by rw [e]; exact dpA_reverse h2) hk
theorem s_revL {w : WL} {A : List D → En → Prop} {E : EC} (h : w ρ (fun L ρ1 => ∃ ds, L ρ1 (.list ds) ∧ A ds.reverse ρ1) E) : wRevL w ρ A E := h
end
end Den

set_option maxHeartbeats 4000000
namespace L2
open PySem PySem.Spec PyProof.Rows HT
section
variable {prog : Program} {w : World} {A : Around} {E : Value → Shared → Prop} {s : Shared}
/-- t[::-1] -/
theorem getItem_tuple_rev {t sl : Addr} {items : Array Value} {vs : Value} {Q : Value → Shared → Prop} (ht : IsTup s.heap t items) (hs : s.heap.IsSliceOf sl .none .none vs) (ps : IsPart vs (some (-1))) (hz : items.size ≤ sizeLine)
    (h : Q (.ref s.heap.objs.size) { s with heap := s.heap.push { cls := .type "tuple", data := .seq items.toList.reverse.toArray } }) : wpAny (model prog w) A (getItem (.ref t) (.ref sl)) Q E s := by
  obtain ⟨os, hos, hcs, hds⟩ := id hs
  have hTs : s.TypeIs (.ref sl) "slice" := ⟨os, hos, hcs⟩
  unfold getItem
  try with_reducible refine wpAny_holding ?_
  first | refine wpAny_bind (wpAny_pure ?_) | skip
  refine wpAny_bind (wpAny_sequenceKey ht.typeIs (by decide) ?_)
  refine wpAny_bind (wpAny_callSpecial?_slot (name := Str.ofString "__getitem__") ht.typeIs PyProof.Rows.slot_tuple_getitem
    (wpAny_call_entry PyProof.Rows.slot_tuple_getitem ht.typeIs entry_tuple_getitem ?_ (args_tuple_getitem _ _)))
  show wpAny _ _ (Builtin.Tuple.tupleItemsOf (.ref t) >>= _) _ _ s
  refine wpAny_bind (tupleItemsOf_ ht ?_)
  refine wpAny_bind (wpAny_typeOf hTs ?_)
  rw [if_pos (by decide)]
  refine wpAny_bind (m := Builtin.Slice.sliceApplied _ _) (Q := _) ?_
  unfold Builtin.Slice.sliceApplied Builtin.Slice.sliceFields
  refine wpAny_bind (wpAny_bind (wpAny_field hos hds (x := .none) rfl (wpAny_bind (wpAny_field hos hds (x := .none) rfl (wpAny_bind (wpAny_field hos hds (x := vs) rfl (wpAny_pure ?_)))))))
  show wpAny _ _ (Builtin.Slice.slicePartIndex vs >>= _) _ _ s
  refine wpAny_bind (slicePart_ ps ?_)
  show wpAny _ _ (if ((-1 : Int) == 0) = true then _ else _) _ _ s
  rw [if_neg (by decide)]
  refine wpAny_bind (slicePart_none (wpAny_bind (slicePart_none (wpAny_bind (wpAny_pure ?_)))))
  have ea : Builtin.Slice.sliceAdjust none none (-1) (items.size : Int) = ((items.size : Int) - 1, -1) := by
    unfold Builtin.Slice.sliceAdjust
    rfl
  have ep : Builtin.Slice.slicePlaces ((items.size : Int) - 1) (-1) (-1) = items.size := by
    unfold Builtin.Slice.slicePlaces
    rw [if_neg (by decide)]
    split
    · rw [show (- -1 : Int) = 1 by decide, Int.ediv_one]; omega
    · omega
  show wpAny _ _ (match Builtin.Slice.sliceAdjust none none (-1) (items.size : Int) with | (lo, hi) => pure (lo, (-1 : Int), Builtin.Slice.slicePlaces lo hi (-1))) _ _ s
  rw [ea]
  show wpAny _ _ (pure ((items.size : Int) - 1, (-1 : Int), Builtin.Slice.slicePlaces ((items.size : Int) - 1) (-1) (-1))) _ _ s
  rw [ep]
  refine wpAny_pure ?_
  have hno : ¬ (((items.size : Int) - 1 == 0 && (-1 : Int) == 1 && items.size == items.size) = true) := by simp
  show wpAny _ _ (if ((items.size : Int) - 1 == 0 && (-1 : Int) == 1 && items.size == items.size) = true then _ else _) _ _ s
  rw [if_neg hno]
  have epk : ((List.range items.size).filterMap fun (k : Nat) => items[((items.size : Int) - 1 + (k : Int) * (-1)).toNat]?) = items.toList.reverse := by
    have e1 : ((List.range items.size).filterMap fun (k : Nat) => items[((items.size : Int) - 1 + (k : Int) * (-1)).toNat]?) = ((List.range items.size).map fun k => items.size - 1 - k).filterMap (items[·]?) := by
      rw [List.filterMap_map]
      have gen : ∀ l : List Nat, (∀ k ∈ l, k < items.size) → l.filterMap (fun (k : Nat) => items[((items.size : Int) - 1 + (k : Int) * (-1)).toNat]?) = l.filterMap ((fun x => items[x]?) ∘ fun k => items.size - 1 - k) := by
        intro l
        induction l with
        | nil => intro _; rfl
        | cons k l ih =>
          intro h
          have hk := h k List.mem_cons_self
          have e2 : ((items.size : Int) - 1 + (k : Int) * (-1)).toNat = items.size - 1 - k := by omega
          rw [List.filterMap_cons, List.filterMap_cons, ih fun j m => h j (List.mem_cons_of_mem _ m), e2]
          rfl
      exact gen _ fun k hk => List.mem_range.mp hk
    rw [e1, PySem.W.krv_range, List.filterMap_reverse, PySem.W.krv_all]
  rw [epk]
  refine wpAny_bind ?_
  unfold Builtin.Tuple.tupleExact
  refine wpAny_newObj_type ?_ (by show items.toList.reverse.toArray.size ≤ sizeLine; simpa using hz)
  exact wpAny_pure ⟨_, rfl, wpAny_pure h⟩
end
/-- t[::-1], a tuple -/
def tRevT (K : PySem.W.Frag) (te : TE) : TE := fun σ H Q => te σ H fun x H1 => ∃ a xs, x = .ref a ∧ SqT K H1 a xs ∧ ∀ p, H1 p = none → Q (.ref p) (upd H1 p (.tup xs.reverse))
section
variable {X : Cx}
theorem pe_revT {e : Expr} {te : TE} {k : Nat} {p1 p2 p3 pos : Pos} (he : PE X e te) : PE X (.Subscript e (.Slice none none (some (.UnaryOp .USub (.Constant (.int 1) k p1) p2)) p3) pos) (tRevT X.K te) := by
  refine ⟨fun pins s σ H Q I h => ?_⟩
  refine Subscript_ (thn (he.run pins s σ H _ I h) fun v s1 ⟨x, H1, I1, r1, q1⟩ => ?_)
  obtain ⟨a, xs, ex, hx, q⟩ := q1
  subst ex
  cases r1
  have hst : PO X (some (.UnaryOp .USub (.Constant (.int 1) k p1) p2)) (tPart (tUn (rU fun i => .int (-i)) (tC (.int 1)))) := po_some (pe_un un_neg pe_int)
  refine wpAny_Slice (thn (po_none.run pins s1 σ H1 (fun o H2 => o = none ∧ H2 = H1) I1 ⟨rfl, rfl⟩) fun vl s2 ⟨l, H2, I2, pl, el, e2⟩ => ?_)
  subst el e2
  refine thn (po_none.run pins s2 σ H2 (fun o H3 => o = none ∧ H3 = H2) I2 ⟨rfl, rfl⟩) fun vu s3 ⟨u, H3, I3, pu, eu, e3⟩ => ?_
  subst eu e3
  refine thn (hst.run pins s3 σ H3 (fun o H4 => o = some (-1) ∧ H4 = H3) I3 ⟨1, rfl, -1, rfl, rfl, rfl⟩) fun vs s4 ⟨o, H4, I4, ps, eo, e4⟩ => ?_
  subst eo e4
  have I5 : Inv X pins σ H4 { s4 with heap := s4.heap.push { cls := .type "slice", data := .fields #[vl, vu, vs] } } := I4.kept (t' := s4.toks) fun b ob q => Heap.get?_push_of_some _ q
  obtain ⟨its, r, ht, hz⟩ := I5.tuple hx
  have hlen := r.length
  cases pl
  cases pu
  show wpAny (model X.prog X.w) X.A (subscriptTail e (.Slice none none (some (.UnaryOp .USub (.Constant (.int 1) k p1) p2)) p3) (.ref a) (.ref s4.heap.objs.size)) (EP X pins σ Q) X.xe { s4 with heap := s4.heap.push { cls := .type "slice", data := .fields #[.none, .none, vs] } }
  refine tail_any (ops := [.ref a, .ref s4.heap.objs.size]) ht.typeIs (PyProof.Rows.slot_tuple_getitem.lookup) ?_ (by with_unfolding_all rfl)
  refine getItem_tuple_rev ht (Heap.IsSliceOf.new _ .none .none vs) ps (by rw [List.size_toArray]; omega) ?_
  refine ⟨.ref _, _, I5.laid (t' := s4.toks) (o := .tup xs.reverse) (fun b ob q => Heap.get?_push_of_some _ q) (Nat.le_refl _) ?_, rfl, q _ (I5.hok.fresh (Nat.le_refl _))⟩
  exact ⟨by rw [List.length_reverse]; exact hz, its.reverse, r.reverse, by
    have e : its.toArray.toList.reverse.toArray = its.reverse.toArray := by simp
    rw [← e]
    exact IsTup.new _ _⟩
end
end L2
namespace Den
variable [Tbs]
open PySem L2 Evl PySem.Spec PyProof.Rows
open Classical
section
variable {K : PySem.W.Frag} {W : WX} {X : Cx} {θ : Addr → Prop} {π α : Nat → Option Addr} {σ : L2.St} {H : Hp} {ρ : En} {p : Addr} {o : HO}
/-! the signs of a text -/
def chD (x : Str) : List D := x.cps.toList.map fun c => .str ⟨#[c]⟩
theorem walks_str {x : Str} {G : Hp} : Walks K (Its x) G (chD x) := fun S2 H2 i hl hx => by
  refine ⟨fun e => ?_, fun d hi => ?_⟩
  · show x.cps.size ≤ i
    rw [e]; simp [chD]
  · unfold chD at hi
    rw [List.getElem?_map] at hi
    obtain ⟨c, hc, rfl⟩ := Option.map_eq_some_iff.mp hi
    rw [Array.getElem?_toList] at hc
    obtain ⟨h1, _⟩ := Array.getElem?_eq_some_iff.mp hc
    refine ⟨h1, fun y H3 ⟨e, c', q, z⟩ => ?_⟩
    subst e
    rw [hc] at q
    cases q
    subst z
    exact ⟨Ex.refl _, .str _⟩
/-- over a list, a tuple, a text -/
def iLTS (K : PySem.W.Frag) (tl : TE) : TI := fun σ H R => tl σ H fun x H1 => (∃ a, x = .ref a ∧ (((∃ xs, SqL K H1 a xs) ∧ R (Itl K a) H1) ∨ ((∃ xs, SqT K H1 a xs) ∧ R (Itt K a) H1))) ∨ ∃ z, x = .str z ∧ R (Its z) H1
theorem pi_lts {tg l : Expr} {tl : TE} (hl : PE X l tl) : PI X tg l (iLTS X.K tl) := by
  refine ⟨fun pins s σ H R I h => ?_⟩
  refine thn (hl.run pins s σ H _ I h) fun v s1 ⟨x, H1, I1, r1, q1⟩ => ?_
  rcases q1 with ⟨a, e, q1⟩ | ⟨x, e, q⟩
  · subst e
    cases r1
    rcases q1 with ⟨⟨xs, hq⟩, q⟩ | ⟨⟨xs, hq⟩, q⟩
    · obtain ⟨its, rv, p, hz⟩ := I1.list hq
      refine wpAny_pyIter_list p.isList ?_
      refine ⟨s1.heap.objs.size, [s1.heap.objs.size], _, _, H1, rfl, I1.kept (t' := s1.toks) fun b o e => Heap.get?_push_of_some _ e, turn_list a _, ⟨_, Heap.get?_push_size _ rfl, rfl, rfl⟩, fun b hb => ?_, q⟩
      have e : b = s1.heap.objs.size := by simpa using hb
      subst e
      exact I1.fpOk (Nat.le_refl _) (I1.hok.fresh (Nat.le_refl _))
    · obtain ⟨its, rv, p, hz⟩ := I1.tuple hq
      refine wpAny_pyIter_tuple (show s1.heap.IsTuple a its.toArray from p) ?_
      refine ⟨s1.heap.objs.size, [s1.heap.objs.size], _, _, H1, rfl, I1.kept (t' := s1.toks) fun b o e => Heap.get?_push_of_some _ e, turn_tuple a _, ⟨_, Heap.get?_push_size _ rfl, rfl, rfl⟩, fun b hb => ?_, q⟩
      have e : b = s1.heap.objs.size := by simpa using hb
      subst e
      exact I1.fpOk (Nat.le_refl _) (I1.hok.fresh (Nat.le_refl _))
  · subst e
    obtain ⟨t, rfl⟩ := r1
    cases ha : x.cps.all (· < 128)
    · exact wpAny_pyIter_wide ha (pi_one (tk := s1.toks) I1 _ (turn_str _ x t "str_iterator" (.inr rfl)) ⟨_, Heap.get?_push_size _ rfl, rfl, rfl⟩ q)
    · exact wpAny_pyIter_ascii ha (pi_one (tk := s1.toks) I1 _ (turn_str _ x t "str_ascii_iterator" (.inl rfl)) ⟨_, Heap.get?_push_size _ rfl, rfl, rfl⟩ q)
def itD : D → Option (List D)
  | .list ds => some ds
  | .tuple ds => some ds
  | .str x => some (chD x)
  | _ => none
def wiU (w : WE) : WI := fun ρ R E => w ρ (fun d ρ' => ∃ ds, itD d = some ds ∧ R ds ρ') E
theorem diU {tg e : Expr} {w : WE} (h : PI X tg e (iLTS K (cE K W w))) : PI X tg e (cI K W (wiU w)) := piI h fun σ H Q ⟨θ, π, α, ρ, R, E, hR, hw, hq, he⟩ =>
  ⟨θ, π, α, ρ, _, E, hR, hw, fun α1 v H1 d ρ1 R1 s1 p1 w1 => by
    obtain ⟨ds, e, w1⟩ := w1
    cases p1 with
    | lst h1 hs => cases e; exact .inl ⟨_, rfl, .inl ⟨⟨_, ex_l hidS_ex h1⟩, hq α1 _ H1 _ ρ1 R1 s1 (walks_list h1 hs) w1⟩⟩
    | tup h1 hs => cases e; exact .inl ⟨_, rfl, .inr ⟨⟨_, ex_t hidS_ex h1⟩, hq α1 _ H1 _ ρ1 R1 s1 (walks_tup h1 hs) w1⟩⟩
    | str x => cases e; exact .inr ⟨_, rfl, hq α1 _ H1 _ ρ1 R1 s1 walks_str w1⟩
    | non => cases e
    | bl b => cases e
    | int i => (cases e), he⟩
theorem s_iU {w : WE} {G : List D → En → Prop} {E : EC} (h : w ρ (fun d ρ' => ∃ ds, itD d = some ds ∧ G ds ρ') E) : wiU w ρ G E := h
/-! a sign in a text -/
def occS (i j : Str) : Bool := !(Builtin.Str.occurrences j i 0 j.length 1).isEmpty
def fInS (neg : Bool) (d e : D) (k : D → Prop) : Prop := match d, e with
  | .str i, .str j => k (.bool (if neg then !occS i j else occS i j))
  | _, _ => False
theorem sr_inS : SR K (fun x y H Q => ∃ i j, x = .str i ∧ y = .str j ∧ Q (.bl (!(Builtin.Str.occurrences j i 0 j.length 1).isEmpty)) H) (fInS false) := by
  intro S H x y d e Q R lv hx hy hf q
  unfold fInS at hf
  split at hf
  · cases hx.str; cases hy.str
    exact ⟨_, _, rfl, rfl, q _ H _ (Ex.refl _) (.bl _) hf⟩
  · exact hf.elim
theorem sr_ninS : SR K (fun x y H Q => ∃ i j, x = .str i ∧ y = .str j ∧ Q (.bl (!(!(Builtin.Str.occurrences j i 0 j.length 1).isEmpty))) H) (fInS true) := by
  intro S H x y d e Q R lv hx hy hf q
  unfold fInS at hf
  split at hf
  · cases hx.str; cases hy.str
    exact ⟨_, _, rfl, rfl, q _ H _ (Ex.refl _) (.bl _) hf⟩
  · exact hf.elim
theorem s_inS {i j : Str} {k : D → Prop} (h : k (.bool (occS i j))) : fInS false (.str i) (.str j) k := h
theorem s_ninS {i j : Str} {k : D → Prop} (h : k (.bool (!occS i j))) : fInS true (.str i) (.str j) k := h
/-! list(range(a, b)) -/
def wRgL (wa wb : WL) : WA := fun ρ R E => wa ρ (fun La ρ1 => wb ρ1 (fun Lb ρ2 => ∃ a b : Int, La ρ2 (.int a) ∧ Lb ρ2 (.int b) ∧ RgOk a b ∧ R (rng a (b - a).toNat) ρ2) E) E
theorem rgV_dp {G : Hp} {a b : Int} : DpAll K G (rgV a b) (rng a (b - a).toNat) := by
  unfold rgV rng
  generalize List.range (b - a).toNat = l
  induction l with
  | nil => exact .nil
  | cons x l ih => exact .cons (.int _) ih
theorem dRgL {e ea eb : Expr} {wa wb : WL} (h : ∀ ta tb, PE X ea ta → PE X eb tb → PE X e (tLstRg (tRg2 ta tb))) (ha : PE X ea (cL X.K W wa)) (hb : PE X eb (cL X.K W wb)) : PE X e (cF X.K W (wRgL wa wb)) :=
  peI (h _ _ ha hb) fun σ H Q ⟨θ, π, α, ρ, R, E, hR, hw, hq, he⟩ => by
    refine ⟨θ, π, α, ρ, _, E, hR, hw, fun α1 v1 H1 L1 ρ1 R1 s1 l1 w1 => ?_, he⟩
    refine ⟨θ, π, α1, ρ1, _, E, R1, w1, fun α2 v2 H2 L2 ρ2 R2 s2 l2 w2 => ?_, he.step s1⟩
    obtain ⟨a, b, z1, z2, ok, hk⟩ := w2
    have e1 := (l1 α2 H2 ρ2 R2 s2 _ z1).int
    have e2 := (l2 α2 H2 ρ2 R2 (Stp.refl ..) _ z2).int
    subst e1 e2
    refine ⟨a, b, rfl, rfl, ok, fun p hp => ?_⟩
    have e := hid_new (θ := θ) (α := α2) (o := .lst (rgV a b)) hp
    exact hq α2 p _ _ _ ρ2 (R2.hideNew hp) ⟨by rw [e]; exact s1.1.trans s2.1, fun b hb => ((s1.2 b hb).trans (s2.2 b hb)).trans ((R2.stpNew hp).2 b hb)⟩ (fun z => R2.lv p z hp) upd_same rgV_dp hk
theorem s_rgL {wa wb : WL} {A : List D → En → Prop} {E : EC} (h : wa ρ (fun La ρ1 => wb ρ1 (fun Lb ρ2 => ∃ a b : Int, La ρ2 (.int a) ∧ Lb ρ2 (.int b) ∧ RgOk a b ∧ A (rng a (b - a).toNat) ρ2) E) E) : wRgL wa wb ρ A E := h
/-! t[::-1] of a tuple -/
def wRevT (w : WL) : WE := fun ρ R E => w ρ (fun L ρ1 => ∃ ds, L ρ1 (.tuple ds) ∧ R (.tuple ds.reverse) ρ1) E
theorem dRevT {e a : Expr} {w : WL} (h : ∀ ta, PE X a ta → PE X e (tRevT X.K ta)) (ha : PE X a (cL X.K W w)) : PE X e (cE X.K W (wRevT w)) :=
  peI (h _ ha) fun σ H Q ⟨θ, π, α, ρ, R, E, hR, hw, hq, he⟩ => by
    refine ⟨θ, π, α, ρ, _, E, hR, hw, fun α1 v1 H1 L1 ρ1 R1 s1 l1 w1 => ?_, he⟩
    obtain ⟨ds, hd, hk⟩ := w1
    obtain ⟨a, vs, rfl, h1, h2⟩ := (l1 α1 H1 ρ1 R1 (Stp.refl ..) _ hd).tup
    refine ⟨a, vs, rfl, h1, fun p hp => ?_⟩
    exact hq α1 _ _ _ ρ1 (R1.ext (Ex.new hp)) (s1.trans (R1.stp (Ex.new hp))) (new_tup R1.live hp (dpA_reverse h2)) hk
theorem s_revT {w : WL} {R : RC} {E : EC} (h : w ρ (fun L ρ1 => ∃ ds, L ρ1 (.tuple ds) ∧ R (.tuple ds.reverse) ρ1) E) : wRevT w ρ R E := h
/-! whether a list has an item -/
def wTl (w : WL) : WT := fun ρ R E => w ρ (fun L ρ' => ∃ ds, L ρ' (.list ds) ∧ R (!ds.isEmpty) ρ') E
theorem dTl {e : Expr} {w : WL} (h : PE X e (cL X.K W w)) (he : ∀ whole, isTrue e X.env whole = (do let v ← whole; standAt e.pos; holding [v] (truthy v)) := by intro _; rfl) : PT X e (cT X.K W (wTl w)) :=
  ptI (pt_truth h he) fun σ H Q ⟨θ, π, α, ρ, R, E, hR, hw, hq, hx⟩ => by
    refine ⟨θ, π, α, ρ, _, E, hR, hw, fun α1 v1 H1 L1 ρ1 R1 s1 l1 w1 => ?_, hx⟩
    obtain ⟨ds, hd, w1⟩ := w1
    obtain ⟨a, vs, rfl, h1, h2⟩ := (l1 α1 H1 ρ1 R1 (Stp.refl ..) _ hd).lst
    refine ⟨_, .inl ⟨vs, h1, rfl⟩, ?_⟩
    have e : vs.isEmpty = ds.isEmpty := by
      have := dpA_len h2
      cases vs <;> cases ds <;> simp_all
    rw [e]
    exact hq α1 H1 _ ρ1 R1 s1 w1
theorem s_Tl {w : WL} {T : Bool → En → Prop} {E : EC} (h : w ρ (fun L ρ' => ∃ ds, L ρ' (.list ds) ∧ T (!ds.isEmpty) ρ') E) : wTl w ρ T E := h
end
end Den
namespace Den
variable [Tbs]
open PySem L2 Evl PySem.Spec PyProof.Rows
open Classical
section
variable {K : PySem.W.Frag} {W : WX} {X : Cx} {θ : Addr → Prop} {π α : Nat → Option Addr} {σ : L2.St} {H : Hp} {ρ : En} {p : Addr} {o : HO}
/-! xs.extend(a new list) -/
def wExt (j : Nat) (w : WA) : WS := fun B ρ => (∃ k, ownd ρ j k) ∧ w ρ (fun es ρ' => ownd ρ' j fun ds f => ds.length + es.length ≤ sizeLine ∧ B.nx (f (ds ++ es))) B.rs
theorem dExt {j : Nat} {s : Stmt} {w : WA} (h : PS X s (tDrop (tBM K "list" rExtend (tVar j) (tCons (cF K W w) tNil)))) : PS X s (cS K W (wExt j w)) := psI h fun D σ H ⟨θ, π, α, ρ, B, hR, hw, hf⟩ => by
  obtain ⟨⟨k0, hk0⟩, hw⟩ := hw
  obtain ⟨a0, vs0, ds0, f0, hs0, h0, _, _, _⟩ := hR.change hk0
  refine ⟨.ref a0, hs0, .inl ⟨rfl, vs0, .inl (.inl h0)⟩, θ, π, α, ρ, _, _, hR, hw, fun α1 p zs H1 es ρ1 R1 s1 np h1 p1 w1 => ?_, hf.exi⟩
  obtain ⟨R2, hx⟩ := R1.unhide np h1
  obtain ⟨a, vs, ds, f, hs, h2, hd, ⟨hl, hn⟩, hc⟩ := R2.change w1
  rw [hs0] at hs
  cases hs
  obtain ⟨r3, s3⟩ := hc (vs ++ zs) (ds ++ es) (dpA_app hd (dpA_mono hx p1))
  exact ⟨a0, p, vs, zs, rfl, rfl, h2, h1, by rw [dpA_len hd, dpA_len p1]; exact hl, hf.nx α1 σ _ _ r3 ((show Stp θ α H α1 H1 from ⟨s1.1.trans hx, s1.2⟩).trans s3) hn⟩
variable {nx : En → Prop} {rt : D → En → Prop} {rf : List D → En → Prop} {bk ct : En → Prop} {rs : Addr → En → Prop}
theorem s_ext {j : Nat} {w : WA} (h : (∃ k, ownd ρ j k) ∧ w ρ (fun es ρ' => ownd ρ' j fun ds f => ds.length + es.length ≤ sizeLine ∧ nx (f (ds ++ es))) rs) : wExt j w ⟨nx, rt, rf, bk, ct, rs⟩ ρ := h
/-! a def that calls itself: nothing is promised at the bottom -/
theorem fn_none {k : Nat} {f : Addr} {fd : FuncData} {ps : List Str} {P : Program} {w : World} {mg : Str → Option Value} {base : Heap} {n : Nat} {S : WF} (h : ∀ pr R E, ¬ S pr R E) : FnOk P w K mg base (L2N.CX P w) k f fd ps (toSp K n S) :=
  ⟨fun vs H Q E ⟨_, _, _, _, _, _, _, hS, _⟩ => (h _ _ _ hS).elim, fun A outer s H args us vs Q E _ _ _ _ ⟨_, _, _, _, _, _, _, hS, _⟩ => (h _ _ _ hS).elim⟩
end
end Den
namespace L2
open PySem PySem.Spec PyProof.Rows
section
variable {X : Cx} {a b c d : Expr} {ta tb tc td : TE} {pos : Pos}
/-- a op1 b op2 c op3 d, as a test -/
def tChain3 (r r' r'' : R2) (ta tb tc td : TE) : TT := fun σ H Q => ta σ H fun x H1 => tb σ H1 fun y H2 => r x y H2 fun z H3 => ∃ k, z = .bl k ∧
  (if k = true then tc σ H3 fun u H4 => r' y u H4 fun z2 H5 => ∃ k2, z2 = .bl k2 ∧ (if k2 = true then td σ H5 fun v H6 => r'' u v H6 fun z3 H7 => ∃ k3, z3 = .bl k3 ∧ Q k3 H7 else Q false H5) else Q false H3)
theorem pt_chain3 {op op' op'' : CmpOp} {r r' r'' : R2} (ho : OpR X (compareOp op) r) (ho' : OpR X (compareOp op') r') (ho'' : OpR X (compareOp op'') r'') (ha : PE X a ta) (hb : PE X b tb) (hc : PE X c tc) (hd : PE X d td)
    (hm : lastMarks [op, op', op''] [b, c, d] = false := by with_unfolding_all rfl) : PT X (.Compare a [op, op', op''] [b, c, d] pos) (tChain3 r r' r'' ta tb tc td) := by
  refine ⟨fun pins s σ H Q I h => ?_⟩
  refine isTrue_chain (thn (ha.run pins s σ H _ I h) fun v s1 ⟨x, H1, I1, r1, q1⟩ => test_link (thn (hb.run pins s1 σ H1 _ I1 q1) fun u s2 ⟨y, H2, I2, r2, q2⟩ =>
    thn (ho pins s2 σ H2 x y v u _ I2 r1 r2 q2) fun d s3 ⟨z, H3, I3, r3, k, e, q3⟩ => ?_)) hm
  subst e
  cases r3
  refine wpAny_truthy_bool ?_
  cases k with
  | false => exact ite_ff ⟨H3, I3, q3⟩
  | true =>
    refine ite_tt (test_link (thn (hc.run pins s3 σ H3 _ I3 q3) fun w' s4 ⟨z', H4, I4, r4, q4⟩ => thn (ho' pins s4 σ H4 y z' u w' _ I4 r2 r4 q4) fun d' s5 ⟨z2, H5, I5, r5, k2, e2, q5⟩ => ?_))
    subst e2
    cases r5
    refine wpAny_truthy_bool ?_
    cases k2 with
    | false => exact ite_ff ⟨H5, I5, q5⟩
    | true =>
      refine ite_tt (test_last (thn (hd.run pins s5 σ H5 _ I5 q5) fun w2 s6 ⟨z6, H6, I6, r6, q6⟩ => thn (ho'' pins s6 σ H6 z' z6 w' w2 _ I6 r4 r6 q6) fun d2 s7 ⟨z7, H7, I7, r7, k3, e3, q7⟩ => ?_))
      subst e3
      cases r7
      exact wpAny_truthy_bool ⟨H7, I7, q7⟩
end
end L2
namespace Den
variable [Tbs]
open PySem L2 Evl PySem.Spec PyProof.Rows
open Classical
section
variable {K : PySem.W.Frag} {W : WX} {X : Cx} {ρ : En}
def wT3 (f f' f'' : D → D → (D → Prop) → Prop) (wa wb wc wd : WL) : WT := fun ρ R E => wa ρ (fun La ρ1 => wb ρ1 (fun Lb ρ2 => ∃ d e, La ρ2 d ∧ Lb ρ2 e ∧ f d e (fun z => ∃ k, z = .bool k ∧
  if k = true then wc ρ2 (fun Lc ρ3 => ∃ e' g, Lb ρ3 e' ∧ Lc ρ3 g ∧ f' e' g (fun z => ∃ k2, z = .bool k2 ∧
    if k2 = true then wd ρ3 (fun Ld ρ4 => ∃ g' h, Lc ρ4 g' ∧ Ld ρ4 h ∧ f'' g' h (fun z => ∃ k3, z = .bool k3 ∧ R k3 ρ4)) E else R false ρ3)) E else R false ρ2)) E) E
theorem dT3 {op op' op'' : CmpOp} {r r' r'' : R2} {f f' f'' : D → D → (D → Prop) → Prop} {a b c d : Expr} {pos : Pos} {wa wb wc wd : WL} (ho : OpR X (compareOp op) r) (ho' : OpR X (compareOp op') r') (ho'' : OpR X (compareOp op'') r'')
    (hr : SR K r f) (hr' : SR K r' f') (hr'' : SR K r'' f'') (ha : PE X a (cL K W wa)) (hb : PE X b (cL K W wb)) (hc : PE X c (cL K W wc)) (hd : PE X d (cL K W wd))
    (hm : lastMarks [op, op', op''] [b, c, d] = false := by with_unfolding_all rfl) : PT X (.Compare a [op, op', op''] [b, c, d] pos) (cT K W (wT3 f f' f'' wa wb wc wd)) :=
  ptI (pt_chain3 ho ho' ho'' ha hb hc hd hm) fun σ H Q ⟨θ, π, α, ρ, R, E, hR, hw, hq, he⟩ => by
    refine ⟨θ, π, α, ρ, _, E, hR, hw, fun α1 v1 H1 L1 ρ1 R1 s1 l1 w1 => ?_, he⟩
    refine ⟨θ, π, α1, ρ1, _, E, R1, w1, fun α2 v2 H2 L2 ρ2 R2 s2 l2 w2 => ?_, he.step s1⟩
    obtain ⟨d, e, hd, he', hf⟩ := w2
    refine hr _ H2 _ _ d e _ _ R2.live (l1 α2 H2 ρ2 R2 s2 d hd) (l2 α2 H2 ρ2 R2 (Stp.refl ..) e he') hf fun v H' c ex dp rc => ?_
    obtain ⟨k, rfl, rc⟩ := rc
    refine ⟨k, dp_b dp, ?_⟩
    have Rx := R2.ext ex
    have sx := (s1.trans s2).trans (R2.stp ex)
    cases k with
    | false => rw [if_neg Bool.false_ne_true] at rc ⊢; exact hq α2 H' _ ρ2 Rx sx rc
    | true =>
      rw [if_pos rfl] at rc ⊢
      refine ⟨θ, π, α2, ρ2, _, E, Rx, rc, fun α3 v3 H3 L3 ρ3 R3 s3 l3 w3 => ?_, he.step sx⟩
      obtain ⟨e2, g, h1, h2, hf2⟩ := w3
      refine hr' _ H3 _ _ e2 g _ _ R3.live (l2 α3 H3 ρ3 R3 ((R2.stp ex).trans s3) e2 h1) (l3 α3 H3 ρ3 R3 (Stp.refl ..) g h2) hf2 fun v H4 c ex2 dp rc => ?_
      obtain ⟨k2, rfl, rc⟩ := rc
      refine ⟨k2, dp_b dp, ?_⟩
      have Ry := R3.ext ex2
      have sy := (sx.trans s3).trans (R3.stp ex2)
      cases k2 with
      | false => rw [if_neg Bool.false_ne_true] at rc ⊢; exact hq α3 H4 _ ρ3 Ry sy rc
      | true =>
        rw [if_pos rfl] at rc ⊢
        refine ⟨θ, π, α3, ρ3, _, E, Ry, rc, fun α5 v5 H5 L5 ρ5 R5 s5 l5 w5 => ?_, he.step sy⟩
        obtain ⟨g2, h, h3, h4, hf3⟩ := w5
        refine hr'' _ H5 _ _ g2 h _ _ R5.live (l3 α5 H5 ρ5 R5 ((R3.stp ex2).trans s5) g2 h3) (l5 α5 H5 ρ5 R5 (Stp.refl ..) h h4) hf3 fun v H6 c ex3 dp rc => ?_
        obtain ⟨k3, rfl, rc⟩ := rc
        exact ⟨k3, dp_b dp, hq α5 H6 _ ρ5 (R5.ext ex3) ((sy.trans s5).trans (R5.stp ex3)) rc⟩
theorem s_T3 {f f' f'' : D → D → (D → Prop) → Prop} {wa wb wc wd : WL} {T : Bool → En → Prop} {E : EC} (h : wa ρ (fun La ρ1 => wb ρ1 (fun Lb ρ2 => ∃ d e, La ρ2 d ∧ Lb ρ2 e ∧ f d e (fun z => ∃ k, z = .bool k ∧
  if k = true then wc ρ2 (fun Lc ρ3 => ∃ e' g, Lb ρ3 e' ∧ Lc ρ3 g ∧ f' e' g (fun z => ∃ k2, z = .bool k2 ∧
    if k2 = true then wd ρ3 (fun Ld ρ4 => ∃ g' h, Lc ρ4 g' ∧ Ld ρ4 h ∧ f'' g' h (fun z => ∃ k3, z = .bool k3 ∧ T k3 ρ4)) E else T false ρ3)) E else T false ρ2)) E) E) : wT3 f f' f'' wa wb wc wd ρ T E := h
end
end Den

set_option maxHeartbeats 4000000
namespace Den
variable [Tbs]
open PySem L2 Evl PySem.Spec PyProof.Rows
open Classical
section
variable {K : PySem.W.Frag} {W : WX} {X : Cx} {θ : Addr → Prop} {π α : Nat → Option Addr} {σ : L2.St} {H : Hp} {ρ : En} {p : Addr} {o : HO}
/-! xs.index(x), flat things -/
def wIdx (wo : WL) (wa : WE) : WE := fun ρ R E => wo ρ (fun Lo ρ1 => (∃ ds, Lo ρ1 (.list ds)) ∧ wa ρ1 (fun d ρ2 => ∃ ds j z, Lo ρ2 (.list ds) ∧ flatD d = true ∧ ds.all flatD = true ∧ ds[j]? = some z ∧ eqF z d = true ∧ (∀ m z', m < j → ds[m]? = some z' → eqF z' d = false) ∧ R (.int (j : Nat)) ρ2) E) E
theorem dIdx {e : Expr} {wo : WL} {wa : WE} (h : PE X e (tBM X.K "list" (rIndex X.K) (cL X.K W wo) (tCons (cE X.K W wa) tNil))) : PE X e (cE X.K W (wIdx wo wa)) := peI h fun σ H Q ⟨θ, π, α, ρ, R, E, hR, hw, hq, he⟩ => by
  refine ⟨θ, π, α, ρ, _, E, hR, hw, fun α1 v1 H1 L1 ρ1 R1 s1 l1 w1 => ?_, he⟩
  obtain ⟨⟨ds0, hd0⟩, w1⟩ := w1
  obtain ⟨a, vs, rfl, h1, h2⟩ := (l1 α1 H1 ρ1 R1 (Stp.refl ..) _ hd0).lst
  refine ⟨.inl ⟨rfl, vs, h1⟩, θ, π, α1, ρ1, _, E, R1, w1, fun α2 v H2 d ρ2 R2 s2 p2 w2 => ?_, he.step s1⟩
  obtain ⟨ds, j, z, hd, f1, f2, hz, hzj, hno, hk⟩ := w2
  obtain ⟨a', vs', ea, h3, h4⟩ := (l1 α2 H2 ρ2 R2 s2 _ hd).lst
  cases ea
  obtain ⟨u, hu, du⟩ := dpA_get h4 hz
  refine ⟨a, vs', v, j, u, rfl, rfl, h3, flat_dp p2 f1, (inD_dp p2 f1 h4 f2).1, hu, ?_, fun m z' hm hz' => ?_, hq α2 _ H2 _ ρ2 R2 (s1.trans s2) (.int _) hk⟩
  · rw [eqF_dp du p2 (List.all_eq_true.mp f2 z (List.mem_of_getElem? hz)) f1]; exact hzj
  · obtain ⟨y, hy, dy⟩ := dpA_get' h4 hz'
    rw [eqF_dp dy p2 (List.all_eq_true.mp f2 y (List.mem_of_getElem? hy)) f1]
    exact hno m y hm hy
theorem s_idx {wo : WL} {wa : WE} {R : RC} {E : EC} (h : wo ρ (fun Lo ρ1 => (∃ ds, Lo ρ1 (.list ds)) ∧ wa ρ1 (fun d ρ2 => ∃ ds j z, Lo ρ2 (.list ds) ∧ flatD d = true ∧ ds.all flatD = true ∧ ds[j]? = some z ∧ eqF z d = true ∧ (∀ m z', m < j → ds[m]? = some z' → eqF z' d = false) ∧ R (.int (j : Nat)) ρ2) E) E) : wIdx wo wa ρ R E := h
/-! enumerate(a list) -/
def enD (ds : List D) : List D := (List.range ds.length).map fun i => .tuple [.int (i : Nat), ds.getD i .none]
theorem enD_at {ds : List D} {i : Nat} {d : D} (h : (enD ds)[i]? = some d) : ∃ x, ds[i]? = some x ∧ d = .tuple [.int (i : Nat), x] := by
  unfold enD at h
  rw [List.getElem?_map] at h
  obtain ⟨k, hk, rfl⟩ := Option.map_eq_some_iff.mp h
  obtain ⟨a, b⟩ := List.getElem?_eq_some_iff.mp hk
  rw [List.getElem_range] at b
  subst b
  rw [List.length_range] at a
  refine ⟨ds[i], List.getElem?_eq_getElem a, ?_⟩
  rw [List.getD_eq_getElem?_getD, List.getElem?_eq_getElem a]
  rfl
theorem enD_len (ds : List D) : (enD ds).length = ds.length := by unfold enD; rw [List.length_map, List.length_range]
theorem walks_enum {G : Hp} {a : Addr} {vs : List V} {ds : List D} (h : SqL K G a vs) (hd : DpAll K G vs ds) : Walks K (Ite K a) G (enD ds) := fun S2 H2 i hl hx => by
  have h2 : SqL K H2 a vs := ex_l (hx.trans hidS_ex) h
  refine ⟨fun e => ⟨vs, h2, by rw [dpA_len hd, e, enD_len]; exact Nat.le_refl _⟩, fun d hi => ?_⟩
  obtain ⟨x, hx1, rfl⟩ := enD_at hi
  obtain ⟨v, q1, q2⟩ := dpA_get hd hx1
  refine ⟨⟨vs, v, h2, q1⟩, fun y H3 z => ?_⟩
  obtain ⟨T, y', rfl, hT, rfl, hy⟩ := z
  have q := hy vs h2
  rw [q1] at q
  cases q
  exact ⟨Ex.new hT, new_tup hl hT (.cons (.int _) (.cons (dp_mono hx q2) .nil))⟩
def wiEn (wa : WA) : WI := fun ρ R E => wa ρ (fun ds ρ' => ∃ xs, ds = [.list xs] ∧ R (enD xs) ρ') E
theorem diEn {tg e : Expr} {n : Nat} {w : WA} (h : PI X tg e (iEnum K (cA K W n w))) : PI X tg e (cI K W (wiEn w)) := piI h fun σ H Q ⟨θ, π, α, ρ, R, E, hR, hw, hq, he⟩ =>
  ⟨θ, π, α, ρ, _, E, hR, hw, fun α1 vs H1 ds ρ1 R1 s1 p1 l1 w1 => by
    obtain ⟨xs, rfl, w1⟩ := w1
    cases p1 with
    | cons h1 h2 => cases h2 with
      | nil => cases h1 with
        | lst h3 h4 => exact ⟨_, _, rfl, ex_l hidS_ex h3, hq α1 _ H1 _ ρ1 R1 s1 (walks_enum h3 h4) w1⟩, he⟩
theorem s_iEn {wa : WA} {G : List D → En → Prop} {E : EC} (h : wa ρ (fun ds ρ' => ∃ xs, ds = [.list xs] ∧ G (enD xs) ρ') E) : wiEn wa ρ G E := h
/-! range(a, b, c) -/
def rngC (lo c : Int) (n : Nat) : List D := (List.range n).map fun k => .int (lo + (k : Nat) * c)
theorem walks_rngC {lo c : Int} {n : Nat} {G : Hp} : Walks K (Itc lo c n) G (rngC lo c n) := fun S2 H2 i hl hx => by
  refine ⟨fun e => ?_, fun d hi => ?_⟩
  · show n ≤ i
    rw [e]; simp [rngC]
  · unfold rngC at hi
    rw [List.getElem?_map] at hi
    obtain ⟨k, q, rfl⟩ := Option.map_eq_some_iff.mp hi
    obtain ⟨h1, h2⟩ := List.getElem?_eq_some_iff.mp q
    simp at h1 h2
    subst h2
    exact ⟨h1, fun x H3 ⟨e, y⟩ => by subst e y; exact ⟨Ex.refl _, .int _⟩⟩
def wiR3 (wa : WA) : WI := fun ρ R E => wa ρ (fun ds ρ' => ∃ (a b c : Int) (n : Nat), ds = [.int a, .int b, .int c] ∧ RgC a b c n ∧ R (rngC a c n) ρ') E
theorem diR3 {tg e : Expr} {n : Nat} {w : WA} (h : PI X tg e (iRng3 (cA K W n w))) : PI X tg e (cI K W (wiR3 w)) := piI h fun σ H Q ⟨θ, π, α, ρ, R, E, hR, hw, hq, he⟩ =>
  ⟨θ, π, α, ρ, _, E, hR, hw, fun α1 vs H1 ds ρ1 R1 s1 p1 l1 w1 => by
    obtain ⟨a, b, c, n, rfl, ok, w1⟩ := w1
    cases p1 with
    | cons h1 h2 => cases h2 with
      | cons h3 h4 => cases h4 with
        | cons h5 h6 => cases h6; cases h1; cases h3; cases h5; exact ⟨a, b, c, n, rfl, ok, hq α1 _ H1 _ ρ1 R1 s1 walks_rngC w1⟩, he⟩
theorem s_iR3 {wa : WA} {G : List D → En → Prop} {E : EC} (h : wa ρ (fun ds ρ' => ∃ (a b c : Int) (n : Nat), ds = [.int a, .int b, .int c] ∧ RgC a b c n ∧ G (rngC a c n) ρ') E) : wiR3 wa ρ G E := h
/-! sorted(ints): a new list -/
def gSortI (d : D) (k : List D → Prop) : Prop := ∃ ns : List Int, d = .list (ns.map PyData.int) ∧ ∀ ms : List Int, ms.Perm ns → ms.Pairwise (· ≤ ·) → k (ms.map PyData.int)
theorem dpA_intsV {G : Hp} : ∀ {ns : List Int} {vs : List V}, DpAll K G vs (ns.map PyData.int) → vs = ns.map V.int
  | [], _, h => by cases h; rfl
  | n :: ns, _, h => by
    cases h with
    | cons h3 h4 => cases h3; rw [dpA_intsV h4]; rfl
theorem sn_sortI : SN K (fun x => rSortedI K [x]) gSortI := by
  intro S H x d Q R lv hx hg q
  obtain ⟨ns, rfl, hk⟩ := hg
  obtain ⟨a, vs, rfl, h1, h2⟩ := hx.lst
  have e := dpA_intsV h2
  subst e
  exact ⟨a, ns, rfl, h1, fun ms l hp hs hl => q l _ _ hl (dpA_ints ms) (hk ms hp hs)⟩
theorem s_sortI {d : D} {k : List D → Prop} (ns : List Int) (e : d = .list (ns.map PyData.int)) (h : ∀ ms : List Int, ms.Perm ns → ms.Pairwise (· ≤ ·) → k (ms.map PyData.int)) : gSortI d k := ⟨ns, e, h⟩
/-! divmod of small numbers -/
def fDvm (d e : D) (k : D → Prop) : Prop := match d, e with
  | .int i, .int j => CDiv i j ∧ k (.tuple [.int (i / j), .int (i % j)])
  | _, _ => False
theorem sr_dvm : SR K (fun x y H Q => ∃ i j, [x, y] = [V.int i, V.int j] ∧ CDiv i j ∧ ∀ p, H p = none → Q (.ref p) (upd H p (.tup [.int (i / j), .int (i % j)]))) fDvm := by
  intro S H x y d e Q R lv hx hy hf q
  unfold fDvm at hf
  split at hf
  · rename_i i j
    cases hx.int; cases hy.int
    exact ⟨i, j, rfl, hf.1, fun p hp => q _ _ _ (Ex.new hp) (new_tup lv hp (.cons (.int _) (.cons (.int _) .nil))) hf.2⟩
  · exact hf.elim
theorem s_dvm {i j : Int} {k : D → Prop} (h : k (.tuple [.int (i / j), .int (i % j)])) (c : CDiv i j) : fDvm (.int i) (.int j) k := ⟨c, h⟩
end
end Den

set_option maxHeartbeats 4000000
namespace Den
variable [Tbs]
open PySem L2 Evl PySem.Spec PyProof.Rows
open Classical
section
variable {K : PySem.W.Frag} {W : WX} {X : Cx} {θ : Addr → Prop} {π α : Nat → Option Addr} {σ : L2.St} {H : Hp} {ρ : En} {p : Addr} {o : HO}
/-! list * int -/
def rRepL (K : PySem.W.Frag) : R2 := fun x y H Q => ∃ l k xs, x = .ref l ∧ y = .int k ∧ SqL K H l xs ∧ 0 ≤ k ∧ k ≤ 1000 ∧ xs.length ≤ 1000 ∧ ∀ p, H p = none → Q (.ref p) (upd H p (.lst (List.replicate k.toNat xs).flatten))
theorem rep_empty (k : Nat) : (List.replicate (if (([] : List Value).toArray).isEmpty = true then 0 else k) ([] : List Value).toArray) = [] := rfl
omit [Tbs] in
theorem op_repL : OpR X (binaryOp .Mult) (rRepL X.K) := by
  intro pins s σ H x y v u Q I rx ry h
  obtain ⟨l, k, xs, rfl, rfl, hT, h1, h2, hz, q⟩ := h
  cases rx
  obtain ⟨t, rfl⟩ := ry
  obtain ⟨its, r, ⟨⟨cls, dd, data, sl⟩, n, ho, hc, hdd, hd⟩, _⟩ := I.list hT
  simp only at hc hd
  subst hc hd
  have hle : its.length = xs.length := r.length.symm
  have hsz0 : its.toArray.size = xs.length := by rw [List.size_toArray, hle]
  have hm : its.toArray.size * k.toNat ≤ 1000 * 1000 := by
    rw [hsz0]
    exact Nat.mul_le_mul hz (by omega)
  have hm2 : its.length * k.toNat ≤ 1000 * 1000 := by
    rw [hle]
    exact Nat.mul_le_mul hz (by omega)
  have e : List.foldl (fun x1 x2 => x1 ++ x2) #[] (List.replicate (if its.toArray.isEmpty = true then 0 else k.toNat) its.toArray) = (List.replicate k.toNat its).flatten.toArray := by
    cases its with
    | nil =>
      show #[] = _
      have : (List.replicate k.toNat ([] : List Value)).flatten = [] := by simp
      rw [this]
    | cons a b => exact size_rep (a :: b) k.toNat
  refine wpAny_binaryOp_repeat_ref (T := "list") (U := "int") (by decide) ⟨_, ho, rfl⟩ (fun s' => typeIs_int s' k t) noFill_list_mul F.fills_int_mul F.slot_int_rmul repeat_list F.slot_int_index.lookup
    (call_meets F.slot_int_rmul (typeIs_int s k t) F.entry_int_rmul (F.args_int_rmul_2 _ _) (lm_int_rmul_list_any k t l its.toArray n dd sl)
      ⟨ho, rfl, ⟨_, ho, rfl⟩, call_meets F.slot_list_mul ⟨_, ho, rfl⟩ F.entry_list_mul (F.args_list_mul_2 _ _)
        (lm_list_mul_any l its.toArray n dd sl k t (by simp [Builtin.List.listFitsIndex]; omega) (by omega) (by simp [Builtin.List.listTooLong, sizeLine]; omega)) ⟨ho, ?_⟩⟩)
  rw [e]
  refine ⟨.ref _, _, I.lnew (t' := s.toks) (r.rep k.toNat) ?_, rfl, q _ I.fresh⟩
  rw [PyProof.Rows.lm_len_rep_flat, sizeLine_eq]
  have a1 : k.toNat * xs.length ≤ 1000 * 1000 := Nat.mul_le_mul (by omega) hz
  omega
def fRepL (d e : D) (k : D → Prop) : Prop := match d, e with
  | .list ds, .int n => 0 ≤ n ∧ n ≤ 1000 ∧ ds.length ≤ 1000 ∧ k (.list (List.replicate n.toNat ds).flatten)
  | _, _ => False
theorem sr_repL : SR K (rRepL K) fRepL := by
  intro S H x y d e Q R lv hx hy hf q
  unfold fRepL at hf
  split at hf
  · rename_i ds n
    obtain ⟨h1, h2, h3, hr⟩ := hf
    have ey := hy.int
    subst ey
    obtain ⟨a, vs, rfl, t1, t2⟩ := hx.lst
    have hl := dpA_len t2
    exact ⟨a, n, vs, rfl, rfl, t1, h1, h2, by omega, fun p hp => q _ _ _ (Ex.new hp) (new_lst lv hp (dpA_rep t2 _)) hr⟩
  · exact hf.elim
theorem s_repL {ds : List D} {n : Int} {k : D → Prop} (h : k (.list (List.replicate n.toNat ds).flatten)) (h1 : 0 ≤ n) (h2 : n ≤ 1000) (h3 : ds.length ≤ 1000) : fRepL (.list ds) (.int n) k := ⟨h1, h2, h3, h⟩
end
end Den

set_option maxHeartbeats 4000000
namespace Den
variable [Tbs]
open PySem L2 Evl PySem.Spec PyProof.Rows
section
variable {K : PySem.W.Frag} {W : WX} {X : Cx} {θ : Addr → Prop} {π α : Nat → Option Addr} {σ : L2.St} {H : Hp} {ρ : En} {p : Addr} {o : HO}
/-! list * int: a new list of one's own -/
def wRepF (wa wb : WL) : WA := fun ρ R E => wa ρ (fun La ρ1 => wb ρ1 (fun Lb ρ2 => ∃ ds n, La ρ2 (.list ds) ∧ Lb ρ2 (.int n) ∧ 0 ≤ n ∧ n ≤ 1000 ∧ ds.length ≤ 1000 ∧ R (List.replicate n.toNat ds).flatten ρ2) E) E
theorem dRepF {a b : Expr} {pos : Pos} {wa wb : WL} (ha : PE X a (cL X.K W wa)) (hb : PE X b (cL X.K W wb)) : PE X (.BinOp a .Mult b pos) (cF X.K W (wRepF wa wb)) :=
  peI (pe_op op_repL ha hb) fun σ H Q ⟨θ, π, α, ρ, R, E, hR, hw, hq, he⟩ => by
    refine ⟨θ, π, α, ρ, _, E, hR, hw, fun α1 v1 H1 L1 ρ1 R1 s1 l1 w1 => ?_, he⟩
    refine ⟨θ, π, α1, ρ1, _, E, R1, w1, fun α2 v2 H2 L2 ρ2 R2 s2 l2 w2 => ?_, he.step s1⟩
    obtain ⟨ds, n, hd, hn, h1, h2, h3, hk⟩ := w2
    obtain ⟨a, vs, rfl, t1, t2⟩ := (l1 α2 H2 ρ2 R2 s2 _ hd).lst
    have ey := (l2 α2 H2 ρ2 R2 (Stp.refl ..) _ hn).int
    have hl := dpA_len t2
    refine ⟨a, n, vs, rfl, ey, t1, h1, h2, by omega, fun p hp => ?_⟩
    have e := hid_new (θ := θ) (α := α2) (o := .lst (List.replicate n.toNat vs).flatten) hp
    have s3 := s1.trans s2
    exact hq α2 p _ _ _ ρ2 (R2.hideNew hp) ⟨by rw [e]; exact s3.1, fun b hb => (s3.2 b hb).trans ((R2.stpNew hp).2 b hb)⟩ (fun z => R2.lv p z hp) upd_same (by rw [e]; exact dpA_rep t2 _) hk
theorem s_repF {wa wb : WL} {A : List D → En → Prop} {E : EC} (h : wa ρ (fun La ρ1 => wb ρ1 (fun Lb ρ2 => ∃ ds n, La ρ2 (.list ds) ∧ Lb ρ2 (.int n) ∧ 0 ≤ n ∧ n ≤ 1000 ∧ ds.length ≤ 1000 ∧ A (List.replicate n.toNat ds).flatten ρ2) E) E) : wRepF wa wb ρ A E := h
end
end Den

set_option maxHeartbeats 4000000
namespace Den
variable [Tbs]
open PySem L2 Evl PySem.Spec PyProof.Rows
section
variable {K : PySem.W.Frag} {W : WX} {X : Cx} {θ : Addr → Prop} {π α : Nat → Option Addr} {σ : L2.St} {H : Hp} {ρ : En} {p : Addr} {o : HO}
/-! methods of texts -/
def wM0 (f : D → (D → Prop) → Prop) (wa : WL) : WE := fun ρ R E => wa ρ (fun La ρ1 => ∃ a, La ρ1 (.str a) ∧ f (.str a) (fun z => R z ρ1)) E
def wM1 (f : D → D → (D → Prop) → Prop) (wa wb : WL) : WE := fun ρ R E => wa ρ (fun La ρ1 => (∃ a, La ρ1 (.str a)) ∧ wb ρ1 (fun Lb ρ2 => ∃ d e, La ρ2 d ∧ Lb ρ2 e ∧ f d e (fun z => R z ρ2)) E) E
theorem dM0 {r : V → List V → Hp → VK → Prop} {f : D → (D → Prop) → Prop} {ex a : Expr} {wa : WL} (h : ∀ to, PE X a to → PE X ex (tM0 r to)) (hr : SU K (fun x => r x []) f) (ha : PE X a (cL K W wa)) : PE X ex (cE K W (wM0 f wa)) :=
  peI (h _ ha) fun σ H Q ⟨θ, π, α, ρ, R, E, hR, hw, hq, he⟩ => by
    refine ⟨θ, π, α, ρ, _, E, hR, hw, fun α1 v1 H1 L1 ρ1 R1 s1 l1 w1 => ?_, he⟩
    obtain ⟨a, ha, hf⟩ := w1
    have ha' := l1 α1 H1 ρ1 R1 (Stp.refl ..) _ ha
    exact ⟨⟨a, ha'.str⟩, hr _ H1 _ _ Q _ R1.live ha' hf (fun v H' c ex dp rc => hq α1 v H' c ρ1 (R1.ext ex) (s1.trans (R1.stp ex)) dp rc)⟩
theorem dM1 {r : V → List V → Hp → VK → Prop} {f : D → D → (D → Prop) → Prop} {ex a b : Expr} {wa wb : WL} (h : ∀ to te, PE X a to → PE X b te → PE X ex (tM1 r to te)) (hr : SR K (fun x y => r x [y]) f) (ha : PE X a (cL K W wa)) (hb : PE X b (cL K W wb)) : PE X ex (cE K W (wM1 f wa wb)) :=
  peI (h _ _ ha hb) fun σ H Q ⟨θ, π, α, ρ, R, E, hR, hw, hq, he⟩ => by
    refine ⟨θ, π, α, ρ, _, E, hR, hw, fun α1 v1 H1 L1 ρ1 R1 s1 l1 w1 => ?_, he⟩
    obtain ⟨⟨a, ha⟩, w1⟩ := w1
    refine ⟨⟨a, (l1 α1 H1 ρ1 R1 (Stp.refl ..) _ ha).str⟩, θ, π, α1, ρ1, _, E, R1, w1, fun α2 v2 H2 L2 ρ2 R2 s2 l2 w2 => ?_, he.step s1⟩
    obtain ⟨d, e, hd, he', hf⟩ := w2
    exact hr _ H2 _ _ d e Q _ R2.live (l1 α2 H2 ρ2 R2 s2 d hd) (l2 α2 H2 ρ2 R2 (Stp.refl ..) e he') hf (fun v H' c ex dp rc => hq α2 v H' c ρ2 (R2.ext ex) ((s1.trans s2).trans (R2.stp ex)) dp rc)
theorem s_M0 {f : D → (D → Prop) → Prop} {wa : WL} {R : RC} {E : EC} (h : wa ρ (fun La ρ1 => ∃ a, La ρ1 (.str a) ∧ f (.str a) (fun z => R z ρ1)) E) : wM0 f wa ρ R E := h
theorem s_M1 {f : D → D → (D → Prop) → Prop} {wa wb : WL} {R : RC} {E : EC} (h : wa ρ (fun La ρ1 => (∃ a, La ρ1 (.str a)) ∧ wb ρ1 (fun Lb ρ2 => ∃ d e, La ρ2 d ∧ Lb ρ2 e ∧ f d e (fun z => R z ρ2)) E) E) : wM1 f wa wb ρ R E := h
def fStart (d e : D) (k : D → Prop) : Prop := match d, e with
  | .str a, .str b => k (.bool (Txt.startswith a b))
  | _, _ => False
theorem sr_start : SR K (fun x y H Q => ∃ a b, x = .str a ∧ [y] = [V.str b] ∧ Q (.bl (Txt.startswith a b)) H) fStart := by
  intro S H x y d e Q R lv hx hy hf q
  unfold fStart at hf
  split at hf
  · cases hx.str; cases hy.str
    exact ⟨_, _, rfl, rfl, q _ H _ (Ex.refl _) (.bl _) hf⟩
  · exact hf.elim
def fFind (d e : D) (k : D → Prop) : Prop := match d, e with
  | .str a, .str b => k (.int (Txt.find a b))
  | _, _ => False
theorem sr_find : SR K (fun x y H Q => ∃ a b, x = .str a ∧ [y] = [V.str b] ∧ Q (.int (Txt.find a b)) H) fFind := by
  intro S H x y d e Q R lv hx hy hf q
  unfold fFind at hf
  split at hf
  · cases hx.str; cases hy.str
    exact ⟨_, _, rfl, rfl, q _ H _ (Ex.refl _) (.int _) hf⟩
  · exact hf.elim
def fPart (d e : D) (k : D → Prop) : Prop := match d, e with
  | .str a, .str b => (b.length == 0) = false ∧ a.length ≤ sizeLine ∧ k (.tuple [.str (Txt.partition a b).1, .str (Txt.partition a b).2.1, .str (Txt.partition a b).2.2])
  | _, _ => False
theorem sr_part : SR K (fun x y H Q => ∃ a b, x = .str a ∧ [y] = [V.str b] ∧ (b.length == 0) = false ∧ a.length ≤ sizeLine ∧ ∀ p, H p = none → Q (.ref p) (upd H p (.tup [.str (Txt.partition a b).1, .str (Txt.partition a b).2.1, .str (Txt.partition a b).2.2]))) fPart := by
  intro S H x y d e Q R lv hx hy hf q
  unfold fPart at hf
  split at hf
  · cases hx.str; cases hy.str
    exact ⟨_, _, rfl, rfl, hf.1, hf.2.1, fun p hp => q _ _ _ (Ex.new hp) (new_tup lv hp (.cons (.str _) (.cons (.str _) (.cons (.str _) .nil)))) hf.2.2⟩
  · exact hf.elim
def fZf (d e : D) (k : D → Prop) : Prop := match d, e with
  | .str a, .int i => PadOk i = true ∧ k (.str (Txt.zfill a i))
  | _, _ => False
theorem sr_zf : SR K (fun x y H Q => ∃ (a : Str) (i : Int), x = .str a ∧ [y] = [V.int i] ∧ PadOk i = true ∧ Q (.str (Txt.zfill a i)) H) fZf := by
  intro S H x y d e Q R lv hx hy hf q
  unfold fZf at hf
  split at hf
  · cases hx.str; cases hy.int
    exact ⟨_, _, rfl, rfl, hf.1, q _ H _ (Ex.refl _) (.str _) hf.2⟩
  · exact hf.elim
theorem dpA_strsV {G : Hp} : ∀ {ys : List Str} {vs : List V}, DpAll K G vs (ys.map PyData.str) → vs = ys.map V.str
  | [], _, h => by cases h; rfl
  | n :: ns, _, h => by
    cases h with
    | cons h3 h4 => cases h3; rw [dpA_strsV h4]; rfl
def fJoin (d e : D) (k : D → Prop) : Prop := match d, e with
  | .str a, e => ∃ ys : List Str, seqD e = some (ys.map PyData.str) ∧ (ys.map (·.length)).sum + ys.length * a.length ≤ 16777216 ∧ k (.str (Txt.join a ys))
  | _, _ => False
theorem sr_join : SR K (fun x y H Q => ∃ a p, ∃ ys : List Str, x = .str a ∧ [y] = [V.ref p] ∧ (SqL K H p (ys.map V.str) ∨ SqT K H p (ys.map V.str)) ∧ (ys.map (·.length)).sum + ys.length * a.length ≤ 16777216 ∧ Q (.str (Txt.join a ys)) H) fJoin := by
  intro S H x y d e Q R lv hx hy hf q
  unfold fJoin at hf
  split at hf
  · rename_i a
    cases hx.str
    obtain ⟨ys, he, hs, hk⟩ := hf
    cases e with
    | list xs =>
      cases he
      obtain ⟨p, vs, rfl, h1, h2⟩ := hy.lst
      have e := dpA_strsV h2
      subst e
      exact ⟨_, p, ys, rfl, rfl, .inl h1, hs, q _ H _ (Ex.refl _) (.str _) hk⟩
    | tuple xs =>
      cases he
      obtain ⟨p, vs, rfl, h1, h2⟩ := hy.tup
      have e := dpA_strsV h2
      subst e
      exact ⟨_, p, ys, rfl, rfl, .inr h1, hs, q _ H _ (Ex.refl _) (.str _) hk⟩
    | none => cases he
    | bool => cases he
    | int => cases he
    | str => cases he
    | dict => cases he
  · exact hf.elim
/-! numbers and texts -/
def fStrI (d : D) (k : D → Prop) : Prop := match d with
  | .int i => i.natAbs.log2 < 1920 ∧ k (.str (toString i))
  | _ => False
theorem su_strI : SU K (fun x H Q => ∃ i, [x] = [V.int i] ∧ i.natAbs.log2 < 1920 ∧ Q (.str (toString i)) H) fStrI := by
  intro S H x d Q R lv hx hf q
  unfold fStrI at hf
  split at hf
  · cases hx.int
    exact ⟨_, rfl, hf.1, q _ H _ (Ex.refl _) (.str _) hf.2⟩
  · exact hf.elim
def fIntT (d : D) (k : D → Prop) : Prop := match d with
  | .str a => ∃ n, PySem.intText? a = some n ∧ a.length ≤ 640 ∧ k (.int n)
  | _ => False
theorem su_intT : SU K (fun x H Q => ∃ a n, [x] = [V.str a] ∧ PySem.intText? a = some n ∧ a.length ≤ 640 ∧ Q (.int n) H) fIntT := by
  intro S H x d Q R lv hx hf q
  unfold fIntT at hf
  split at hf
  · cases hx.str
    obtain ⟨n, h1, h2, h3⟩ := hf
    exact ⟨_, n, rfl, h1, h2, q _ H _ (Ex.refl _) (.int _) h3⟩
  · exact hf.elim
theorem s_strI {i : Int} {k : D → Prop} (h : k (.str (toString i))) (c : i.natAbs.log2 < 1920) : fStrI (.int i) k := ⟨c, h⟩
theorem s_start {a b : Str} {k : D → Prop} (h : k (.bool (Txt.startswith a b))) : fStart (.str a) (.str b) k := h
theorem s_find {a b : Str} {k : D → Prop} (h : k (.int (Txt.find a b))) : fFind (.str a) (.str b) k := h
/-! f-strings -/
def fFmt (d : D) (k : D → Prop) : Prop := match d with
  | .str y => y.length ≤ sizeLine ∧ k (.str y)
  | .int i => i.natAbs.log2 < 1920 ∧ k (.str (toString i))
  | _ => False
def wFmt (w : WE) : WE := fun ρ R E => w ρ (fun d ρ' => fFmt d (fun z => R z ρ')) E
theorem dFmt {e : Expr} {w : WE} {pos : Pos} (h : PE X e (cE K W w)) : PE X (.FormattedValue e (-1) none pos) (cE K W (wFmt w)) :=
  peI (pe_fmt h) fun σ H Q ⟨θ, π, α, ρ, R, E, hR, hw, hq, he⟩ => by
    refine ⟨θ, π, α, ρ, _, E, hR, hw, fun α1 v1 H1 d ρ1 R1 s1 p1 w1 => ?_, he⟩
    unfold fFmt at w1
    split at w1
    · cases p1
      exact .inl ⟨_, rfl, w1.1, hq α1 _ H1 _ ρ1 R1 s1 (.str _) w1.2⟩
    · cases p1
      exact .inr ⟨_, rfl, w1.1, hq α1 _ H1 _ ρ1 R1 s1 (.str _) w1.2⟩
    · exact w1.elim
def wJs : List WE → Str → En → (Str → En → Prop) → EC → Prop
  | [], acc, ρ, R, _ => R acc ρ
  | w :: ws, acc, ρ, R, E => w ρ (fun d ρ' => ∃ y : Str, d = .str y ∧ (acc ++ y).length ≤ sizeLine ∧ wJs ws (acc ++ y) ρ' R E) E
def wJoined (ws : List WE) : WE := fun ρ R E => wJs ws Str.empty ρ (fun out ρ' => R (.str out) ρ') E
inductive DJ (K : PySem.W.Frag) (W : WX) (X : Cx) : List Expr → List WE → Prop where
  | nil : DJ K W X [] []
  | cons {e : Expr} {w : WE} {es : List Expr} {ws : List WE} (h : PE X e (cE K W w)) (r : DJ K W X es ws) : DJ K W X (e :: es) (w :: ws)
theorem dj_pj {es : List Expr} {ws : List WE} (h : DJ K W X es ws) : PJ X es (ws.map fun w => cE K W w) := by
  induction h with
  | nil => exact .nil
  | cons h r ih => exact .cons h ih
theorem can_js : ∀ (ws : List WE) (acc : Str) (σ : L2.St) (H : Hp) (Q : Str → Hp → Prop) {θ : Addr → Prop} {π α : Nat → Option Addr} {ρ : En} {R : Str → En → Prop} {E : EC}, Rel K θ π α σ H ρ → wJs ws acc ρ R E → (∀ α1 H1 out ρ1, Rel K θ π α1 σ H1 ρ1 → Stp θ α H α1 H1 → R out ρ1 → Q out H1) → Exi K W θ π α σ H E → tJs (ws.map fun w => cE K W w) acc σ H Q
  | [], acc, σ, H, Q, θ, π, α, ρ, R, E, hR, hw, hq, _ => hq α H acc ρ hR (Stp.refl ..) hw
  | w :: ws, acc, σ, H, Q, θ, π, α, ρ, R, E, hR, hw, hq, he => by
    refine ⟨θ, π, α, ρ, _, E, hR, hw, fun α1 v1 H1 d ρ1 R1 s1 p1 w1 => ?_, he⟩
    obtain ⟨y, rfl, hy, w1⟩ := w1
    cases p1
    exact ⟨y, rfl, hy, can_js ws (acc ++ y) σ H1 Q R1 w1 (fun α2 H2 out ρ2 R2 s2 r => hq α2 H2 out ρ2 R2 (s1.trans s2) r) (he.step s1)⟩
theorem dJoined {e1 e2 : Expr} {es : List Expr} {ws : List WE} {pos : Pos} (h : DJ K W X (e1 :: e2 :: es) ws) : PE X (.JoinedStr (e1 :: e2 :: es) pos) (cE K W (wJoined ws)) :=
  peI (pe_joined (dj_pj h)) fun σ H Q ⟨θ, π, α, ρ, R, E, hR, hw, hq, he⟩ =>
    can_js ws Str.empty σ H _ hR hw (fun α1 H1 out ρ1 R1 s1 r => hq α1 _ H1 _ ρ1 R1 s1 (.str _) r) he
theorem dJoined1 {e1 : Expr} {w : WE} {pos : Pos} (h : PE X e1 (cE K W w)) : PE X (.JoinedStr [e1] pos) (cE K W w) := pe_joined1 h
theorem s_fmt {w : WE} {R : RC} {E : EC} (h : w ρ (fun d ρ' => fFmt d (fun z => R z ρ')) E) : wFmt w ρ R E := h
theorem s_joined {ws : List WE} {R : RC} {E : EC} (h : wJs ws Str.empty ρ (fun out ρ' => R (.str out) ρ') E) : wJoined ws ρ R E := h
theorem s_js0 {acc : Str} {R : Str → En → Prop} {E : EC} (h : R acc ρ) : wJs [] acc ρ R E := h
theorem s_js {w : WE} {ws : List WE} {acc : Str} {R : Str → En → Prop} {E : EC} (h : w ρ (fun d ρ' => ∃ y : Str, d = .str y ∧ (acc ++ y).length ≤ sizeLine ∧ wJs ws (acc ++ y) ρ' R E) E) : wJs (w :: ws) acc ρ R E := h
/-! xs.reverse() -/
def wRevO (j : Nat) : WS := fun B ρ => ownd ρ j fun ds f => B.nx (f ds.reverse)
theorem dRevO {j : Nat} {s : Stmt} (h : PS X s (tDrop (tBM0 K "list" rReverse (tVar j)))) : PS X s (cS K W (wRevO j)) := psI h fun D σ H ⟨θ, π, α, ρ, B, hR, hw, hf⟩ => by
  obtain ⟨a, vs, ds, f, hs, h1, hd, hn, hc⟩ := hR.change hw
  obtain ⟨r2, s2⟩ := hc vs.reverse ds.reverse (dpA_reverse hd)
  exact ⟨.ref a, hs, .inl ⟨rfl, vs, .inl (.inl h1)⟩, a, vs, rfl, rfl, h1, hf.nx α σ _ _ r2 s2 hn⟩
theorem s_revO {j : Nat} {B : Bx} (h : ownd ρ j fun ds f => B.nx (f ds.reverse)) : wRevO j B ρ := h
/-! divmod of wide numbers -/
def fDvW (d e : D) (k : D → Prop) : Prop := match d, e with
  | .int i, .int j => CDivP i j ∧ k (.tuple [.int (i / j), .int (i % j)])
  | _, _ => False
theorem sr_dvW : SR K (fun x y H Q => ∃ i j, [x, y] = [V.int i, V.int j] ∧ CDivP i j ∧ ∀ p, H p = none → Q (.ref p) (upd H p (.tup [.int (i / j), .int (i % j)]))) fDvW := by
  intro S H x y d e Q R lv hx hy hf q
  unfold fDvW at hf
  split at hf
  · rename_i i j
    cases hx.int; cases hy.int
    exact ⟨i, j, rfl, hf.1, fun p hp => q _ _ _ (Ex.new hp) (new_tup lv hp (.cons (.int _) (.cons (.int _) .nil))) hf.2⟩
  · exact hf.elim
omit [Tbs] in
theorem cdivP {i j : Int} (h0 : 0 < j) (h : j.natAbs.log2 < 9000) : CDivP i j := ⟨h0, PyProof.noPylong_of_log2 h⟩
theorem s_dvW {i j : Int} {k : D → Prop} (h : k (.tuple [.int (i / j), .int (i % j)])) (c : CDivP i j) : fDvW (.int i) (.int j) k := ⟨c, h⟩
end
end Den

set_option maxHeartbeats 4000000
namespace Den
variable [Tbs]
open PySem L2 Evl PySem.Spec PyProof.Rows
section
variable {K : PySem.W.Frag} {W : WX} {X : Cx} {θ : Addr → Prop} {π α : Nat → Option Addr} {σ : L2.St} {H : Hp} {ρ : En} {p : Addr} {o : HO}
/-! texts compared -/
def fLtS (d e : D) (k : D → Prop) : Prop := match d, e with
  | .str i, .str j => k (.bool (decide (i.cps.toList < j.cps.toList)))
  | _, _ => False
theorem sr_ltS : SR K (fun x y H Q => ∃ i j, x = .str i ∧ y = .str j ∧ Q (.bl (decide (i.cps.toList < j.cps.toList))) H) fLtS := by
  intro S H x y d e Q R lv hx hy hf q
  unfold fLtS at hf
  split at hf
  · cases hx.str; cases hy.str
    exact ⟨_, _, rfl, rfl, q _ H _ (Ex.refl _) (.bl _) hf⟩
  · exact hf.elim
def fGeS (d e : D) (k : D → Prop) : Prop := match d, e with
  | .str i, .str j => k (.bool (!decide (i.cps.toList < j.cps.toList)))
  | _, _ => False
theorem sr_geS : SR K (fun x y H Q => ∃ i j, x = .str i ∧ y = .str j ∧ Q (.bl (!decide (i.cps.toList < j.cps.toList))) H) fGeS := by
  intro S H x y d e Q R lv hx hy hf q
  unfold fGeS at hf
  split at hf
  · cases hx.str; cases hy.str
    exact ⟨_, _, rfl, rfl, q _ H _ (Ex.refl _) (.bl _) hf⟩
  · exact hf.elim
theorem s_ltS {a b : Str} {k : D → Prop} (h : k (.bool (decide (a.cps.toList < b.cps.toList)))) : fLtS (.str a) (.str b) k := h
theorem s_geS {a b : Str} {k : D → Prop} (h : k (.bool (!decide (a.cps.toList < b.cps.toList)))) : fGeS (.str a) (.str b) k := h
/-! text * int -/
def repS (a : Str) (i : Int) : Str := ⟨(List.replicate i.toNat a.cps).foldl (· ++ ·) #[]⟩
def rRepS : R2 := fun x y H Q => ∃ a i, x = .str a ∧ y = .int i ∧ 2 ≤ i ∧ i ≤ 1000 ∧ 1 ≤ a.length ∧ a.length ≤ 1000 ∧ Q (.str (repS a i)) H
theorem rep_size (a : Str) : ∀ (n : Nat) (b : Array Nat), ((List.replicate n a.cps).foldl (· ++ ·) b).size = b.size + n * a.cps.size
  | 0, b => by simp
  | n + 1, b => by
    rw [List.replicate_succ, List.foldl_cons, rep_size a n, Array.size_append, Nat.succ_mul]
    omega
theorem op_repS : OpR X (binaryOp .Mult) rRepS := by
  intro pins s σ H x y v u Q I rx ry h
  obtain ⟨a, i, rfl, rfl, h1, h2, h3, h4, q⟩ := h
  obtain ⟨t, rfl⟩ := rx
  obtain ⟨t', rfl⟩ := ry
  have e1 : decide (i < -(2 ^ 63 : Int)) = false := decide_eq_false (by omega)
  have e2 : decide (i ≥ 2 ^ 63) = false := decide_eq_false (by omega)
  have n1 : ¬ i < 1 := by omega
  have n2 : ¬ (i == 1 || a.length == 0) = true := by
    rw [Bool.or_eq_true, beq_iff_eq, beq_iff_eq]
    omega
  have hm : a.length * i.toNat ≤ 1000 * 1000 := Nat.mul_le_mul h4 (by omega)
  refine P.mul_str (by rw [e1, e2]; rfl) (fun _ _ => ?_) (fun _ _ => ?_) ?_
  · have : (1000 : Int) ≤ (2 ^ 63 - 1) / i := (Int.le_ediv_iff_mul_le (by omega)).mpr (by omega)
    omega
  · unfold Builtin.Str.tooLong
    have e := sizeLine_eq
    first
      | (simp [sizeLine]; omega)
      | (rw [decide_eq_false_iff_not]; simp [sizeLine]; omega)
  · rw [if_neg n1, if_neg n2]
    refine ⟨?_, ⟨.str (repS a i), H, I.tok _, ⟨_, rfl⟩, q⟩⟩
    show ((List.replicate i.toNat a.cps).foldl (· ++ ·) #[]).size ≤ sizeLine
    rw [rep_size, sizeLine_eq]
    have : i.toNat * a.cps.size ≤ 1000 * 1000 := Nat.mul_le_mul (by omega) h4
    simp
    omega
def fRepS (d e : D) (k : D → Prop) : Prop := match d, e with
  | .str a, .int i => 2 ≤ i ∧ i ≤ 1000 ∧ 1 ≤ a.length ∧ a.length ≤ 1000 ∧ k (.str (repS a i))
  | _, _ => False
theorem sr_repS : SR K rRepS fRepS := by
  intro S H x y d e Q R lv hx hy hf q
  unfold fRepS at hf
  split at hf
  · cases hx.str; cases hy.int
    obtain ⟨h1, h2, h3, h4, hk⟩ := hf
    exact ⟨_, _, rfl, rfl, h1, h2, h3, h4, q _ H _ (Ex.refl _) (.str _) hk⟩
  · exact hf.elim
/-! text.split(sep): a new list -/
theorem dpA_strs {G : Hp} : ∀ ys : List Str, DpAll K G (ys.map V.str) (ys.map PyData.str)
  | [] => .nil
  | _ :: ys => .cons (.str _) (dpA_strs ys)
def wSplit (wa wb : WL) : WA := fun ρ R E => wa ρ (fun La ρ1 => (∃ a, La ρ1 (.str a)) ∧ wb ρ1 (fun Lb ρ2 => ∃ a b, La ρ2 (.str a) ∧ Lb ρ2 (.str b) ∧ (b.length == 0) = false ∧ a.length + 2 ≤ sizeLine ∧ R ((Txt.split a b).map PyData.str) ρ2) E) E
theorem dSplit {ex a b : Expr} {wa wb : WL} (h : ∀ to te, PE X a to → PE X b te → PE X ex (tM1 (fun x xs H Q => ∃ a b, x = .str a ∧ xs = [.str b] ∧ (b.length == 0) = false ∧ a.length + 2 ≤ sizeLine ∧ rNewStrs (Txt.split a b) H Q) to te)) (ha : PE X a (cL X.K W wa)) (hb : PE X b (cL X.K W wb)) : PE X ex (cF X.K W (wSplit wa wb)) :=
  peI (h _ _ ha hb) fun σ H Q ⟨θ, π, α, ρ, R, E, hR, hw, hq, he⟩ => by
    refine ⟨θ, π, α, ρ, _, E, hR, hw, fun α1 v1 H1 L1 ρ1 R1 s1 l1 w1 => ?_, he⟩
    obtain ⟨⟨a, ha⟩, w1⟩ := w1
    refine ⟨⟨a, (l1 α1 H1 ρ1 R1 (Stp.refl ..) _ ha).str⟩, θ, π, α1, ρ1, _, E, R1, w1, fun α2 v2 H2 L2 ρ2 R2 s2 l2 w2 => ?_, he.step s1⟩
    obtain ⟨a, b, hd, hn, h1, h2, hk⟩ := w2
    have e1 := (l1 α2 H2 ρ2 R2 s2 _ hd).str
    have e2 := (l2 α2 H2 ρ2 R2 (Stp.refl ..) _ hn).str
    subst e1 e2
    refine ⟨a, b, rfl, rfl, h1, h2, fun p hp => ?_⟩
    have e := hid_new (θ := θ) (α := α2) (o := .lst ((Txt.split a b).map V.str)) hp
    have s3 := s1.trans s2
    exact hq α2 p _ _ _ ρ2 (R2.hideNew hp) ⟨by rw [e]; exact s3.1, fun b hb => (s3.2 b hb).trans ((R2.stpNew hp).2 b hb)⟩ (fun z => R2.lv p z hp) upd_same (by rw [e]; exact dpA_strs _) hk
theorem s_split {wa wb : WL} {A : List D → En → Prop} {E : EC} (h : wa ρ (fun La ρ1 => (∃ a, La ρ1 (.str a)) ∧ wb ρ1 (fun Lb ρ2 => ∃ a b, La ρ2 (.str a) ∧ Lb ρ2 (.str b) ∧ (b.length == 0) = false ∧ a.length + 2 ≤ sizeLine ∧ A ((Txt.split a b).map PyData.str) ρ2) E) E) : wSplit wa wb ρ A E := h
/-! sorted(texts): a new list -/
def gSortS (d : D) (k : List D → Prop) : Prop := ∃ ys : List Str, d = .list (ys.map PyData.str) ∧ ys.length < 64 ∧ ∀ zs : List Str, zs.Perm ys → sortedS zs = true → k (zs.map PyData.str)
theorem sn_sortS : SN K (fun x => rSortedS K [x]) gSortS := by
  intro S H x d Q R lv hx hg q
  obtain ⟨ys, rfl, hl, hk⟩ := hg
  obtain ⟨a, vs, rfl, h1, h2⟩ := hx.lst
  have e := dpA_strsV h2
  subst e
  exact ⟨a, ys, rfl, h1, hl, fun zs l hp hs hn => q l _ _ hn (dpA_strs zs) (hk zs hp hs)⟩
end
end Den

set_option maxHeartbeats 4000000
namespace Den
variable [Tbs]
open PySem L2 Evl PySem.Spec PyProof.Rows
/-! sep.join(a generator expression): the texts are pulled into a list of the built-in's own at S -/
abbrev lobj (acc : Array Value) (c : Nat) : Obj := { cls := .type "list", dict := none, data := .seq acc c, slots := #[] }
section
variable {prog : Program} {w : World} {A : Around} {I S : Addr} {R : Array Value → Shared → Prop} {E : Value → Shared → Prop}
def PullL (prog : Program) (w : World) (A : Around) (I S : Addr) (E : Value → Shared → Prop) (R : Array Value → Shared → Prop) : Nat → Shared → Prop
  | 0, s => wpAny (model prog w) A (pyNext (.ref I)) (fun o s' => o = none ∧ ∃ acc c, s'.heap.get? S = some (lobj acc c) ∧ R acc s') E s
  | n + 1, s => wpAny (model prog w) A (pyNext (.ref I)) (fun o s' => (o = none ∧ ∃ acc c, s'.heap.get? S = some (lobj acc c) ∧ R acc s') ∨ ∃ v acc c, o = some v ∧ s'.heap.get? S = some (lobj acc c) ∧ acc.size < sizeLine ∧ PullL prog w A I S E R n { s' with heap := s'.heap.update S (Obj.mapSeq (·.push v)) }) E s
def outL (S : Addr) (R : Array Value → Shared → Prop) (E : Value → Shared → Prop) : Result → Shared → Prop := fun r s => match r with
  | .ok (.ret v) => v = .ref S ∧ ∃ acc c, s.heap.get? S = some (lobj acc c) ∧ R acc s
  | .ok _ => False
  | .error e => E e s
theorem ext_loop : ∀ (n : Nat) (s : Shared), PullL prog w A.in1 I S E R n s → codeAny (model prog w) A (.builtin "list.extend.loop" ⟨[.ref S, .ref I, .ref S], []⟩) (outL S R E) s
  | 0, s, h => by
    refine codeAny_builtin F.entry_extend_loop ?_
    rw [Around.under_plainId F.plain_extend_loop _]
    refine (wpAny_bind (wpAny_mono h (fun o s' q => ?_) fun e s' q => q) : wpAny _ A.in1 (pyNext (.ref I) >>= _) _ _ s)
    obtain ⟨e, acc, c, h1, h2⟩ := q
    subst e
    exact wpAny_pure ⟨rfl, acc, c, h1, h2⟩
  | n + 1, s, h => by
    refine codeAny_builtin F.entry_extend_loop ?_
    rw [Around.under_plainId F.plain_extend_loop _]
    refine (wpAny_bind (wpAny_mono h (fun o s' q => ?_) fun e s' q => q) : wpAny _ A.in1 (pyNext (.ref I) >>= _) _ _ s)
    rcases q with ⟨e, acc, c, h1, h2⟩ | ⟨v, acc, c, e, h1, hz, h2⟩
    · subst e
      exact wpAny_pure ⟨rfl, acc, c, h1, h2⟩
    subst e
    show wpAny _ A.in1 (updateSeq S (·.push v) >>= _) _ _ _
    refine wpAny_bind ?_
    exact wpAny_updateSeq h1 rfl (wpAny_pure ⟨plainId_quiet F.plain_extend_loop _, ext_loop n _ h2⟩) (by omega) (by show (acc.push v).size ≤ sizeLine + 1; rw [Array.size_push]; omega)
theorem collect_pull {s : Shared} {n : Nat} {g : Nat} {Q : List Value → Shared → Prop} (hT : s.heap.IsGen I g) (h : ∀ h' : Heap, (∀ b o, s.heap.get? b = some o → h'.get? b = some o) → (∃ c, h'.get? s.heap.objs.size = some (lobj #[] c)) → PullL prog w A.in1 I s.heap.objs.size E (fun acc s' => Q acc.toList s') n { s with heap := h' }) :
    wpAny (model prog w) A (collect (.ref I)) Q E s := by
  have hlt : I < s.heap.objs.size := by obtain ⟨o, _, _, e, _⟩ := id hT; exact Heap.lt_size e
  have hSI : s.heap.objs.size ≠ I := Nat.ne_of_gt hlt
  unfold collect
  refine wpAny_bind (wpAny_runValue (codeAny_builtin F.entry_proto_collect ?_))
  rw [Around.under_plainId F.plain_proto_collect _]
  show wpAny _ A.in1 (newList [] >>= fun l => again (.builtin "list.__iadd__" ⟨[l, .ref I], []⟩)) _ _ s
  refine wpAny_bind (wpAny_newObj_type ?_)
  refine wpAny_pure ⟨plainId_quiet F.plain_list_iadd _, codeAny_builtin F.entry_list_iadd ?_⟩
  rw [Around.under_plainId F.plain_list_iadd _]
  have hg1 : (s.heap.push { cls := .type "list", data := .seq ([] : List Value).toArray }).IsGen I g := by
    obtain ⟨o, a1, a2, e, r⟩ := hT
    exact ⟨o, a1, a2, Heap.get?_push_of_some _ e, r⟩
  show wpAny _ A.in1 (Builtin.List.listExtendWith (.ref s.heap.objs.size) (.ref I) (.ref s.heap.objs.size)) _ _ _
  unfold Builtin.List.listExtendWith
  refine wpAny_bind (wpAny_typeOf hg1.typeIs ?_)
  have h1 : Builtin.List.listSameRef (.ref s.heap.objs.size) (.ref I) = false := by simp [Builtin.List.listSameRef, hSI]
  have h2 : (Value.type "generator" == Value.type "list") = false := by decide
  have h3 : (Value.type "generator" == Value.type "tuple") = false := by decide
  simp only [h1, h2, h3, Bool.or_false, Bool.false_eq_true, if_false]
  refine wpAny_bind (wpAny_pyIter_gen hg1 ?_)
  refine wpAny_bind (wpAny_holding ?_)
  unfold Builtin.List.listLengthHint
  refine wpAny_bind (wpAny_specialOf hg1.typeIs F.gen_no_len ?_)
  show wpAny _ A.in1 (specialOf (Value.ref I) (Str.ofString "__length_hint__") >>= _) _ _ _
  refine wpAny_bind (wpAny_specialOf hg1.typeIs F.gen_no_hint ?_)
  refine wpAny_pure ?_
  show wpAny _ A.in1 (rule "list.extend.makes-room" >>= fun _ => Builtin.List.listTouch (.ref s.heap.objs.size) >>= fun _ =>
    again (.builtin "list.extend.loop" ⟨[.ref s.heap.objs.size, .ref I, .ref s.heap.objs.size], []⟩)) _ _ _
  refine wpAny_bind (wpAny_rule ?_)
  have hS₁ : (s.heap.push { cls := .type "list", data := .seq ([] : List Value).toArray }).get? s.heap.objs.size = some { cls := .type "list", data := .seq ([] : List Value).toArray } := Heap.get?_push_size _ rfl
  refine wpAny_bind ?_
  show wpAny _ A.in1 (updateSeq s.heap.objs.size (·.push .none) >>= fun _ => updateSeq s.heap.objs.size (·.pop)) _ _ _
  refine wpAny_bind (wpAny_updateSeq hS₁ rfl ?_)
  have hS₂ := Heap.get?_update_self (Obj.mapSeq (·.push Value.none)) hS₁ rfl
  refine wpAny_updateSeq hS₂ rfl ?_
  have hS₃ := Heap.get?_update_self (Obj.mapSeq (·.pop)) hS₂ rfl
  have oth : ∀ b o, b ≠ s.heap.objs.size → (s.heap.push { cls := .type "list", data := .seq ([] : List Value).toArray }).get? b = some o →
      (((s.heap.push { cls := .type "list", data := .seq ([] : List Value).toArray }).update s.heap.objs.size (Obj.mapSeq (·.push Value.none))).update s.heap.objs.size (Obj.mapSeq (·.pop))).get? b = some o :=
    fun b o hb e => (Heap.get?_update_other _ _ (Ne.symm hb)).trans ((Heap.get?_update_other _ _ (Ne.symm hb)).trans e)
  have hp := h _ (fun b o e => oth b o (Nat.ne_of_lt (Heap.lt_size e)) (Heap.get?_push_of_some _ e)) ⟨_, hS₃⟩
  refine wpAny_pure ⟨plainId_quiet F.plain_extend_loop _, codeAny_mono (ext_loop n _ hp) fun r s' z => ?_⟩
  cases r with
  | error e => exact z
  | ok f =>
    cases f with
    | ret v =>
      obtain ⟨e, acc, c, hS', q⟩ := z
      subst e
      show wpAny _ A (load s.heap.objs.size >>= _) _ _ s'
      refine wpAny_bind (wpAny_load hS' ?_)
      exact wpAny_pure q
    | next => exact z.elim
    | brk => exact z.elim
    | cont => exact z.elim
theorem pullL_mono {R R' : Array Value → Shared → Prop} (h : ∀ b s, R b s → R' b s) : ∀ (n : Nat) (s : Shared), PullL prog w A I S E R n s → PullL prog w A I S E R' n s
  | 0, s, q => wpAny_mono q (fun _ _ ⟨e, acc, c, h1, h2⟩ => ⟨e, acc, c, h1, h _ _ h2⟩) fun _ _ z => z
  | n + 1, s, q => wpAny_mono q (fun _ _ z => z.imp (fun ⟨e, acc, c, h1, h2⟩ => ⟨e, acc, c, h1, h _ _ h2⟩) fun ⟨v, acc, c, e, h1, hz, h2⟩ => ⟨v, acc, c, e, h1, hz, pullL_mono h n _ h2⟩) fun _ _ z => z
theorem join_pull {s : Shared} {n g : Nat} {x : Str} {t : Tok} {Q : Value → Shared → Prop} (hT : s.heap.IsGen I g) (h : ∀ h' : Heap, (∀ b o, s.heap.get? b = some o → h'.get? b = some o) → (∃ c, h'.get? s.heap.objs.size = some (lobj #[] c)) → PullL prog w A.in1.in1 I s.heap.objs.size E (fun acc s' => ∃ l : List (Str × Tok), acc.toList = strValues l ∧ JoinOk x (l.map (·.1)) = true ∧ ∀ t' k, Q (.str (Txt.join x (l.map (·.1))) t') { s' with toks := k }) n { s with heap := h' }) :
    wpAny (model prog w) A (call (.builtin "str.join") [.str x t, .ref I]) Q E s := by
  refine wpAny_call (codeAny_call_builtin F.slot_str_join.plain F.entry_str_join (F.slot_str_join.check _ _ _ _ _ _ _ _ (typeIs_str _ _ _) (F.args_str_join_2 _ _) ?_))
  rw [join_tree_other]
  refine wpAny_bind (wpAny_typeOf hT.typeIs ?_)
  show wpAny _ A.in1 ((pyIter (.ref I)).tryCatch _ >>= fun it => collect it >>= fun items => joinTail x items) _ _ s
  refine wpAny_bind (wpAny_tryCatch (wpAny_pyIter_gen hT ?_))
  refine wpAny_bind (collect_pull (n := n) hT fun h' k e => pullL_mono (fun acc s' q => ?_) n _ (h h' k e))
  obtain ⟨l, el, hok, hpost⟩ := q
  rw [el]
  unfold JoinOk at hok
  rw [Bool.not_eq_true'] at hok
  have g : Gives (joinTail x (strValues l)) (joinMade x l) := by
    have g0 := gives_joinTail x l hok
    cases l with
    | nil => exact g0
    | cons p r => cases r with
      | nil => exact g0
      | cons q r' => exact g0
  exact g prog w A (wants Q E) s' (post_join l ⟨joinFit_length hok, hpost⟩)
/-! a generator that is pulled so -/
def YL (a : Addr) (g : Nat) (S : Addr) : Protocol := fun _ _ v s kap => ∃ acc c, s.heap.get? S = some (lobj acc c) ∧ acc.size < sizeLine ∧ g < s.gens.size ∧ (s.heap.update S (Obj.mapSeq (·.push v))).IsGen a g ∧ (s.heap.update S (Obj.mapSeq (·.push v))).NoLimit ∧
  ∀ x : GenState, x.bare = true → kap (.send .none) (({ s.setGen g x with heap := s.heap.update S (Obj.mapSeq (·.push v)) } : Shared).setGen g .running)
def RL (g : Nat) (S : Addr) (R : Array Value → Shared → Prop) : GenEnd := fun _ _ r s => r = .ok .next ∧ ∀ h' : Heap, (∀ b o, s.heap.get? b = some o → h'.get? b = some o) → ∃ acc c, h'.get? S = some (lobj acc c) ∧ R acc { s.setGen g .finished with heap := h' }
theorem pull_genL {a : Addr} {g : Nat} (hh : A.handled = none) (hroom : A.depth < recursionLimit) : ∀ (n : Nat) (s : Shared) (x : GenState), s.heap.NoLimit → s.heap.IsGen a g → s.gens[g]? = some x →
    x.Goes (model prog w) A.in1 (RL g S R) (YL a g S) n (.send .none) (s.setGen g .running) → PullL prog w A a S E R n s
  | 0, s, x, hl, hg, hx, go => by
    refine wpAny_pyNext_genexpQ (P := fun _ _ s₁ => ∀ h' : Heap, (∀ b o, s₁.heap.get? b = some o → h'.get? b = some o) → ∃ acc c, h'.get? S = some (lobj acc c) ∧ R acc { s₁.setGen g .finished with heap := h' }) (Y := YL a g S) (n := 0) hh hl hroom hg hx go (fun v s1 y hb hv => ?_) fun s1 hp h' hk => ⟨rfl, hp h' hk⟩
    obtain ⟨_, _, _, _, _, _, _, q⟩ := hv
    exact (q .finished rfl).elim
  | n + 1, s, x, hl, hg, hx, go => by
    refine wpAny_pyNext_genexpQ (P := fun _ _ s₁ => ∀ h' : Heap, (∀ b o, s₁.heap.get? b = some o → h'.get? b = some o) → ∃ acc c, h'.get? S = some (lobj acc c) ∧ R acc { s₁.setGen g .finished with heap := h' }) (Y := YL a g S) (n := n + 1) hh hl hroom hg hx go (fun v s1 y hb hv => ?_) fun s1 hp h' hk => .inl ⟨rfl, hp h' hk⟩
    obtain ⟨acc, c, hS, hz, hlt, hg1, hl1, q⟩ := hv
    refine .inr ⟨v, acc, c, rfl, hS, hz, pull_genL hh hroom n _ y hl1 hg1 ?_ (q y hb)⟩
    simp [Shared.setGen, hlt]
/-- one turn: a text is handed out; T i: the state ahead of the turn i -/
structure GTurnL (prog : Program) (w : World) (A : Around) (a : Addr) (g : Nat) (S : Addr) (R : Array Value → Shared → Prop) (it : Addr) (tg elt : Expr) (env : Env) (n : Nat) (T : Nat → Shared → Prop) : Prop where
  done : ∀ s, T n s → wpAny (model prog w) A (pyNext (.ref it)) (fun o s' => o = none ∧ ∀ h' : Heap, (∀ b o, s'.heap.get? b = some o → h'.get? b = some o) → ∃ acc c, h'.get? S = some (lobj acc c) ∧ R acc { s'.setGen g .finished with heap := h' }) (fun _ _ => False) s
  item : ∀ i s, i < n → T i s → wpAny (model prog w) A (pyNext (.ref it)) (fun o s' => ∃ v, o = some v ∧ wpAny (model prog w) A (letOwnedTupleGo tg (.ref it) v) (fun _ s1 => wpAny (model prog w) A (assign tg env v) (fun _ s2 =>
    wpAny (model prog w) A (eval elt env) (fun y s3 => ∃ acc c, s3.heap.get? S = some (lobj acc c) ∧ acc.size < sizeLine ∧ g < s3.gens.size ∧ (s3.heap.update S (Obj.mapSeq (·.push y))).IsGen a g ∧ (s3.heap.update S (Obj.mapSeq (·.push y))).NoLimit ∧
      ∀ x : GenState, x.bare = true → T (i + 1) (({ s3.setGen g x with heap := s3.heap.update S (Obj.mapSeq (·.push y)) } : Shared).setGen g .running)) (fun _ _ => False) s2) (fun _ _ => False) s1) (fun _ _ => False) s') (fun _ _ => False) s
theorem seg_turnsL {a it : Addr} {g n : Nat} {tg elt iter : Expr} {scope : Scope} {pos : Pos} {env : Env} {T : Nat → Shared → Prop} (hco : env.scope.isCoroutine = false)
    (G : GTurnL prog w (A.over (.compLoop (.GeneratorExp elt [⟨tg, iter, [], 0⟩] scope pos) 0 (.ref it) .none env) []) a g S R it tg elt env n T) :
    ∀ (k i : Nat) (s₀ s : Shared), n - i = k → i ≤ n → T i s → Seg (model prog w) A (RL g S R) (YL a g S) k s₀ (.compLoop (.GeneratorExp elt [⟨tg, iter, [], 0⟩] scope pos) 0 (.ref it) .none env)
      ((model prog w).den (.compLoop (.GeneratorExp elt [⟨tg, iter, [], 0⟩] scope pos) 0 (.ref it) .none env)) [] s := by
  intro k
  induction k with
  | zero =>
    intro i s₀ s hk hi ht
    have e : i = n := by omega
    subst e
    show Seg _ A _ _ _ s₀ _ ((compTurn (.GeneratorExp elt [⟨tg, iter, [], 0⟩] scope pos) 0 (.ref it) .none env).onRaise (leaving env)) [] s
    rw [compTurn_gen, Sem.onRaise_eq_wrap]
    refine seg_bind_wrap (wpAny_standAt (seg_bind_wrap (wpAny_mono (G.done s ht) (fun o s' q => ?_) fun _ _ q => q.elim)))
    obtain ⟨e, q⟩ := q
    subst e
    exact seg_end (.ok .next) ⟨rfl, q⟩
  | succ k ih =>
    intro i s₀ s hk hi ht
    have hlt : i < n := by omega
    show Seg _ A _ _ _ s₀ _ ((compTurn (.GeneratorExp elt [⟨tg, iter, [], 0⟩] scope pos) 0 (.ref it) .none env).onRaise (leaving env)) [] s
    rw [compTurn_gen, Sem.onRaise_eq_wrap]
    refine seg_bind_wrap (wpAny_standAt (seg_bind_wrap (wpAny_mono (G.item i s hlt ht) (fun o s' q => ?_) fun _ _ q => q.elim)))
    obtain ⟨v, e, q⟩ := q
    subst e
    refine seg_bind_wrap (wpAny_mono q (fun _ s1 q => seg_bind_wrap (wpAny_mono q (fun _ s2 q => ?_) fun _ _ q => q.elim)) fun _ _ q => q.elim)
    simp only [List.forIn_nil]
    refine seg_bind_wrap (wpAny_pure ?_)
    simp only [if_true]
    have hy : ∀ v, yieldOut env v = yieldValue v := fun v => by simp only [yieldOut, hco, Bool.false_eq_true, if_false]
    simp only [hy]
    rw [Sem.bind_eq_wrap', Sem.bind_eq_wrap', Sem.wrap_wrap, Sem.wrap_wrap]
    refine seg_wrap (wpAny_mono q (fun y s3 q => ?_) fun _ _ q => q.elim)
    obtain ⟨acc, c, hS, hz, hlt2, hg, hl, q⟩ := q
    refine seg_at (seg_yield rfl rfl rfl ⟨acc, c, hS, hz, hlt2, hg, hl, fun x hx => seg_again rfl (ih (i + 1) _ _ (by omega) hlt (q x hx))⟩)
theorem seg_firstL {a it : Addr} {g n : Nat} {tg elt iter : Expr} {scope : Scope} {pos : Pos} {env : Env} {T : Nat → Shared → Prop} (hco : env.scope.isCoroutine = false)
    (G : GTurnL prog w (A.over (.compLoop (.GeneratorExp elt [⟨tg, iter, [], 0⟩] scope pos) 0 (.ref it) .none env) []) a g S R it tg elt env n T)
    (hs : ∀ (s : Shared) (Q : Value → Shared → Prop) (E : Value → Shared → Prop), T 0 s → Q (.ref it) s → wpAny (model prog w) (A.over (.compStart (.GeneratorExp elt [⟨tg, iter, [], 0⟩] scope pos) 0 (.ref it) .none env) []) (pyIter (.ref it)) Q E s)
    (s₀ s : Shared) (ht : T 0 s) : Seg (model prog w) A (RL g S R) (YL a g S) n s₀ (.compStart (.GeneratorExp elt [⟨tg, iter, [], 0⟩] scope pos) 0 (.ref it) .none env)
      ((model prog w).den (.compStart (.GeneratorExp elt [⟨tg, iter, [], 0⟩] scope pos) 0 (.ref it) .none env)) [] s := by
  have loop := seg_turnsL (iter := iter) (scope := scope) (pos := pos) hco G n 0 s₀ s (Nat.sub_zero _) (Nat.zero_le _) ht
  show Seg _ A _ _ _ s₀ _ ((compStart (.GeneratorExp elt [⟨tg, iter, [], 0⟩] scope pos) 0 (.ref it) .none env).onRaise (leaving env)) [] s
  unfold compStart
  rw [Sem.onRaise_eq_wrap]
  show Seg _ A _ _ _ s₀ _ ((ask >>= _).wrap _ _ _ _) [] s
  refine seg_bind_wrap (wpAny_askSetting ?_)
  split
  · exact seg_again rfl loop
  · refine seg_bind_wrap (wpAny_rule ?_)
    show Seg _ A _ _ _ s₀ _ ((standAt iter.pos >>= _).wrap _ _ _ _) [] s
    exact seg_bind_wrap (wpAny_standAt (seg_bind_wrap (hs s _ _ ht (seg_again rfl loop))))
end
section
variable {X : Cx} {pins : List (Addr × Obj)} {σ τ : L2.St} {H : Hp} {s : Shared}
/-- what is left when the texts are all there -/
def ThruL (X : Cx) (Qc : List Str → Hp → Prop) (acc : Array Value) (s : Shared) : Prop := ∃ ps σ H, ∃ ys : List Str, Inv X ps σ H s ∧ Vals (ys.map V.str) acc.toList ∧ Qc ys H
theorem gturnL {a it S : Addr} {g n : Nat} {tg elt : Expr} {J : It} {fp : List Addr} {tn : Nat → Heap → Prop} {gG : TG} {te : TE} {ps : List (Addr × Obj)} {o : Obj} {Iv : Nat → List Str → L2.St → Hp → Prop} {Qc : List Str → Hp → Prop} (hc : X.calm = true) (hx : X.xe = fun _ _ => False) (hSa : S ≠ a) (hSf : S ∉ fp)
    (Tn : Turn X.prog X.w X.K tg J fp it tn) (hg : PG X tg gG) (he : PE X elt te) (hp : (a, o) ∈ ps) (ho : ∀ h : Heap, h.get? a = some o → h.IsGen a g)
    (hgo : ∀ i ys σ H, i < n → Iv i ys σ H → J.go i H ∧ ∀ x H2, J.yld i H x H2 → gG x σ H2 (fun σ2 H3 => te σ2 H3 (fun v H4 => ∃ y : Str, v = .str y ∧ ys.length < sizeLine ∧ Iv (i + 1) (ys ++ [y]) σ2 H4)))
    (hst : ∀ ys σ H, Iv n ys σ H → J.stop n H ∧ Qc ys H) :
    GTurnL X.prog X.w X.A a g S (ThruL X Qc) it tg elt X.env n (fun i s => ∃ σ H acc c, ∃ ys : List Str, Inv X ps σ H s ∧ (∀ b ∈ fp, FpOk X ps H b) ∧ tn i s.heap ∧ g < s.gens.size ∧ s.heap.get? S = some (lobj acc c) ∧ FpOk X ps H S ∧ Vals (ys.map V.str) acc.toList ∧ Iv i ys σ H) where
  done := by
    rintro s ⟨σ, H, acc, c, ys, I, hf, ht, _, hS, hfS, hv, iv⟩
    obtain ⟨st, q⟩ := hst ys σ H iv
    have I1 := I.pinned (fp := [S]) (fun b hb => by rw [List.mem_singleton.mp hb]; exact hfS) (fun b hb => by rw [List.mem_singleton.mp hb]; exact ⟨_, hS, fun v z => by cases z⟩)
    have hf1 : ∀ b ∈ fp, FpOk X (ps ++ pinsAt [S] s.heap) H b := fun b hb => by
      obtain ⟨f0, f1, f2, f3, f4, f5⟩ := hf b hb
      refine ⟨f0, f1, f2, f3, f4, fun p hp' => ?_⟩
      rcases List.mem_append.mp hp' with z | z
      · exact f5 p (List.mem_append_left _ z)
      · rcases List.mem_append.mp z with z | z
        · exact f5 p (List.mem_append_right _ z)
        · rw [List.mem_singleton.mp (of_pinsAt z).1]
          exact fun e => hSf (e ▸ hb)
    refine wpAny_mono (Tn.done X rfl rfl rfl hc n _ s σ H (fun _ _ => False) I1 hf1 ht st) (fun r s1 z => ⟨z.1, fun h' hk => ⟨acc, c, hk _ _ (z.2.pin (S, lobj acc c) (List.mem_append_right _ (List.mem_append_right _ (mem_pinsAt (List.mem_singleton.mpr rfl) hS)))).1, ps ++ pinsAt [S] s.heap, σ, H, ys, ?_, hv, q⟩⟩) fun _ _ z => z
    exact inv_gens (G := (s1.setGen g .finished).gens) (z.2.kept (t' := s1.toks) hk) (bare_set z.2.bare rfl)
  item := by
    rintro i s hi ⟨σ, H, acc, c, ys, I, hf, ht, hlt, hS, hfS, hv, iv⟩
    obtain ⟨go, stp⟩ := hgo i ys σ H hi iv
    have I1 := I.pinned (fp := [S]) (fun b hb => by rw [List.mem_singleton.mp hb]; exact hfS) (fun b hb => by rw [List.mem_singleton.mp hb]; exact ⟨_, hS, fun v z => by cases z⟩)
    have hf1 : ∀ b ∈ fp, FpOk X (ps ++ pinsAt [S] s.heap) H b := fun b hb => by
      obtain ⟨f0, f1, f2, f3, f4, f5⟩ := hf b hb
      refine ⟨f0, f1, f2, f3, f4, fun p hp' => ?_⟩
      rcases List.mem_append.mp hp' with z | z
      · exact f5 p (List.mem_append_left _ z)
      · rcases List.mem_append.mp z with z | z
        · exact f5 p (List.mem_append_right _ z)
        · rw [List.mem_singleton.mp (of_pinsAt z).1]
          exact fun e => hSf (e ▸ hb)
    refine GenW.wpAny_gsz (n := g + 1) hlt (wpAny_mono (Tn.item X rfl rfl rfl hc i _ s σ H (fun _ _ => False) I1 hf1 ht go) (fun r s1 z hs1 => ?_) fun _ _ z => z.elim)
    obtain ⟨u, e, z⟩ := z
    refine ⟨u, e, GenW.wpAny_gsz hs1 (wpAny_mono z (fun _ s2 z hs2 => ?_) fun _ _ z => z.elim)⟩
    obtain ⟨x, H2, I2, r2, y2, t2, f2⟩ := z
    have pS := I2.pin (S, lobj acc c) (List.mem_append_right _ (List.mem_append_right _ (mem_pinsAt (List.mem_singleton.mpr rfl) hS)))
    have I2u := I2.unpinned
    have stat : ∀ b ∈ S :: fp, FpOk X ps H2 b := fun b hb => by
      rcases List.mem_cons.mp hb with e | hb
      · rw [e]; exact ⟨pS.2.1, hfS.2⟩
      · exact ⟨f2 b hb, (hf b hb).2⟩
    have objs : ∀ b ∈ S :: fp, ∃ o, s2.heap.get? b = some o ∧ ∀ v, o.data ≠ .cell v := fun b hb => by
      rcases List.mem_cons.mp hb with e | hb
      · rw [e]; exact ⟨_, pS.1, fun v z => by cases z⟩
      · exact Tn.obj _ _ t2 b hb
    have I2' := I2u.pinned stat objs
    refine GenW.wpAny_gsz hs2 (wpAny_mono (hg.run _ s2 σ H2 x u _ I2' r2 (stp x H2 y2)) (fun _ s3 z hs3 => ?_) fun _ _ z => by rw [hx] at z; exact z.elim)
    obtain ⟨σ3, H3, I3, q3⟩ := z
    refine GenW.wpAny_gsz hs3 (wpAny_mono (he.run _ s3 σ3 H3 _ I3 q3) (fun y s4 z hs4 => ?_) fun _ _ z => by rw [hx] at z; exact z.elim)
    obtain ⟨v, H4, I4, r4, b, e4, hyl, q4⟩ := z
    subst e4
    obtain ⟨tk, ey⟩ := (show ∃ t, y = Value.str b t from r4)
    have p4 := I4.pin (S, lobj acc c) (List.mem_append_right _ (List.mem_append_right _ (mem_pinsAt List.mem_cons_self pS.1)))
    have ga := (I4.unpinned.pin (a, o) (List.mem_append_right _ hp)).1
    have hl : acc.size = ys.length := by
      have := hv.length
      rw [List.length_map, Array.length_toList] at this
      exact this.symm
    have ot : ∀ b' o', b' ≠ S → s4.heap.get? b' = some o' → (s4.heap.update S (Obj.mapSeq (·.push y))).get? b' = some o' := fun b' o' hb e => (Heap.get?_update_other _ _ (Ne.symm hb)).trans e
    have hfS4 : FpOk X ps H4 S := ⟨p4.2.1, hfS.2⟩
    have I5 : Inv X ps σ3 H4 { s4 with heap := s4.heap.update S (Obj.mapSeq (·.push y)) } := by
      obtain ⟨f0, f1, f2, f3, f4, f5⟩ := hfS4
      exact I4.unpinned.turned (t' := s4.toks) ot f0 f1 f3 f4 f5
    refine ⟨acc, c, p4.1, by omega, hs4, ho _ (ot _ _ (Ne.symm hSa) ga), I5.nolimit, fun x hx => ?_⟩
    have I6 := inv_set (g := g) (x := .running) (inv_set (g := g) (x := x) I5 hx) rfl
    refine ⟨σ3, H4, acc.push y, _, ys ++ [b], I6, fun b hb => ?_, ?_, by simp [Shared.setGen]; exact hs4, Heap.get?_update_self _ p4.1 rfl, hfS4, ?_, q4⟩
    · obtain ⟨o', e, d⟩ := Tn.obj _ _ t2 b hb
      exact ⟨(I4.pin (b, o') (List.mem_append_right _ (List.mem_append_right _ (mem_pinsAt (List.mem_cons_of_mem _ hb) e)))).2.1, (hf b hb).2⟩
    · exact Tn.keep _ _ _ t2 fun b hb o' e => ot _ _ (fun z => hSf (z ▸ hb)) (I4.pin (b, o') (List.mem_append_right _ (List.mem_append_right _ (mem_pinsAt (List.mem_cons_of_mem _ hb) e)))).1
    · rw [List.map_append, Array.toList_push]
      exact hv.append (.cons (by rw [ey]; exact ⟨tk, rfl⟩) .nil)
theorem vals_strs : ∀ {ys : List Str} {us : List Value}, Vals (ys.map V.str) us → ∃ l : List (Str × Tok), us = strValues l ∧ l.map (·.1) = ys
  | [], _, h => by cases h; exact ⟨[], rfl, rfl⟩
  | y :: ys, _, h => by
    cases h with
    | cons h1 h2 =>
      obtain ⟨t, e⟩ := (show ∃ t, _ = Value.str y t from h1)
      subst e
      obtain ⟨l, e1, e2⟩ := vals_strs h2
      exact ⟨(y, t) :: l, by rw [e1]; rfl, by rw [← e2]; rfl⟩
def tGenJ (P : Addr) (tf : L2.St → L2.St) (to : TE) (ti : TI) (gG : TG) (te : TE) : TE := fun σ H Q => to σ H fun v H0 => ∃ sep : Str, v = .str sep ∧ ti σ H0 fun J H1 => GxR.TabG H1 P ∧ ∀ H2, GxR.Tabbed P H1 H2 → ∃ (n : Nat) (Iv : Nat → List Str → L2.St → Hp → Prop), Iv 0 [] (tf σ) H2 ∧
  (∀ i ys σ' H', i < n → Iv i ys σ' H' → J.go i H' ∧ ∀ x H3, J.yld i H' x H3 → gG x σ' H3 (fun σ2 H4 => te σ2 H4 (fun v H5 => ∃ y : Str, v = .str y ∧ ys.length < sizeLine ∧ Iv (i + 1) (ys ++ [y]) σ2 H5))) ∧
  ∀ ys σ' H', Iv n ys σ' H' → J.stop n H' ∧ JoinOk sep ys = true ∧ Q (.str (Txt.join sep ys)) H'
abbrev genA1 (A : Around) (tg iter elt : Expr) (scope : Scope) (gpos : Pos) (it : Addr) (env : Env) : Around := A.in1.in1.in1.over (.compLoop (.GeneratorExp elt [⟨tg, iter, [], 0⟩] scope gpos) 0 (.ref it) .none env) []
theorem pe_joinGen {c P : Addr} {o tg elt iter : Expr} {apos cpos gpos : Pos} {scope : Scope} {to : TE} {ti : TI} {gG : TG} {te : TE} {k : Nat} {N : List Str} {tf : L2.St → L2.St}
    (hr : Room (k + 1) X.A) (TB : GxR.TabB X.base X.mg c P) (hcode : X.env.code = .ref c) (L : GenSc X.env.scope scope) (hdot : scope.names.lookup (".0" : Str) = some NameKind.local) (ho : PE X o to) (hi : PI X tg iter ti)
    (hs : ∀ v, genFold iter X.env v = pure v)
    (hlen : ∀ σ : L2.St, σ.length = X.N.length → (tf σ).length = N.length) (hτ : ∀ (σ : L2.St) (i : Nat) (y : Str) (v : V), N[i]? = some y → (tf σ)[i]? = some (some v) → Vis scope y → X.N[i]? = some y ∧ σ[i]? = some (some v) ∧ scope.names.lookup y = some .free)
    (hbody : ∀ (A : Around) (s : Shared) (H : Hp) (fp : List Addr) (code : Value), Room k A → PG (genCx X A s H N fp (genEnv scope (cloFrom X.env.cells scope.names []) s.heap.objs.size code builtinsNs X.env)) tg gG ∧ PE (genCx X A s H N fp (genEnv scope (cloFrom X.env.cells scope.names []) s.heap.objs.size code builtinsNs X.env)) elt te)
    (hbase : attributeBase o "join" X.env (eval o X.env) = eval o X.env := by rfl)
    (hfew : ((backTo cpos (starEach [.GeneratorExp elt [⟨tg, iter, [], 0⟩] scope gpos] X.env)).all (fun x => !x.1) && (backToKw cpos (keywordEach [] X.env)).all (fun x => x.1.isSome)
      && decide (([.GeneratorExp elt [⟨tg, iter, [], 0⟩] scope gpos] : List Expr).length + ([] : List Keyword).length + (if ([] : List Keyword).isEmpty then 0 else 1) < 30)) = true := by rfl)
    (hline : (apos.endLine == cpos.line) = true := by rfl)
    (he : starEach [.GeneratorExp elt [⟨tg, iter, [], 0⟩] scope gpos] X.env = (false, eval (.GeneratorExp elt [⟨tg, iter, [], 0⟩] scope gpos) X.env) :: starEach [] X.env := by rfl)
    (hplain : (backTo cpos (starEach [] X.env)).any (·.1) = false := by rfl) :
    PE X (.Call (.Attribute o "join" apos) [.GeneratorExp elt [⟨tg, iter, [], 0⟩] scope gpos] [] cpos) (tGenJ P tf to ti gG te) := by
  refine ⟨fun pins s σ H Q I h => ?_⟩
  refine wpAny_Call_method_late hbase hfew hline rfl (thn (ho.run pins s σ H _ I h) fun v s1 ⟨x', H0, I0, r1, sep, ex, q1⟩ => ?_)
  subst ex
  obtain ⟨tk0, rfl⟩ := (show ∃ t, v = Value.str sep t from r1)
  refine ⟨"str", _, PySem.F.plainAttrs_str, PySem.F.slot_str_join, PySem.F.type_str_join, typeIs_str _ _ _, (fun _ e => nomatch e), ?_⟩
  rw [he]
  refine Calls.callWith_builtin (by show (false || (backTo cpos (starEach [] X.env)).any (·.1)) = false; rw [hplain] <;> rfl) (Calls.evalArgs_plain ?_)
  show wpAny _ _ (spliced ((false, eval (.GeneratorExp elt [⟨tg, iter, [], 0⟩] scope gpos) X.env) :: backTo cpos (starEach [] X.env))) _ _ s1
  refine Calls.spliced_cons (gen_make hr TB hcode L hdot hi hs I0 q1 fun it fp tn J H1 H2 s4 code h1 t tk hR hT I4 T t0 f0 flt hns kp hsz => ?_)
  refine Calls.spliced_nil ?_
  obtain ⟨n, Iv, iv0, hgo, hst⟩ := hR H2 hT
  have isg : (h1.push (genO s4.gens.size (X.env.qual ++ "<genexpr>") t)).IsGen h1.objs.size s4.gens.size := ⟨_, _, _, Heap.get?_push_size _ rfl, rfl, rfl, rfl⟩
  have kp2 : ∀ b o, s4.heap.get? b = some o → (h1.push (genO s4.gens.size (X.env.qual ++ "<genexpr>") t)).get? b = some o := fun b o e => Heap.get?_push_of_some _ (kp b o e)
  have hnew : s4.heap.objs.size ≤ h1.objs.size := Nat.le_of_lt hsz
  have hfr : (genA1 X.A tg iter elt scope gpos it (genEnv scope (cloFrom X.env.cells scope.names []) s4.heap.objs.size code builtinsNs X.env)).frames = some (genEnv scope (cloFrom X.env.cells scope.names []) s4.heap.objs.size code builtinsNs X.env :: X.stack) := by
    have q := I4.ok.frames
    show (X.A.frames).map _ = _
    rw [q]; rfl
  have hroomA : Room k (genA1 X.A tg iter elt scope gpos it (genEnv scope (cloFrom X.env.cells scope.names []) s4.heap.objs.size code builtinsNs X.env)) := by
    have d := hr.dp
    have u := hr.un
    refine ⟨hr.hd, ?_, ?_⟩
    · show X.A.depth + 0 + 1 + 3 * k + 5 < _
      omega
    · have e : (genA1 X.A tg iter elt scope gpos it (genEnv scope (cloFrom X.env.cells scope.names []) s4.heap.objs.size code builtinsNs X.env)).units ≤ X.A.units + 9 := by
        show X.A.in1.in1.in1.units + 0 + _ ≤ _
        simp [Around.in1, Code.cUnits]
        show X.A.units + 3 + 3 * 1 ≤ _
        omega
      omega
  have hps : ∀ q ∈ [(h1.objs.size, genO s4.gens.size (X.env.qual ++ "<genexpr>") t)], (h1.push (genO s4.gens.size (X.env.qual ++ "<genexpr>") t)).get? q.1 = some q.2 ∧ H2 q.1 = none ∧ q.1 ≠ s4.heap.objs.size ∧ q.1 ∉ frs X.stack ∧ ∀ v, q.2.data ≠ .cell v := by
    intro q hq
    rw [List.mem_singleton.mp hq]
    refine ⟨Heap.get?_push_size _ rfl, I4.hok.fresh hnew, Nat.ne_of_gt hsz, fun z => ?_, fun v z => by cases z⟩
    rcases List.mem_cons.mp (I4.stkSub _ z) with e | e
    · have q1 := I4.lt
      rw [← e] at q1
      exact Nat.lt_irrefl _ (Nat.lt_of_lt_of_le q1 hnew)
    · exact I4.nofs hnew e
  have hex : ∀ b ∈ fp, b < s4.heap.objs.size ∧ (∀ o, X.base.get? b ≠ some o) ∧ b ∉ frs X.stack ∧ ∀ x c, X.env.cells.lookup x = some c → c ≠ b := by
    intro b hb
    obtain ⟨q1, q2, q3, q4, q5, q6⟩ := f0 b hb
    refine ⟨flt b hb, fun o e => ?_, fun z => ?_, q5⟩
    · rcases q4 with z | z
      · exact I4.ok.noex b o e z
      · exact Nat.lt_irrefl _ (Nat.lt_of_lt_of_le (Heap.lt_size e) (Nat.le_trans I4.ok.bsz z))
    · rcases List.mem_cons.mp (I4.stkSub _ z) with e | e
      · exact q2 e
      · exact q3 e
  have J00 := gen_start (D := s4.drawn) (tk := tk) (fp := fp) (τ := tf σ) I4 L hroomA.hd hfr (hns.keeps fun b o e => Heap.get?_push_of_some _ e) kp2 (AllBare.push I4.bare (g := .fresh (.compStart (.GeneratorExp elt [⟨tg, iter, [], 0⟩] scope gpos) 0 (.ref it) .none (genEnv scope (cloFrom X.env.cells scope.names []) s4.heap.objs.size code builtinsNs X.env))) rfl) hex (hlen σ I4.len) (hτ σ) hps
  have bd := hbody _ s4 H2 fp code hroomA
  refine join_pull (n := n) isg fun h' hk hS => ?_
  obtain ⟨c0, hS⟩ := hS
  have hSz : (h1.push (genO s4.gens.size (X.env.qual ++ "<genexpr>") t)).objs.size = h1.objs.size + 1 := Heap.size_push ..
  have hfS : FpOk (genCx X (genA1 X.A tg iter elt scope gpos it (genEnv scope (cloFrom X.env.cells scope.names []) s4.heap.objs.size code builtinsNs X.env)) s4 H2 N fp (genEnv scope (cloFrom X.env.cells scope.names []) s4.heap.objs.size code builtinsNs X.env)) [(h1.objs.size, genO s4.gens.size (X.env.qual ++ "<genexpr>") t)] H2 (h1.push (genO s4.gens.size (X.env.qual ++ "<genexpr>") t)).objs.size :=
    J00.fpOk (Nat.le_refl _) (I4.hok.fresh (by rw [hSz]; omega))
  have J0 := J00.kept (t' := tk) hk
  have isg' : h'.IsGen h1.objs.size s4.gens.size := by
    obtain ⟨o1, a1, a2, e, r⟩ := isg
    exact ⟨o1, a1, a2, hk _ _ e, r⟩
  have fpg : ∀ b ∈ fp, FpOk (genCx X (genA1 X.A tg iter elt scope gpos it (genEnv scope (cloFrom X.env.cells scope.names []) s4.heap.objs.size code builtinsNs X.env)) s4 H2 N fp (genEnv scope (cloFrom X.env.cells scope.names []) s4.heap.objs.size code builtinsNs X.env)) [(h1.objs.size, genO s4.gens.size (X.env.qual ++ "<genexpr>") t)] H2 b := by
    intro b hb
    refine ⟨(f0 b hb).1, Nat.ne_of_lt (flt b hb), (hex b hb).2.2.1, .inl hb, fun x c e => ((J0.ok.exf b hb).2 x c e), fun q hq => ?_⟩
    have hq : q ∈ [] ++ [(h1.objs.size, genO s4.gens.size (X.env.qual ++ "<genexpr>") t)] := hq
    rw [List.mem_singleton.mp hq]
    exact Nat.ne_of_gt (Nat.lt_of_lt_of_le (flt b hb) hnew)
  have hSf : (h1.push (genO s4.gens.size (X.env.qual ++ "<genexpr>") t)).objs.size ∉ fp := fun hb => by
    have := flt _ hb
    have e := hSz
    have e2 := hsz
    exact Nat.lt_irrefl _ (Nat.lt_trans (Nat.lt_trans (Nat.lt_of_lt_of_eq (Nat.lt_succ_self _) e.symm) this) e2)
  have GT := gturnL (X := (genCx X (genA1 X.A tg iter elt scope gpos it (genEnv scope (cloFrom X.env.cells scope.names []) s4.heap.objs.size code builtinsNs X.env)) s4 H2 N fp (genEnv scope (cloFrom X.env.cells scope.names []) s4.heap.objs.size code builtinsNs X.env))) (S := (h1.push (genO s4.gens.size (X.env.qual ++ "<genexpr>") t)).objs.size) (g := s4.gens.size) (a := h1.objs.size) (n := n) (Iv := Iv) (Qc := fun ys H' => JoinOk sep ys = true ∧ Q (.str (Txt.join sep ys)) H') (J := J) (tn := tn) (it := it) rfl rfl (by rw [hSz]; exact Nat.succ_ne_self _) hSf T bd.1 bd.2 (List.mem_singleton.mpr rfl) (fun h e => ⟨genO s4.gens.size (X.env.qual ++ "<genexpr>") t, _, _, e, rfl, rfl, rfl⟩) hgo hst
  have tn0 : tn 0 h' := T.keep _ _ _ t0 fun b hb o e => hk _ _ (kp2 b o e)
  refine pullL_mono (R := ThruL (genCx X (genA1 X.A tg iter elt scope gpos it (genEnv scope (cloFrom X.env.cells scope.names []) s4.heap.objs.size code builtinsNs X.env)) s4 H2 N fp (genEnv scope (cloFrom X.env.cells scope.names []) s4.heap.objs.size code builtinsNs X.env)) fun ys H' => JoinOk sep ys = true ∧ Q (.str (Txt.join sep ys)) H') (fun acc s' z => ?_) n _ (pull_genL (A := X.A.in1.in1) hr.hd (by have := hr.dp; show X.A.depth < _; omega) n _ _ J0.nolimit isg' (Array.getElem?_push_size ..) ⟨rfl, ?_⟩)
  · obtain ⟨ps', σ', H', ys, IG, hv, jok, q⟩ := z
    obtain ⟨l, e1, e2⟩ := vals_strs hv
    refine ⟨l, e1, by rw [e2]; exact jok, fun t' k' => ?_⟩
    obtain ⟨hh, g', d', t'', os'⟩ := s'
    have os1 : os' = s4.os := IG.os
    subst os1
    rw [e2]
    have z4 := I4.call (h' := hh) (g' := g') (d' := d') (t' := k') (ch := fp) IG.base IG.hok IG.bare (fun b hb => ⟨(f0 b hb).2.2.2.1, (f0 b hb).2.1, (f0 b hb).2.2.2.2.1, (f0 b hb).2.2.2.2.2⟩)
    exact ⟨.str _, H', z4, ⟨t', rfl⟩, q⟩
  · exact seg_firstL L.co GT (fun s' Q' E' ⟨_, _, _, _, _, _, _, ht, _⟩ hq => T.self _ 0 s' Q' E' ht hq) _ _ ⟨tf σ, H2, #[], c0, [], inv_set J0 rfl, fpg, tn0, by simp [Shared.setGen], hS, hfS, .nil, iv0⟩
end
section
variable {K : PySem.W.Frag} {W : WX} {X : Cx} {θ : Addr → Prop} {π α : Nat → Option Addr} {σ : L2.St} {H : Hp} {ρ : En} {p : Addr} {o : HO}
/-- sep.join(a generator expression) -/
def wJoinG (wo : WE) (cs : List Bool) (wi : WI) (wg : WG) (we : WE) : WE := fun ρ R E => wo ρ (fun d0 ρ0 => ∃ sep : Str, d0 = .str sep ∧ wi ρ0 (fun ds ρ1 => ∃ Inv : Nat → List Str → En → Prop, Inv 0 [] (maskE cs ρ1) ∧
  (∀ i d ys ρ', ds[i]? = some d → Inv i ys ρ' → wg d ρ' (fun ρ2 => we ρ2 (fun y ρ3 => ∃ z : Str, y = .str z ∧ ys.length < sizeLine ∧ Inv (i + 1) (ys ++ [z]) ρ3) NoE) NoE) ∧
  ∀ ys ρ', Inv ds.length ys ρ' → JoinOk sep ys = true ∧ R (.str (Txt.join sep ys)) ρ1) E) E
theorem can_joinG {P : Addr} (hP : Tbs.T P) {cs : List Bool} {wo : WE} {wi : WI} {wg : WG} {we : WE} (σ : L2.St) (H : Hp) (Q : VK) : cE K W (wJoinG wo cs wi wg we) σ H Q → tGenJ P (maskS cs) (cE K W wo) (cI K W wi) (cG K WNo wg) (cE K WNo we) σ H Q := by
  rintro ⟨θ, π, α, ρ, R, E, hR, hw, hq, he⟩
  refine ⟨θ, π, α, ρ, _, E, hR, hw, fun α0 v0 H0 d0 ρ0 R0 s0 p0 w0 => ?_, he⟩
  obtain ⟨sep, rfl, hw⟩ := w0
  cases p0
  refine ⟨sep, rfl, θ, π, α0, ρ0, _, E, R0, hw, fun α1 J H1 ds ρ1 R1 s1 hJ w1 => ?_, he.step s0⟩
  obtain ⟨Inv, i0, step, fin⟩ := w1
  have s1 := s0.trans s1
  have tP := (R1.tb P hP).2
  refine ⟨tP, fun H2 t2 => ?_⟩
  obtain ⟨R2, s2⟩ := R1.extT (tabbed_ext hP tP t2)
  have Rg := R2.gen (bs := cs)
  refine ⟨ds.length, fun i ys σ' H' => ∃ αg ρ', Rel K (Sof θ α1) (fun _ => none) αg σ' H' ρ' ∧ Stp (Sof θ α1) (fun _ => none) H2 αg H' ∧ Inv i ys ρ', ⟨_, _, Rg, Stp.refl .., i0⟩, ?_, ?_⟩
  · rintro i ys σ' H' hi ⟨αg, ρ', R', s', iv⟩
    have x' : Ex (hidS (Sof θ α1) H1) (hidS (Sof (Sof θ α1) αg) H') := s2.1.trans (by have z := s'.1; rw [Sof_none] at z; exact z)
    obtain ⟨j1, j2⟩ := hJ _ H' i R'.live x'
    obtain ⟨g1, g2⟩ := j2 ds[i] (by simp [hi])
    refine ⟨g1, fun x H3 y => ?_⟩
    obtain ⟨ex, dp⟩ := g2 x H3 y
    refine ⟨_, _, αg, ρ', ds[i], _, _, R'.ext ex, dp, step i ds[i] ys ρ' (by simp [hi]) iv, fun α4 σ4 H4 ρ4 R4 s4 w4 => ?_, Exi.no⟩
    refine ⟨_, _, α4, ρ4, _, _, R4, w4, fun α5 v H5 y5 ρ5 R5 s5 p5 w5 => ?_, Exi.no⟩
    obtain ⟨z, rfl, hl, w5⟩ := w5
    have sg := ((s'.trans (R'.stp ex)).trans s4).trans s5
    cases p5
    exact ⟨z, rfl, hl, α5, ρ5, R5, sg, w5⟩
  · rintro ys σ' H' ⟨αg, ρ', R', s', iv⟩
    have x' : Ex (hidS (Sof θ α1) H1) (hidS (Sof (Sof θ α1) αg) H') := s2.1.trans (by have z := s'.1; rw [Sof_none] at z; exact z)
    obtain ⟨j1, j2⟩ := hJ _ H' ds.length R'.live x'
    obtain ⟨Rz, sz⟩ := R2.back0 s'
    obtain ⟨jok, w5⟩ := fin ys ρ' iv
    exact ⟨j1 rfl, jok, hq α1 _ H' _ ρ1 Rz ((s1.trans s2).trans sz) (.str _) w5⟩
theorem dJoinG {c P : Addr} {eo tg elt iter : Expr} {apos pos gpos : Pos} {scope : Scope} {wo : WE} {wi : WI} {wg : WG} {we : WE} {k : Nat} {cs : List Bool} (hP : Tbs.T P) (hr : Room (k + 1) X.A) (TB : GxR.TabB X.base X.mg c P) (hcode : X.env.code = .ref c) (L : GenSc X.env.scope scope) (hdot : scope.names.lookup (".0" : Str) = some NameKind.local) (hcap : capOk X.N cs scope = true) (ho : PE X eo (cE X.K W wo)) (hi : PI X tg iter (cI X.K W wi))
    (hbody : ∀ (A : Around) (s : Shared) (H : Hp) (fp : List Addr) (code : Value), Room k A → PG (genCx X A s H X.N fp (genEnv scope (cloFrom X.env.cells scope.names []) s.heap.objs.size code builtinsNs X.env)) tg (cG X.K WNo wg) ∧ PE (genCx X A s H X.N fp (genEnv scope (cloFrom X.env.cells scope.names []) s.heap.objs.size code builtinsNs X.env)) elt (cE X.K WNo we))
    (hs : ∀ v, genFold iter X.env v = pure v := by intro _; rfl)
    (hbase : attributeBase eo "join" X.env (eval eo X.env) = eval eo X.env := by rfl)
    (hfew : ((backTo pos (starEach [.GeneratorExp elt [⟨tg, iter, [], 0⟩] scope gpos] X.env)).all (fun x => !x.1) && (backToKw pos (keywordEach [] X.env)).all (fun x => x.1.isSome)
      && decide (([.GeneratorExp elt [⟨tg, iter, [], 0⟩] scope gpos] : List Expr).length + ([] : List Keyword).length + (if ([] : List Keyword).isEmpty then 0 else 1) < 30)) = true := by rfl)
    (hline : (apos.endLine == pos.line) = true := by rfl)
    (he : starEach [.GeneratorExp elt [⟨tg, iter, [], 0⟩] scope gpos] X.env = (false, eval (.GeneratorExp elt [⟨tg, iter, [], 0⟩] scope gpos) X.env) :: starEach [] X.env := by rfl)
    (hplain : (backTo pos (starEach [] X.env)).any (·.1) = false := by rfl) :
    PE X (.Call (.Attribute eo "join" apos) [.GeneratorExp elt [⟨tg, iter, [], 0⟩] scope gpos] [] pos) (cE X.K W (wJoinG wo cs wi wg we)) :=
  peI (pe_joinGen (N := X.N) (tf := maskS cs) hr TB hcode L hdot ho hi hs (fun σ h => (maskS_len cs σ).trans h) (fun σ i y v h1 h2 _ => ⟨h1, (maskS_at h2).2, capOk_at hcap h1 (maskS_at h2).1⟩) hbody hbase hfew hline he hplain) (can_joinG hP)
theorem s_joinG {wo : WE} {cs : List Bool} {wi : WI} {wg : WG} {we : WE} {R : RC} {E : EC} (h : wo ρ (fun d0 ρ0 => ∃ sep : Str, d0 = .str sep ∧ wi ρ0 (fun ds ρ1 => ∃ Inv : Nat → List Str → En → Prop, Inv 0 [] (maskE cs ρ1) ∧
  (∀ i d ys ρ', ds[i]? = some d → Inv i ys ρ' → wg d ρ' (fun ρ2 => we ρ2 (fun y ρ3 => ∃ z : Str, y = .str z ∧ ys.length < sizeLine ∧ Inv (i + 1) (ys ++ [z]) ρ3) NoE) NoE) ∧
  ∀ ys ρ', Inv ds.length ys ρ' → JoinOk sep ys = true ∧ R (.str (Txt.join sep ys)) ρ1) E) E) : wJoinG wo cs wi wg we ρ R E := h
end
end Den

set_option maxHeartbeats 4000000
namespace Den
variable [Tbs]
open PySem L2 Evl PySem.Spec PyProof.Rows
section
variable {K : PySem.W.Frag} {W : WX} {X : Cx} {θ : Addr → Prop} {π α : Nat → Option Addr} {σ : L2.St} {H : Hp} {ρ : En} {p : Addr} {o : HO}
/-! ord -/
def fOrd (d : D) (k : D → Prop) : Prop := match d with
  | .str a => a.length = 1 ∧ k (.int (a.cps.getD 0 0 : Nat))
  | _ => False
theorem su_ord : SU K (fun x H Q => ∃ a, [x] = [V.str a] ∧ a.length = 1 ∧ Q (.int (a.cps.getD 0 0 : Nat)) H) fOrd := by
  intro S H x d Q R lv hx hf q
  unfold fOrd at hf
  split at hf
  · cases hx.str
    exact ⟨_, rfl, hf.1, q _ H _ (Ex.refl _) (.int _) hf.2⟩
  · exact hf.elim
theorem s_ord {c : Nat} {k : D → Prop} (h : k (.int (c : Nat))) : fOrd (.str ⟨#[c]⟩) k := ⟨rfl, h⟩
/-! text.index(text) -/
def fSIx (d e : D) (k : D → Prop) : Prop := match d, e with
  | .str a, .str b => ∃ i rest, Builtin.Str.occurrences a b 0 a.length 1 = i :: rest ∧ k (.int (i : Nat))
  | _, _ => False
theorem sr_six : SR K (fun x y H Q => ∃ a b i rest, x = .str a ∧ [y] = [V.str b] ∧ Builtin.Str.occurrences a b 0 a.length 1 = i :: rest ∧ Q (.int (i : Nat)) H) fSIx := by
  intro S H x y d e Q R lv hx hy hf q
  unfold fSIx at hf
  split at hf
  · obtain ⟨i, rest, h1, h2⟩ := hf
    cases hx.str; cases hy.str
    exact ⟨_, _, i, rest, rfl, rfl, h1, q _ H _ (Ex.refl _) (.int _) h2⟩
  · exact hf.elim
/-! in, not in: data of any depth -/
def fInN (neg : Bool) (d e : D) (k : D → Prop) : Prop := ∃ ds, e = .list ds ∧ SeqAt.shaped d = true ∧ SeqAt.shaped (.list ds) = true ∧ k (.bool (if neg then !ds.any (fun z => PyData.eqv z d) else ds.any fun z => PyData.eqv z d))
theorem sr_inN : SR K (rInD K) (fInN false) := by
  intro S H x y d e Q R lv hx hy hf q
  obtain ⟨ds, rfl, h1, h2, hk⟩ := hf
  exact ⟨d, ds, hx.full, hy.full, h1, h2, q _ H _ (Ex.refl _) (.bl _) hk⟩
theorem sr_ninN : SR K (rNotInD K) (fInN true) := by
  intro S H x y d e Q R lv hx hy hf q
  obtain ⟨ds, rfl, h1, h2, hk⟩ := hf
  exact ⟨d, ds, hx.full, hy.full, h1, h2, q _ H _ (Ex.refl _) (.bl _) hk⟩
theorem s_inN {neg : Bool} {d : D} {ds : List D} {k : D → Prop} (h1 : SeqAt.shaped d = true) (h2 : SeqAt.shaped (.list ds) = true) (h : k (.bool (if neg then !ds.any (fun z => PyData.eqv z d) else ds.any fun z => PyData.eqv z d))) : fInN neg d (.list ds) k := ⟨ds, rfl, h1, h2, h⟩
/-! xs.extend(a tuple) -/
omit [Tbs] in
theorem extend_tup (l : Addr) (items : Array Value) (n : Nat) (b : Addr) (items2 : Array Value) (n2 : Nat) (dd : Option Addr) (sl : Array (Option Value)) (hs0 : ¬(!items.isEmpty && Builtin.List.listTooLong (items.size + items2.size)) = true) (hs1 : items.size ≤ sizeLine) (hs2 : items.size + items2.size ≤ sizeLine + 1) :
    Meets (Builtin.«list.extend» ⟨[.ref l, .ref b], []⟩) (fun _ R s => s.heap.get? l = some { cls := .type "list", dict := none, data := .seq items n, slots := #[] } ∧ s.heap.get? b = some { cls := .type "tuple", dict := dd, data := .seq items2 n2, slots := sl } ∧ R (.ok (.ret Value.none)) { s with heap := s.heap.update l (Obj.mapSeq fun x => x ++ items2), toks := s.toks }) :=
  .of_wp fun prog w A R s h => by
    obtain ⟨hp, g, d, tk, os⟩ := s; obtain ⟨hl, hb, h⟩ := h; have f1 := AutoSeq1.idx_int; have f2 := AutoSeq1.sub_tuple_tuple; have f3 := AutoSeq1.sub_list_list; have f4 := AutoSeq1.sub_tuple_list; have f5 := AutoSeq1.sub_list_tuple;
    have hz' : (items ++ items2).size ≤ sizeLine + 1 := by rw [Array.size_append]; exact hs2
    wp_walk using (wpAny_updateSeq hl rfl (hz := hs1) (_hz' := hz')), wpAny_loadPart' hl, wpAny_loadPart' hb; exact ⟨_, rfl, h⟩
def rExtT (K : PySem.W.Frag) : V → List V → Hp → VK → Prop := fun x vs H Q => ∃ l b xs zs, x = .ref l ∧ vs = [.ref b] ∧ H l = some (.lst xs) ∧ SqT K H b zs ∧ xs.length + zs.length ≤ sizeLine ∧ Q .non (upd H l (.lst (xs ++ zs)))
omit [Tbs] in
theorem mt_extT : MtM X "list.extend" (rExtT X.K) := by
  intro pins s σ H x vs v us Q I rx rv h
  obtain ⟨l, b, xs, zs, rfl, rfl, hH, hB, hz, q⟩ := h
  cases rx
  obtain ⟨u, rfl, ru⟩ := rv.one
  cases ru
  obtain ⟨z, its, n, r, hl, e⟩ := I.lstM hH
  obtain ⟨its2, r2, ⟨⟨cls, dd, data, sl⟩, e2, hc, n2, hd⟩, hs⟩ := I.tuple hB
  simp only at hc hd
  subst hc hd
  have hl2 : its2.length = zs.length := r2.length.symm
  have hsz : its.toArray.size + its2.toArray.size ≤ sizeLine := by rw [List.size_toArray, List.size_toArray]; omega
  have hlong : ¬ (!its.toArray.isEmpty && Builtin.List.listTooLong (its.toArray.size + its2.toArray.size)) = true := by
    rw [notLongL hsz, Bool.and_false]
    exact Bool.false_ne_true
  refine call_meets F.slot_list_extend ⟨_, e, rfl⟩ F.entry_list_extend (F.args_list_extend_2 _ _)
    (extend_tup l its.toArray n b its2.toArray n2 dd sl hlong (by rw [List.size_toArray]; omega) (by omega)) ⟨e, e2, ?_⟩
  refine ⟨.non, _, I.lset (its' := its ++ its2) hH e (by simp) (r.append r2) ?_, rfl, q⟩
  rw [List.length_append]
  omega
def wExtV (j : Nat) (w : WE) : WS := fun B ρ => (∃ k, ownd ρ j k) ∧ w ρ (fun d ρ' => ∃ es, d = .tuple es ∧ ownd ρ' j fun ds f => ds.length + es.length ≤ sizeLine ∧ B.nx (f (ds ++ es))) B.rs
theorem dExtV {j : Nat} {s : Stmt} {w : WE} (h : PS X s (tDrop (tBM K "list" (rExtT K) (tVar j) (tCons (cE K W w) tNil)))) : PS X s (cS K W (wExtV j w)) := psI h fun D σ H ⟨θ, π, α, ρ, B, hR, hw, hf⟩ => by
  obtain ⟨⟨k0, hk0⟩, hw⟩ := hw
  obtain ⟨a0, vs0, ds0, f0, hs0, h0, _, _, _⟩ := hR.change hk0
  refine ⟨.ref a0, hs0, .inl ⟨rfl, vs0, .inl (.inl h0)⟩, θ, π, α, ρ, _, _, hR, hw, fun α1 v1 H1 d1 ρ1 R1 s1 p1 w1 => ?_, hf.exi⟩
  obtain ⟨es, rfl, w1⟩ := w1
  cases p1 with
  | tup h1 hA =>
    rename_i b zs
    obtain ⟨a, vs, ds, f, hs, h2, hd, ⟨hl, hn⟩, hc⟩ := R1.change w1
    rw [hs0] at hs
    cases hs
    obtain ⟨r3, s3⟩ := hc (vs ++ zs) (ds ++ es) (dpA_app hd hA)
    exact ⟨a0, b, vs, zs, rfl, rfl, h2, ex_t hidS_ex h1, by rw [dpA_len hd, dpA_len hA]; exact hl, hf.nx α1 σ _ _ r3 (s1.trans s3) hn⟩
variable {nx : En → Prop} {rt : D → En → Prop} {rf : List D → En → Prop} {bk ct : En → Prop} {rs : Addr → En → Prop}
theorem s_extV {j : Nat} {w : WE} (h : (∃ k, ownd ρ j k) ∧ w ρ (fun d ρ' => ∃ es, d = .tuple es ∧ ownd ρ' j fun ds f => ds.length + es.length ≤ sizeLine ∧ nx (f (ds ++ es))) rs) : wExtV j w ⟨nx, rt, rf, bk, ct, rs⟩ ρ := h
/-! tuple * n, n from 0 on -/
omit [Tbs] in
theorem tuple_mul0 (l : Addr) (items : Array Value) (n : Nat) (dd : Option Addr) (sl : Array (Option Value)) (u : Tok) (c1 : items.isEmpty = false) :
    Meets (Builtin.«tuple.__mul__» ⟨[.ref l, .int 0 u], []⟩) (fun _ R s => s.heap.get? l = some { cls := .type "tuple", dict := dd, data := .seq items n, slots := sl } ∧
      R (.ok (.ret (Value.ref s.heap.objs.size))) { s with heap := s.heap.push { cls := Value.type "tuple", data := Data.seq (#[] : Array Value) }, toks := s.toks }) :=
  .of_wp fun prog w A R s h => by
    obtain ⟨hp, g, d, tk, os⟩ := s
    obtain ⟨hl, h⟩ := h
    have f1 := AutoSeq1.idx_int
    have c1' : (items.isEmpty || (0 : Int) == 1) = false := by rw [c1]; rfl
    have c2 : (decide ((0 : Int) ≤ 0) || items.isEmpty) = true := by simp
    wp_walk using wpAny_loadPart' hl
    repeat (first
      | (refine wpAny_ite_false (by decide) ?_; wp_walk using wpAny_loadPart' hl)
      | (refine wpAny_ite_false (decide_eq_false (by rw [c1']; exact Bool.false_ne_true)) ?_; wp_walk using wpAny_loadPart' hl)
      | (refine wpAny_ite_true (decide_eq_true (by rw [c2])) ?_; wp_walk using wpAny_loadPart' hl)
      | (refine wpAny_ite_false (decide_eq_false (Nat.not_lt.mpr (Nat.zero_le _))) ?_; wp_walk using wpAny_loadPart' hl))
    exact ⟨_, rfl, h⟩
def rRep0 (K : PySem.W.Frag) : R2 := fun x y H Q => rRepA K x y H Q ∨ ∃ l xs, x = .ref l ∧ y = .int 0 ∧ SqT K H l xs ∧ xs ≠ [] ∧ ∀ p, H p = none → Q (.ref p) (upd H p (.tup []))
omit [Tbs] in
theorem op_rep0 : OpR X (binaryOp .Mult) (rRep0 X.K) := by
  refine op_repA.or ?_
  intro pins s σ H x y v u Q I rx ry h
  obtain ⟨l, xs, rfl, rfl, hT, hne, q⟩ := h
  cases rx
  obtain ⟨t, rfl⟩ := ry
  obtain ⟨its, r, ⟨⟨cls, dd, data, sl⟩, ho, hc, n, hd⟩, hs⟩ := I.tuple hT
  simp only at hc hd
  subst hc hd
  have hle : its.length = xs.length := r.length.symm
  have hn : its ≠ [] := fun e => hne (by
    rw [e] at hle
    exact List.eq_nil_of_length_eq_zero hle.symm)
  have hi : its.toArray.isEmpty = false := by
    cases its with
    | nil => exact absurd rfl hn
    | cons a b => rfl
  refine wpAny_binaryOp_repeat_ref (T := "tuple") (U := "int") (by decide) ⟨_, ho, rfl⟩ (fun s' => typeIs_int s' 0 t) noFill_tuple_mul F.fills_int_mul F.slot_int_rmul repeat_tuple F.slot_int_index.lookup
    (call_meets F.slot_int_rmul (typeIs_int s 0 t) F.entry_int_rmul (F.args_int_rmul_2 _ _) (int_rmul_tuple 0 t l its.toArray n dd sl)
      ⟨ho, rfl, ⟨_, ho, rfl⟩, call_meets F.slot_tuple_mul ⟨_, ho, rfl⟩ F.entry_tuple_mul (F.args_tuple_mul_2 _ _) (tuple_mul0 l its.toArray n dd sl t hi) ⟨ho, ?_⟩⟩)
  refine ⟨.ref s.heap.objs.size, _, I.laid (t' := s.toks) (o := .tup []) (fun b ob q => Heap.get?_push_of_some _ q) (Nat.le_refl _) ?_, rfl, q _ (I.hok.fresh (Nat.le_refl _))⟩
  exact ⟨by show (0 : Nat) ≤ sizeLine; exact Nat.zero_le _, [], .nil, IsTup.new _ _⟩
def fRep0 (d e : D) (k : D → Prop) : Prop := match d, e with
  | .tuple ds, .int n => ds ≠ [] ∧ 0 ≤ n ∧ n ≤ 1000 ∧ ds.length ≤ 1000 ∧ k (.tuple (List.replicate n.toNat ds).flatten)
  | _, _ => False
theorem sr_rep0 : SR K (rRep0 K) fRep0 := by
  intro S H x y d e Q R lv hx hy hf q
  unfold fRep0 at hf
  split at hf
  · rename_i ds n
    obtain ⟨h0, h1, h2, h3, hr⟩ := hf
    by_cases hn : n = 0
    · subst hn
      have ey := hy.int
      subst ey
      cases hx with
      | val hv =>
        cases hv with
        | tup t1 t2 =>
          rename_i a vs
          have hl := dpA_len t2
          refine .inr ⟨a, vs, rfl, rfl, ex_t hidS_ex t1, fun e => ?_, fun p hp => ?_⟩
          · rw [e] at hl; exact h0 (List.eq_nil_of_length_eq_zero hl.symm)
          · exact q _ _ _ (Ex.new hp) (new_tup lv hp .nil) hr
    · exact .inl (sr_rep S H x y _ _ Q R lv hx hy (show fRepT (.tuple ds) (.int n) R from ⟨h0, by omega, h2, h3, hr⟩) q)
  · exact hf.elim
theorem s_rep0 {ds : List D} {n : Int} {k : D → Prop} (h : k (.tuple (List.replicate n.toNat ds).flatten)) (h0 : ds ≠ []) (h1 : 0 ≤ n) (h2 : n ≤ 1000) (h3 : ds.length ≤ 1000) : fRep0 (.tuple ds) (.int n) k := ⟨h0, h1, h2, h3, h⟩
end
end Den
namespace L2
open PySem PySem.Spec PyProof.Rows in
theorem Room.units65 {k : Nat} {A : Around} (r : Room k A) : A.units + 65 < cLine := by have := r.un; omega
end L2
namespace Lw
open PySem L2 Den Evl PySem.Spec PyProof.Rows Zn
def top (i : Nat) : Stmt := PySem.Challenge.pw_lotshown_k05_octets_and_packings.main.body.getD i (.Pass ⟨0, 0, 0, 0⟩)
abbrev sis_number : Stmt := top 8
abbrev Nis_number : List Str := ["value", "least", "most"]
abbrev Pis_number : List Str := ["value", "least", "most"]
theorem scis_number : FnScope Nis_number Pis_number (defScope sis_number) := ⟨rfl, rfl, rfl, by decide +kernel, rfl, by decide +kernel, by decide +kernel⟩
abbrev s_law_draws : Stmt := top 24
abbrev N_law_draws : List Str := ["script", "draws", "cell", "seed", "k", "number", "first"]
abbrev P_law_draws : List Str := ["script"]
theorem sc_law_draws : FnScope N_law_draws P_law_draws (defScope s_law_draws) := ⟨rfl, rfl, rfl, by decide +kernel, rfl, by decide +kernel, by decide +kernel⟩
abbrev s_law_take : Stmt := top 25
abbrev N_law_take : List Str := ["draws", "bound"]
abbrev P_law_take : List Str := ["draws", "bound"]
theorem sc_law_take : FnScope N_law_take P_law_take (defScope s_law_take) := ⟨rfl, rfl, rfl, by decide +kernel, rfl, by decide +kernel, by decide +kernel⟩
abbrev s_law_power : Stmt := top 27
abbrev N_law_power : List Str := ["base", "exponent", "product", "k"]
abbrev P_law_power : List Str := ["base", "exponent"]
theorem sc_law_power : FnScope N_law_power P_law_power (defScope s_law_power) := ⟨rfl, rfl, rfl, by decide +kernel, rfl, by decide +kernel, by decide +kernel⟩
abbrev s_law_told : Stmt := top 28
abbrev N_law_told : List Str := ["error", "kinds", "kind"]
abbrev P_law_told : List Str := ["error"]
theorem sc_law_told : FnScope N_law_told P_law_told (defScope s_law_told) := ⟨rfl, rfl, rfl, by decide +kernel, rfl, by decide +kernel, by decide +kernel⟩
abbrev s_law_number : Stmt := top 31
abbrev N_law_number : List Str := ["octets", "number", "octet"]
abbrev P_law_number : List Str := ["octets"]
theorem sc_law_number : FnScope N_law_number P_law_number (defScope s_law_number) := ⟨rfl, rfl, rfl, by decide +kernel, rfl, by decide +kernel, by decide +kernel⟩
abbrev s_law_hex : Stmt := top 32
abbrev N_law_hex : List Str := ["octets", "signs", "text", "octet"]
abbrev P_law_hex : List Str := ["octets"]
theorem sc_law_hex : FnScope N_law_hex P_law_hex (defScope s_law_hex) := ⟨rfl, rfl, rfl, by decide +kernel, rfl, by decide +kernel, by decide +kernel⟩
abbrev s_law_unhex : Stmt := top 33
abbrev N_law_unhex : List Str := ["text", "signs", "k", "sign"]
abbrev P_law_unhex : List Str := ["text"]
theorem sc_law_unhex : FnScope N_law_unhex P_law_unhex (defScope s_law_unhex) := ⟨rfl, rfl, rfl, by decide +kernel, rfl, by decide +kernel, by decide +kernel⟩
abbrev s_law_pack : Stmt := top 34
abbrev N_law_pack : List Str := ["parts", "found", "part"]
abbrev P_law_pack : List Str := ["parts"]
theorem sc_law_pack : FnScope N_law_pack P_law_pack (defScope s_law_pack) := ⟨rfl, rfl, rfl, by decide +kernel, rfl, by decide +kernel, by decide +kernel⟩
abbrev sof_number : Stmt := top 15
abbrev Nof_number : List Str := ["number", "size", "at"]
abbrev Pof_number : List Str := ["number", "size"]
theorem scof_number : FnScope Nof_number Pof_number (defScope sof_number) := ⟨rfl, rfl, rfl, by decide +kernel, rfl, by decide +kernel, by decide +kernel⟩
abbrev snumber_of : Stmt := top 16
abbrev Nnumber_of : List Str := ["octets", "number", "octet", "half"]
abbrev Pnumber_of : List Str := ["octets"]
theorem scnumber_of : FnScope Nnumber_of Pnumber_of (defScope snumber_of) := ⟨rfl, rfl, rfl, by decide +kernel, rfl, by decide +kernel, by decide +kernel⟩
abbrev sof_text : Stmt := top 17
abbrev Nof_text : List Str := ["text", "codes", "sign", "code"]
abbrev Pof_text : List Str := ["text"]
theorem scof_text : FnScope Nof_text Pof_text (defScope sof_text) := ⟨rfl, rfl, rfl, by decide +kernel, rfl, by decide +kernel, by decide +kernel⟩
abbrev shexed : Stmt := top 18
abbrev Nhexed : List Str := ["octets", "octet"]
abbrev Phexed : List Str := ["octets"]
theorem schexed : FnScope Nhexed Phexed (defScope shexed) := ⟨rfl, rfl, rfl, by decide +kernel, rfl, by decide +kernel, by decide +kernel⟩
abbrev sis_hex : Stmt := top 20
abbrev Nis_hex : List Str := ["text", "sign"]
abbrev Pis_hex : List Str := ["text"]
theorem scis_hex : FnScope Nis_hex Pis_hex (defScope sis_hex) := ⟨rfl, rfl, rfl, by decide +kernel, rfl, by decide +kernel, by decide +kernel⟩
abbrev s_law_octets : Stmt := top 29
abbrev N_law_octets : List Str := ["draws", "most", "unused"]
abbrev P_law_octets : List Str := ["draws", "most"]
theorem sc_law_octets : FnScope N_law_octets P_law_octets (defScope s_law_octets) := ⟨rfl, rfl, rfl, by decide +kernel, rfl, by decide +kernel, by decide +kernel⟩
abbrev s_law_unpack : Stmt := top 35
abbrev N_law_unpack : List Str := ["octets", "parts", "left", "turn", "size"]
abbrev P_law_unpack : List Str := ["octets"]
theorem sc_law_unpack : FnScope N_law_unpack P_law_unpack (defScope s_law_unpack) := ⟨rfl, rfl, rfl, by decide +kernel, rfl, by decide +kernel, by decide +kernel⟩
abbrev s_law_bent : Stmt := top 37
abbrev N_law_bent : List Str := ["draws", "text", "at", "sign"]
abbrev P_law_bent : List Str := ["draws", "text"]
theorem sc_law_bent : FnScope N_law_bent P_law_bent (defScope s_law_bent) := ⟨rfl, rfl, rfl, by decide +kernel, rfl, by decide +kernel, by decide +kernel⟩
abbrev sis_octets : Stmt := top 14
abbrev Nis_octets : List Str := ["value", "most", "octet"]
abbrev Pis_octets : List Str := ["value", "most"]
theorem scis_octets : FnScope Nis_octets Pis_octets (defScope sis_octets) := ⟨rfl, rfl, rfl, by decide +kernel, rfl, by decide +kernel, by decide +kernel⟩
abbrev sunhexed : Stmt := top 19
abbrev Nunhexed : List Str := ["text", "halves", "sign", "at"]
abbrev Punhexed : List Str := ["text"]
theorem scunhexed : FnScope Nunhexed Punhexed (defScope sunhexed) := ⟨rfl, rfl, rfl, by decide +kernel, rfl, by decide +kernel, by decide +kernel⟩
abbrev spacked : Stmt := top 21
abbrev Npacked : List Str := ["parts", "row", "part"]
abbrev Ppacked : List Str := ["parts"]
theorem scpacked : FnScope Npacked Ppacked (defScope spacked) := ⟨rfl, rfl, rfl, by decide +kernel, rfl, by decide +kernel, by decide +kernel⟩
abbrev sunpacked : Stmt := top 22
abbrev Nunpacked : List Str := ["octets", "parts", "at", "first"]
abbrev Punpacked : List Str := ["octets"]
theorem scunpacked : FnScope Nunpacked Punpacked (defScope sunpacked) := ⟨rfl, rfl, rfl, by decide +kernel, rfl, by decide +kernel, by decide +kernel⟩
abbrev s_law_try : Stmt := top 30
abbrev N_law_try : List Str := ["which", "one", "two", "error"]
abbrev P_law_try : List Str := ["which", "one", "two"]
theorem sc_law_try : FnScope N_law_try P_law_try (defScope s_law_try) := ⟨rfl, rfl, rfl, by decide +kernel, rfl, by decide +kernel, by decide +kernel⟩
abbrev s_law_same : Stmt := top 26
abbrev N_law_same : List Str := ["actual", "due", "k"]
abbrev P_law_same : List Str := ["actual", "due"]
theorem sc_law_same : FnScope N_law_same P_law_same (defScope s_law_same) := ⟨rfl, rfl, rfl, by decide +kernel, rfl, by decide +kernel, by decide +kernel⟩
abbrev s_law_are_judged : Stmt := top 36
abbrev N_law_are_judged : List Str := ["draws", "octets", "odd", "at", "more", "tries", "one"]
abbrev P_law_are_judged : List Str := ["draws", "octets"]
theorem sc_law_are_judged : FnScope N_law_are_judged P_law_are_judged (defScope s_law_are_judged) := ⟨rfl, rfl, rfl, by decide +kernel, rfl, by decide +kernel, by decide +kernel⟩
abbrev slaw : Stmt := top 38
abbrev Nlaw : List Str := ["script", "draws", "octets", "number", "size", "text", "turn", "parts", "handed", "row", "at", "other", "due", "unused", "part", "sign"]
abbrev Plaw : List Str := ["script"]
theorem sclaw : FnScope Nlaw Plaw (defScope slaw) := ⟨rfl, rfl, rfl, by decide +kernel, rfl, by decide +kernel, by decide +kernel⟩
/-- where the classes and the defs stand -/
structure Ad where
  cLotError : Addr
  cOutOfRange : Addr
  cMalformed : Addr
  cNotThere : Addr
  cRefused : Addr
  cTooMuch : Addr
  fis_number : Addr
  dis_number : FuncData
  f_law_draws : Addr
  d_law_draws : FuncData
  f_law_take : Addr
  d_law_take : FuncData
  f_law_power : Addr
  d_law_power : FuncData
  f_law_told : Addr
  d_law_told : FuncData
  f_law_number : Addr
  d_law_number : FuncData
  f_law_hex : Addr
  d_law_hex : FuncData
  f_law_unhex : Addr
  d_law_unhex : FuncData
  f_law_pack : Addr
  d_law_pack : FuncData
  fof_number : Addr
  dof_number : FuncData
  fnumber_of : Addr
  dnumber_of : FuncData
  fof_text : Addr
  dof_text : FuncData
  kof_text : Addr
  tof_text : Addr
  fhexed : Addr
  dhexed : FuncData
  khexed : Addr
  thexed : Addr
  fis_hex : Addr
  dis_hex : FuncData
  kis_hex : Addr
  tis_hex : Addr
  f_law_octets : Addr
  d_law_octets : FuncData
  f_law_unpack : Addr
  d_law_unpack : FuncData
  f_law_bent : Addr
  d_law_bent : FuncData
  fis_octets : Addr
  dis_octets : FuncData
  kis_octets : Addr
  tis_octets : Addr
  funhexed : Addr
  dunhexed : FuncData
  fpacked : Addr
  dpacked : FuncData
  funpacked : Addr
  dunpacked : FuncData
  f_law_try : Addr
  d_law_try : FuncData
  f_law_same : Addr
  d_law_same : FuncData
  f_law_are_judged : Addr
  d_law_are_judged : FuncData
  flaw : Addr
  dlaw : FuncData
variable [Tbs]
structure Txt (K : PySem.W.Frag) (mg : Str → Option Value) (A : Ad) : Prop where
  fis_number : mg "is_number" = some (.ref A.fis_number)
  pis_number : PySem.W.keepIn K (.ref A.fis_number) = true
  ais_number : Binds K A.dis_number Pis_number []
  Fis_number : Fun K "is_number" "is_number" sis_number A.fis_number A.dis_number
  f_law_draws : mg "_law_draws" = some (.ref A.f_law_draws)
  p_law_draws : PySem.W.keepIn K (.ref A.f_law_draws) = true
  a_law_draws : Binds K A.d_law_draws P_law_draws []
  F_law_draws : Fun K "_law_draws" "_law_draws" s_law_draws A.f_law_draws A.d_law_draws
  f_law_take : mg "_law_take" = some (.ref A.f_law_take)
  p_law_take : PySem.W.keepIn K (.ref A.f_law_take) = true
  a_law_take : Binds K A.d_law_take P_law_take []
  F_law_take : Fun K "_law_take" "_law_take" s_law_take A.f_law_take A.d_law_take
  f_law_power : mg "_law_power" = some (.ref A.f_law_power)
  p_law_power : PySem.W.keepIn K (.ref A.f_law_power) = true
  a_law_power : Binds K A.d_law_power P_law_power []
  F_law_power : Fun K "_law_power" "_law_power" s_law_power A.f_law_power A.d_law_power
  f_law_told : mg "_law_told" = some (.ref A.f_law_told)
  p_law_told : PySem.W.keepIn K (.ref A.f_law_told) = true
  a_law_told : Binds K A.d_law_told P_law_told []
  F_law_told : Fun K "_law_told" "_law_told" s_law_told A.f_law_told A.d_law_told
  f_law_number : mg "_law_number" = some (.ref A.f_law_number)
  p_law_number : PySem.W.keepIn K (.ref A.f_law_number) = true
  a_law_number : Binds K A.d_law_number P_law_number []
  F_law_number : Fun K "_law_number" "_law_number" s_law_number A.f_law_number A.d_law_number
  f_law_hex : mg "_law_hex" = some (.ref A.f_law_hex)
  p_law_hex : PySem.W.keepIn K (.ref A.f_law_hex) = true
  a_law_hex : Binds K A.d_law_hex P_law_hex []
  F_law_hex : Fun K "_law_hex" "_law_hex" s_law_hex A.f_law_hex A.d_law_hex
  f_law_unhex : mg "_law_unhex" = some (.ref A.f_law_unhex)
  p_law_unhex : PySem.W.keepIn K (.ref A.f_law_unhex) = true
  a_law_unhex : Binds K A.d_law_unhex P_law_unhex []
  F_law_unhex : Fun K "_law_unhex" "_law_unhex" s_law_unhex A.f_law_unhex A.d_law_unhex
  f_law_pack : mg "_law_pack" = some (.ref A.f_law_pack)
  p_law_pack : PySem.W.keepIn K (.ref A.f_law_pack) = true
  a_law_pack : Binds K A.d_law_pack P_law_pack []
  F_law_pack : Fun K "_law_pack" "_law_pack" s_law_pack A.f_law_pack A.d_law_pack
  fof_number : mg "of_number" = some (.ref A.fof_number)
  pof_number : PySem.W.keepIn K (.ref A.fof_number) = true
  aof_number : Binds K A.dof_number Pof_number []
  Fof_number : Fun K "of_number" "of_number" sof_number A.fof_number A.dof_number
  fnumber_of : mg "number_of" = some (.ref A.fnumber_of)
  pnumber_of : PySem.W.keepIn K (.ref A.fnumber_of) = true
  anumber_of : Binds K A.dnumber_of Pnumber_of []
  Fnumber_of : Fun K "number_of" "number_of" snumber_of A.fnumber_of A.dnumber_of
  fof_text : mg "of_text" = some (.ref A.fof_text)
  pof_text : PySem.W.keepIn K (.ref A.fof_text) = true
  aof_text : Binds K A.dof_text Pof_text []
  Fof_text : FunC K "of_text" "of_text" sof_text A.fof_text A.dof_text A.kof_text
  Pof_text : Tbs.T A.tof_text
  fhexed : mg "hexed" = some (.ref A.fhexed)
  phexed : PySem.W.keepIn K (.ref A.fhexed) = true
  ahexed : Binds K A.dhexed Phexed []
  Fhexed : FunC K "hexed" "hexed" shexed A.fhexed A.dhexed A.khexed
  Phexed : Tbs.T A.thexed
  fis_hex : mg "is_hex" = some (.ref A.fis_hex)
  pis_hex : PySem.W.keepIn K (.ref A.fis_hex) = true
  ais_hex : Binds K A.dis_hex Pis_hex []
  Fis_hex : FunC K "is_hex" "is_hex" sis_hex A.fis_hex A.dis_hex A.kis_hex
  Pis_hex : Tbs.T A.tis_hex
  f_law_octets : mg "_law_octets" = some (.ref A.f_law_octets)
  p_law_octets : PySem.W.keepIn K (.ref A.f_law_octets) = true
  a_law_octets : Binds K A.d_law_octets P_law_octets []
  F_law_octets : Fun K "_law_octets" "_law_octets" s_law_octets A.f_law_octets A.d_law_octets
  f_law_unpack : mg "_law_unpack" = some (.ref A.f_law_unpack)
  p_law_unpack : PySem.W.keepIn K (.ref A.f_law_unpack) = true
  a_law_unpack : Binds K A.d_law_unpack P_law_unpack []
  F_law_unpack : Fun K "_law_unpack" "_law_unpack" s_law_unpack A.f_law_unpack A.d_law_unpack
  f_law_bent : mg "_law_bent" = some (.ref A.f_law_bent)
  p_law_bent : PySem.W.keepIn K (.ref A.f_law_bent) = true
  a_law_bent : Binds K A.d_law_bent P_law_bent []
  F_law_bent : Fun K "_law_bent" "_law_bent" s_law_bent A.f_law_bent A.d_law_bent
  fis_octets : mg "is_octets" = some (.ref A.fis_octets)
  pis_octets : PySem.W.keepIn K (.ref A.fis_octets) = true
  ais_octets : Binds K A.dis_octets Pis_octets []
  Fis_octets : FunC K "is_octets" "is_octets" sis_octets A.fis_octets A.dis_octets A.kis_octets
  Pis_octets : Tbs.T A.tis_octets
  funhexed : mg "unhexed" = some (.ref A.funhexed)
  punhexed : PySem.W.keepIn K (.ref A.funhexed) = true
  aunhexed : Binds K A.dunhexed Punhexed []
  Funhexed : Fun K "unhexed" "unhexed" sunhexed A.funhexed A.dunhexed
  fpacked : mg "packed" = some (.ref A.fpacked)
  ppacked : PySem.W.keepIn K (.ref A.fpacked) = true
  apacked : Binds K A.dpacked Ppacked []
  Fpacked : Fun K "packed" "packed" spacked A.fpacked A.dpacked
  funpacked : mg "unpacked" = some (.ref A.funpacked)
  punpacked : PySem.W.keepIn K (.ref A.funpacked) = true
  aunpacked : Binds K A.dunpacked Punpacked []
  Funpacked : Fun K "unpacked" "unpacked" sunpacked A.funpacked A.dunpacked
  f_law_try : mg "_law_try" = some (.ref A.f_law_try)
  p_law_try : PySem.W.keepIn K (.ref A.f_law_try) = true
  a_law_try : Binds K A.d_law_try P_law_try []
  F_law_try : Fun K "_law_try" "_law_try" s_law_try A.f_law_try A.d_law_try
  f_law_same : mg "_law_same" = some (.ref A.f_law_same)
  p_law_same : PySem.W.keepIn K (.ref A.f_law_same) = true
  a_law_same : Binds K A.d_law_same P_law_same []
  F_law_same : Fun K "_law_same" "_law_same" s_law_same A.f_law_same A.d_law_same
  f_law_are_judged : mg "_law_are_judged" = some (.ref A.f_law_are_judged)
  p_law_are_judged : PySem.W.keepIn K (.ref A.f_law_are_judged) = true
  a_law_are_judged : Binds K A.d_law_are_judged P_law_are_judged []
  F_law_are_judged : Fun K "_law_are_judged" "_law_are_judged" s_law_are_judged A.f_law_are_judged A.d_law_are_judged
  flaw : mg "law" = some (.ref A.flaw)
  plaw : PySem.W.keepIn K (.ref A.flaw) = true
  alaw : Binds K A.dlaw Plaw []
  Flaw : Fun K "law" "law" slaw A.flaw A.dlaw
  b_ValueError : mg "ValueError" = none
  b_abs : mg "abs" = none
  b_all : mg "all" = none
  b_any : mg "any" = none
  b_bool : mg "bool" = none
  b_int : mg "int" = none
  b_isinstance : mg "isinstance" = none
  b_len : mg "len" = none
  b_list : mg "list" = none
  b_min : mg "min" = none
  b_ord : mg "ord" = none
  b_range : mg "range" = none
  b_reversed : mg "reversed" = none
  b_str : mg "str" = none
  b_tuple : mg "tuple" = none
  k_HEX_SIGNS : ∃ t, mg "_HEX_SIGNS" = some (.str "0123456789abcdef" t)
  k_LENGTH_SIZE : ∃ t, mg "_LENGTH_SIZE" = some (.int 4 t)
  k_MOST : ∃ t, mg "_MOST" = some (.int 100000 t)
  k_MOST_SIZE : ∃ t, mg "_MOST_SIZE" = some (.int 64 t)
  cLotError : mg "LotError" = some (.ref A.cLotError)
  cOutOfRange : mg "OutOfRange" = some (.ref A.cOutOfRange)
  cMalformed : mg "Malformed" = some (.ref A.cMalformed)
  cNotThere : mg "NotThere" = some (.ref A.cNotThere)
  cRefused : mg "Refused" = some (.ref A.cRefused)
  cTooMuch : mg "TooMuch" = some (.ref A.cTooMuch)
  xMalformed : PySem.W.excIn K A.cMalformed [.type "ValueError", .type "Exception", .type "BaseException", .type "object"] "ValueError.__new__" = true
  qMalformed : PySem.W.keepIn K (.ref A.cMalformed) = true
  uMalformed : PySem.W.subIn K (.ref A.cMalformed) (.type "BaseException") = some true
  tMalformed : PySem.W.typeIn K (.ref A.cMalformed) = some (.type "type")
  XMalformed : ExcC K A.cMalformed
  eMalformed : PySem.W.exmOne K (.ref A.cMalformed) (.ref A.cLotError) = some true
  xOutOfRange : PySem.W.excIn K A.cOutOfRange [.type "ValueError", .type "Exception", .type "BaseException", .type "object"] "ValueError.__new__" = true
  qOutOfRange : PySem.W.keepIn K (.ref A.cOutOfRange) = true
  uOutOfRange : PySem.W.subIn K (.ref A.cOutOfRange) (.type "BaseException") = some true
  tOutOfRange : PySem.W.typeIn K (.ref A.cOutOfRange) = some (.type "type")
  XOutOfRange : ExcC K A.cOutOfRange
  eOutOfRange : PySem.W.exmOne K (.ref A.cOutOfRange) (.ref A.cLotError) = some true
  iMalformed_OutOfRange : PySem.W.kitOne K (.ref A.cMalformed) (.ref A.cOutOfRange) = some false
  iMalformed_Malformed : PySem.W.kitOne K (.ref A.cMalformed) (.ref A.cMalformed) = some true
  iMalformed_NotThere : PySem.W.kitOne K (.ref A.cMalformed) (.ref A.cNotThere) = some false
  iMalformed_Refused : PySem.W.kitOne K (.ref A.cMalformed) (.ref A.cRefused) = some false
  iMalformed_TooMuch : PySem.W.kitOne K (.ref A.cMalformed) (.ref A.cTooMuch) = some false
  iMalformed_ValueError : PySem.W.kitOne K (.ref A.cMalformed) (.type "ValueError") = some true
  iOutOfRange_OutOfRange : PySem.W.kitOne K (.ref A.cOutOfRange) (.ref A.cOutOfRange) = some true
  iOutOfRange_Malformed : PySem.W.kitOne K (.ref A.cOutOfRange) (.ref A.cMalformed) = some false
  iOutOfRange_NotThere : PySem.W.kitOne K (.ref A.cOutOfRange) (.ref A.cNotThere) = some false
  iOutOfRange_Refused : PySem.W.kitOne K (.ref A.cOutOfRange) (.ref A.cRefused) = some false
  iOutOfRange_TooMuch : PySem.W.kitOne K (.ref A.cOutOfRange) (.ref A.cTooMuch) = some false
  iOutOfRange_ValueError : PySem.W.kitOne K (.ref A.cOutOfRange) (.type "ValueError") = some true
structure Bs (base : Heap) (mg : Str → Option Value) (A : Ad) : Prop where
  bof_text : GxR.TabB base mg A.kof_text A.tof_text
  bhexed : GxR.TabB base mg A.khexed A.thexed
  bis_hex : GxR.TabB base mg A.kis_hex A.tis_hex
  bis_octets : GxR.TabB base mg A.kis_octets A.tis_octets
/-- the names of the errors that are raised -/
def nm (A : Ad) : Addr → Option Str := fun c => if c = A.cMalformed then some "Malformed" else if c = A.cOutOfRange then some "OutOfRange" else none
section
variable {K : PySem.W.Frag} {mg : Str → Option Value} {A : Ad}
theorem hcat (T : Txt K mg A) : ∀ c b, catOf (nm A) c = some b → PySem.W.exmOne K (.ref c) (.ref A.cLotError) = some b := fun c b h => by
  unfold catOf nm at h
  by_cases eMalformed : c = A.cMalformed
  · rw [eMalformed, T.eMalformed]
    have : b = true := by
      revert h; split <;> simp_all
    rw [this]
  by_cases eOutOfRange : c = A.cOutOfRange
  · rw [eOutOfRange, T.eOutOfRange]
    have : b = true := by
      revert h; split <;> simp_all
    rw [this]
  · exfalso; simp [eMalformed, eOutOfRange] at h
end
end Lw

namespace Lw
open PySem L2 Den Evl PySem.Spec PyProof.Rows Zn
variable [Tbs]
/-! the draws -/
def S_law_draws (A : Ad) : WFF := fun ps R _ => ∃ ns : List Int, ps = [.va (.list (ns.map PyData.int))] ∧ ns.length ≤ 63 ∧ (∀ z, z ∈ ns → Builtin.Int.intBits z ≤ 1048576) ∧ ∀ ms : List Int, R (ms.map PyData.int) [.no]
def S_law_take (A : Ad) : WF := fun ps R _ => ∃ (ms : List Int) (b : Int), ps = [.io (ms.map PyData.int), .va (.int b)] ∧ 0 < b ∧ b ≤ 10 ^ 100 ∧ ∀ (r : Int) (ms' : List Int), 0 ≤ r → r < b → R (.int r) [.io (ms'.map PyData.int), .no]
/-! alike -/
def flatP : D → Prop
  | .list _ => False
  | .tuple _ => False
  | .dict _ => False
  | _ => True
def okS : Nat → D → Prop
  | 0, x => flatP x
  | d + 1, x => match x with
    | .list xs => xs.length ≤ 100000 ∧ ∀ y, y ∈ xs → okS d y
    | .tuple xs => xs.length ≤ 100000 ∧ ∀ y, y ∈ xs → okS d y
    | x => flatP x
def sameI (x : D) (n : Int) : Bool := match x with
  | .int i => decide (i = n)
  | _ => false
def S_law_same : Nat → Ad → WF
  | 0, _ => fun _ _ _ => False
  | d + 1, _ => fun ps R _ => (∃ x : D, ps = [.va x, .va x] ∧ okS d x ∧ R (.bool true) [.no, .no]) ∨ (∃ (x : D) (n : Int), ps = [.va x, .va (.int n)] ∧ okS 1 x ∧ R (.bool (sameI x n)) [.no, .no])
def isNum (d : D) (a b : Int) : Bool := match d with
  | .int i => decide (a ≤ i) && decide (i ≤ b)
  | _ => false
def Sis_number (A : Ad) : WF := fun ps R _ => ∃ (d : D) (a b : Int), ps = [.va d, .va (.int a), .va (.int b)] ∧ R (.bool (isNum d a b)) [.no, .no, .no]
abbrev nI (n : Nat) : D := .int (n : Int)
def S_law_power (A : Ad) : WF := fun ps R _ => ∃ e : Nat, ps = [.va (.int 256), .va (nI e)] ∧ e ≤ 64 ∧ R (nI (256 ^ e)) [.no, .no]
/-! octets -/
def Oc (l : List Nat) : Prop := ∀ x, x ∈ l → x < 256
def ocL (l : List Nat) : List D := l.map fun n => nI n
abbrev ocD (l : List Nat) : D := .tuple (ocL l)
def numN (l : List Nat) : Nat := l.foldl (fun a d => a * 256 + d) 0
def beN : Nat → Nat → List Nat
  | 0, _ => []
  | s + 1, n => beN s (n / 256) ++ [n % 256]
def fits (n s : Int) : Bool := isNum (.int s) 0 64 && (decide (0 ≤ n) && decide (n < 256 ^ s.toNat))
def Sof_number (A : Ad) : WF := fun ps R E => ∃ n s : Int, ps = [.va (.int n), .va (.int s)] ∧ (fits n s = false → E A.cOutOfRange [.no, .no]) ∧ (fits n s = true → R (ocD (beN s.toNat n.toNat)) [.no, .no])
def Snumber_of : Nat → Ad → WF
  | 0, _ => fun _ _ _ => False
  | _ + 1, _ => fun ps R _ => ∃ l : List Nat, ps = [.va (ocD l)] ∧ Oc l ∧ l.length ≤ 64 ∧ R (nI (numN l)) [.no]
def S_law_number (A : Ad) : WF := fun ps R _ => ∃ l : List Nat, ps = [.va (ocD l)] ∧ Oc l ∧ l.length ≤ 64 ∧ R (nI (numN l)) [.no]
def ocB (d : D) (m : Int) : Bool := match d with
  | .tuple ds => decide ((ds.length : Int) ≤ m) && (decide (ds.length ≤ 100000) && ds.all fun x => isNum x 0 255)
  | _ => false
def Sis_octets (A : Ad) : WF := fun ps R _ => ∃ (d : D) (m : Int), ps = [.va d, .va (.int m)] ∧ R (.bool (ocB d m)) [.no, .no]
def S_law_octets (A : Ad) : WF := fun ps R _ => ∃ (ms : List Int) (most : Nat), ps = [.io (ms.map PyData.int), .va (nI most)] ∧ most ≤ 1000 ∧ ∀ (l : List Nat) (ms' : List Int), Oc l → l.length ≤ most → R (ocD l) [.io (ms'.map PyData.int), .no]
/-! texts -/
def loT (x : Str) : Prop := ∀ c, c ∈ TL.tl x → c < 256
def Sof_text (A : Ad) : WF := fun ps R _ => ∃ x : Str, ps = [.va (.str x)] ∧ x.length ≤ 1000 ∧ (∀ c, c ∈ TL.tl x → c < 128) ∧ R (ocD (TL.tl x)) [.no]
def hd16 (n : Nat) : Nat := if n < 10 then 48 + n else 87 + n
def hxL (l : List Nat) : List Nat := l.flatMap fun o => [hd16 (o / 16), hd16 (o % 16)]
def hexS (l : List Nat) : Str := ⟨(hxL l).toArray⟩
def Shexed (A : Ad) : WF := fun ps R _ => ∃ l : List Nat, ps = [.va (ocD l)] ∧ Oc l ∧ l.length ≤ 1000 ∧ R (.str (hexS l)) [.no]
def S_law_hex (A : Ad) : WF := Shexed A
def isHx (c : Nat) : Bool := (decide (48 ≤ c) && decide (c ≤ 57)) || (decide (97 ≤ c) && decide (c ≤ 102))
def hv (c : Nat) : Nat := if c < 58 then c - 48 else c - 87
def unhL : List Nat → List Nat
  | a :: b :: r => (16 * hv a + hv b) :: unhL r
  | _ => []
def hexOk (l : List Nat) : Bool := decide (l.length % 2 = 0) && l.all isHx
def unhD (l : List Nat) : D := if hexOk l = true then ocD (unhL l) else .str "Malformed"
def Sis_hex (A : Ad) : WF := fun ps R _ => ∃ x : Str, ps = [.va (.str x)] ∧ x.length ≤ 1000 ∧ R (.bool ((TL.tl x).all isHx)) [.no]
def Sunhexed (A : Ad) : WF := fun ps R E => ∃ x : Str, ps = [.va (.str x)] ∧ x.length ≤ 1000 ∧ (hexOk (TL.tl x) = false → E A.cMalformed [.no]) ∧ (hexOk (TL.tl x) = true → R (ocD (unhL (TL.tl x))) [.no])
def S_law_unhex (A : Ad) : WF := fun ps R _ => ∃ x : Str, ps = [.va (.str x)] ∧ x.length ≤ 1000 ∧ loT x ∧ R (unhD (TL.tl x)) [.no]
/-! packings -/
def packL (ls : List (List Nat)) : List Nat := ls.flatMap fun l => beN 4 l.length ++ l
def ocsL (ls : List (List Nat)) : List D := ls.map ocD
abbrev ocsD (ls : List (List Nat)) : D := .list (ocsL ls)
def Ocs (ls : List (List Nat)) : Prop := ls.length ≤ 6 ∧ ∀ l, l ∈ ls → Oc l ∧ l.length ≤ 300
def Spacked (A : Ad) : WF := fun ps R _ => ∃ ls : List (List Nat), ps = [.va (ocsD ls)] ∧ Ocs ls ∧ R (ocD (packL ls)) [.no]
def S_law_pack (A : Ad) : WF := Spacked A
def unp : Nat → List Nat → Option (List (List Nat))
  | 0, _ => none
  | f + 1, l => if l = [] then some [] else if l.length < 4 + numN (l.take 4) then none else (unp f (l.drop (4 + numN (l.take 4)))).map (((l.drop 4).take (numN (l.take 4))) :: ·)
def unpA (l : List Nat) : Option (List (List Nat)) := unp (l.length + 1) l
def unpD (l : List Nat) : D := match unpA l with
  | none => .str "Malformed"
  | some ls => ocsD ls
def Sunpacked (A : Ad) : WF := fun ps R E => ∃ l : List Nat, ps = [.va (ocD l)] ∧ Oc l ∧ l.length ≤ 5000 ∧ (unpA l = none → E A.cMalformed [.no]) ∧ (∀ ls, unpA l = some ls → R (ocsD ls) [.no])
def S_law_unpack (A : Ad) : WF := fun ps R _ => ∃ l : List Nat, ps = [.va (ocD l)] ∧ Oc l ∧ l.length ≤ 5000 ∧ R (unpD l) [.no]
/-! the law's own -/
def numR (n s : Int) : D := if fits n s = true then ocD (beN s.toNat n.toNat) else .str "OutOfRange"
def S_law_try (A : Ad) : WF := fun ps R _ => (∃ n s : Int, ps = [.va (.int 0), .va (.int n), .va (.int s)] ∧ R (numR n s) [.no, .no, .no]) ∨
  (∃ (x : Str) (z : D), ps = [.va (.int 1), .va (.str x), .va z] ∧ x.length ≤ 1000 ∧ (∀ c, c ∈ TL.tl x → c < 128) ∧ R (ocD (TL.tl x)) [.no, .no, .no]) ∨
  (∃ (x : Str) (z : D), ps = [.va (.int 2), .va (.str x), .va z] ∧ x.length ≤ 1000 ∧ R (unhD (TL.tl x)) [.no, .no, .no]) ∨
  (∃ (l : List Nat) (z : D), ps = [.va (.int 3), .va (ocD l), .va z] ∧ Oc l ∧ l.length ≤ 5000 ∧ R (unpD l) [.no, .no, .no])
def S_law_are_judged (A : Ad) : WF := fun ps R _ => ∃ (ms : List Int) (l : List Nat), ps = [.io (ms.map PyData.int), .va (ocD l)] ∧ Oc l ∧ l.length ≤ 1000 ∧ ∀ ms' : List Int, R (.bool true) [.io (ms'.map PyData.int), .no]
def S_law_bent (A : Ad) : WF := fun ps R _ => ∃ (ms : List Int) (x : Str), ps = [.io (ms.map PyData.int), .va (.str x)] ∧ x.length ≤ 500 ∧ loT x ∧ ∀ (y : Str) (ms' : List Int), y.length ≤ x.length + 1 → loT y → R (.str y) [.io (ms'.map PyData.int), .no]
def Slaw (A : Ad) : WF := SLaw
end Lw

namespace Lw
open PySem L2 Den Evl PySem.Spec PyProof.Rows Zn
variable [Tbs]
def wis_number (A : Ad) : WS := wRet (wAndV (wIsi "int" (wN 0)) (wAndV (wNotV (wIsi "bool" (wN 0))) (wChain fLe fLe (wN 1) (wN 0) (wN 2))))
@[reducible] def w_law_draws_t0 (A : Ad) : WS := wSeq (wApp 1 (wOp fMod (wL (wB1 fInt (wL (wOp fAdd (wL (wOp fMul (wN 6) (wL (wC (.int 69621))))) (wN 5))))) (wL (wC (.int 2147483629))))) (wSeq (wApp 1 (wOp fMod (wL (wB1 fInt (wL (wOp fAdd (wN 6) (wL (wOp fDiv (wN 5) (wL (wC (.int 7))))))))) (wL (wC (.int 1000003))))) (wSet 5 (wC (.int 0))))
@[reducible] def w_law_draws_t1 (A : Ad) : WS := wIfS (wTb (wOp fGt (wN 5) (wL (wC (.int 0))))) (wSeq (wApp 1 (wOp fMod (wL (wB1 fInt (wN 5))) (wL (wC (.int 997))))) (wSet 5 (wOp fDiv (wN 5) (wL (wC (.int 997)))))) (wNext)
@[reducible] def w_law_draws_t2 (A : Ad) : WS := wSeq (wIfS (wTb (wOp fLt (wN 5) (wL (wOp fPow (wL (wC (.int 10))) (wL (wC (.int 18))))))) (wSeq (wSet 6 (wOp fMod (wL (wB1 fInt (wL (wOp fAdd (wL (wOp fMul (wN 5) (wL (wC (.int 48271))))) (wL (wC (.int 11))))))) (wL (wC (.int 2147483647))))) (w_law_draws_t0 A)) (wNext)) (wFor (wiR1 (waCons (wC (.int 60)) (waNil))) (wgName 4) (w_law_draws_t1 A))
@[reducible] def w_law_draws_t3 (A : Ad) : WS := wSeq (wSet 3 (wOp fMod (wL (wB1 fInt (wL (wOp fAdd (wL (wOp fMul (wN 3) (wL (wC (.int 48271))))) (wL (wC (.int 69621))))))) (wL (wC (.int 2147483647))))) (wApp 1 (wOp fDiv (wN 3) (wL (wC (.int 5)))))
@[reducible] def w_law_draws_t4 (A : Ad) : WS := wSeq (wIfS (wTb (wOp fGt (wL (wB1 fLen (wN 0))) (wL (wC (.int 0))))) (wSet 3 (wOp fAdd (wL (wC (.int 1))) (wL (wB1 fAbs (wL (wOp fIx (wN 0) (wL (wC (.int 0))))))))) (wNext)) (wSeq (wFor (wiR1 (waCons (wC (.int 900)) (waNil))) (wgName 4) (w_law_draws_t3 A)) (wRetF (wRevL (wN 1))))
def w_law_draws (A : Ad) : WS := wSeq (wSetO 1 (waNil)) (wSeq (wFor (wiA (wV 0)) (wgName 2) (wSeq (wSet 5 (wB1 fAbs (wN 2))) (w_law_draws_t2 A))) (wSeq (wSet 3 (wC (.int 1))) (w_law_draws_t4 A)))
def w_law_take (A : Ad) : WS := wSeq (wIfS (wTb (wOp fEq (wL (wB1 fLen (wN 0))) (wL (wC (.int 0))))) (wRet (wC (.int 0))) (wNext)) (wRet (wOp fMod (wL (wB1 fInt (wL (wPop 0)))) (wN 1)))
def w_law_power (A : Ad) : WS := wSeq (wSet 2 (wC (.int 1))) (wSeq (wFor (wiR1 (waCons (wV 1) (waNil))) (wgName 3) (wSet 2 (wOp fMul (wN 2) (wN 0)))) (wRet (wV 2)))
def w_law_told (a : Addr) (bOutOfRange bMalformed bNotThere bRefused bTooMuch bValueError : Bool) : WS := wSeq (wSet 1 (wFE (waCons (wIsX 0 a bOutOfRange) (waCons (wIsX 0 a bMalformed) (waCons (wIsX 0 a bNotThere) (waCons (wIsX 0 a bRefused) (waCons (wIsX 0 a bTooMuch) (waNil)))))))) (wSeq (wIfS (wOr (wNot (wTb (wIsX 0 a bValueError))) (wTb (wOp fNe (wL (wB1 fLen (wL (wFE (wLc [2] (wiL (wV 1)) (wgName 2) (wTb (wV 2)) (wV 2)))))) (wL (wC (.int 1)))))) (wRet (wC (.str "other"))) (wNext)) (wRet (wOp fIx (wL (wFE (waCons (wC (.str "OutOfRange")) (waCons (wC (.str "Malformed")) (waCons (wC (.str "NotThere")) (waCons (wC (.str "Refused")) (waCons (wC (.str "TooMuch")) (waNil)))))))) (wL (wIdx (wN 1) (wC (.bool true)))))))
def w_law_number (A : Ad) : WS := wSeq (wSet 1 (wC (.int 0))) (wSeq (wFor (wiA (wV 0)) (wgName 2) (wSet 1 (wOp fAdd (wL (wOp fMul (wN 1) (wL (wC (.int 256))))) (wN 2)))) (wRet (wV 1)))
@[reducible] def w_law_hex_t0 (A : Ad) : WS := wSet 2 (wOp fAdd (wL (wOp fAdd (wN 2) (wL (wOp fIx (wN 1) (wL (wOp fDiv (wN 3) (wL (wC (.int 16))))))))) (wL (wOp fIx (wN 1) (wL (wOp fSub (wN 3) (wL (wOp fMul (wL (wOp fDiv (wN 3) (wL (wC (.int 16))))) (wL (wC (.int 16))))))))))
def w_law_hex (A : Ad) : WS := wSeq (wSet 1 (wC (.str "0123456789abcdef"))) (wSeq (wSet 2 (wC (.str ""))) (wSeq (wFor (wiA (wV 0)) (wgName 3) (w_law_hex_t0 A)) (wRet (wV 2))))
@[reducible] def w_law_unhex_t0 (A : Ad) : WS := wRet (wB1 fTupOf (wL (wFE (wLc [2] (wiR3 (waCons (wC (.int 0)) (waCons (wB1 fLen (wN 0)) (waCons (wC (.int 2)) (waNil))))) (wgName 2) (wYes) (wOp fAdd (wL (wOp fMul (wL (wC (.int 16))) (wL (wM1 fSIx (wN 1) (wL (wOp fIx (wN 0) (wN 2))))))) (wL (wM1 fSIx (wN 1) (wL (wOp fIx (wN 0) (wL (wOp fAdd (wN 2) (wL (wC (.int 1))))))))))))))
@[reducible] def w_law_unhex_t1 (A : Ad) : WS := wSeq (wIfS (wOr (wTb (wOp fNe (wL (wOp fMul (wL (wOp fDiv (wL (wB1 fLen (wN 0))) (wL (wC (.int 2))))) (wL (wC (.int 2))))) (wL (wB1 fLen (wN 0))))) (wTb (wOp fNe (wL (wFE (wLc [3] (wiU (wV 0)) (wgName 3) (wTb (wOp (fInS true) (wN 3) (wN 1))) (wV 3)))) (wL (wFE (waNil)))))) (wRet (wC (.str "Malformed"))) (wNext)) (w_law_unhex_t0 A)
def w_law_unhex (A : Ad) : WS := wSeq (wSet 1 (wC (.str "0123456789abcdef"))) (w_law_unhex_t1 A)
@[reducible] def w_law_pack_t0 (A : Ad) : WS := wSet 1 (wOp fAdd (wL (wOp fAdd (wN 1) (wL (wTup (waCons (wC (.int 0)) (waCons (wC (.int 0)) (waCons (wOp fDiv (wL (wB1 fLen (wN 2))) (wL (wC (.int 256)))) (waCons (wOp fSub (wL (wB1 fLen (wN 2))) (wL (wOp fMul (wL (wOp fDiv (wL (wB1 fLen (wN 2))) (wL (wC (.int 256))))) (wL (wC (.int 256)))))) (waNil))))))))) (wN 2))
def w_law_pack (A : Ad) : WS := wSeq (wSet 1 (wTup (waNil))) (wSeq (wFor (wiA (wV 0)) (wgName 2) (w_law_pack_t0 A)) (wRet (wV 1)))
@[reducible] def wof_number_t0 (A : Ad) : WS := wRet (wB1 fTupOf (wL (wFE (wLc [2] (wiR3 (waCons (wOp fSub (wN 1) (wL (wC (.int 1)))) (waCons (wUn fNeg (wL (wC (.int 1)))) (waCons (wUn fNeg (wL (wC (.int 1)))) (waNil))))) (wgName 2) (wYes) (wOp fBand (wL (wOp fShr (wN 0) (wL (wOp fMul (wL (wC (.int 8))) (wN 2))))) (wL (wC (.int 255))))))))
def wof_number (A : Ad) : WS := wSeq (wIfS (wOr (wNot (wTb (wCall (Sis_number A) (wmV (wV 1) (wmV (wC (.int 0)) (wmV (wC (.int 64)) (wmNil))))))) (wNot (wTb (wChain fLe fLt (wL (wC (.int 0))) (wN 0) (wL (wOp fShl (wL (wC (.int 1))) (wL (wOp fMul (wL (wC (.int 8))) (wN 1))))))))) (wRaise A.cOutOfRange) (wNext)) (wof_number_t0 A)
@[reducible] def wnumber_of_t0 (d : Nat) (A : Ad) : WS := wRet (wOp fBor (wL (wOp fShl (wL (wCall (Snumber_of d A) (wmV (wSlV (wN 0) (wpNo) (wpAt (wV 3))) (wmNil)))) (wL (wOp fMul (wL (wC (.int 8))) (wL (wOp fSub (wL (wB1 fLen (wN 0))) (wN 3))))))) (wL (wCall (Snumber_of d A) (wmV (wSlV (wN 0) (wpAt (wV 3)) (wpNo)) (wmNil)))))
def wnumber_of (d : Nat) (A : Ad) : WS := wSeq (wIfS (wTb (wOp fGt (wL (wB1 fLen (wN 0))) (wL (wC (.int 64))))) (wSeq (wSet 3 (wOp fDiv (wL (wB1 fLen (wN 0))) (wL (wC (.int 2))))) (wnumber_of_t0 d A)) (wNext)) (wSeq (wSet 1 (wC (.int 0))) (wSeq (wFor (wiA (wV 0)) (wgName 2) (wSet 1 (wOp fBor (wL (wOp fShl (wN 1) (wL (wC (.int 8))))) (wN 2)))) (wRet (wV 1))))
@[reducible] def wof_text_t0 (A : Ad) : WS := wSeq (wIfS (wTb (wGenB true [false, false, false, false] (wiU (wV 1)) (wgName 3) (wOp fGt (wN 3) (wL (wC (.int 127)))))) (wRaise A.cMalformed) (wNext)) (wRet (wV 1))
def wof_text (A : Ad) : WS := wSeq (wSet 1 (wB1 fTupOf (wL (wFE (wLc [2] (wiU (wV 0)) (wgName 2) (wYes) (wB1 fOrd (wN 2))))))) (wof_text_t0 A)
def whexed (A : Ad) : WS := wRet (wJoinG (wC (.str "")) [false, false] (wiA (wV 0)) (wgName 1) (wOp fAdd (wL (wOp fIx (wL (wC (.str "0123456789abcdef"))) (wL (wOp fShr (wN 1) (wL (wC (.int 4))))))) (wL (wOp fIx (wL (wC (.str "0123456789abcdef"))) (wL (wOp fBand (wN 1) (wL (wC (.int 15)))))))))
def wis_hex (A : Ad) : WS := wRet (wGenB false [false, false] (wiU (wV 0)) (wgName 1) (wOp (fInS false) (wN 1) (wL (wC (.str "0123456789abcdef")))))
def w_law_octets (A : Ad) : WS := wRet (wB1 fTupOf (wL (wFE (wLc [2] (wiR1 (waCons (wCall (S_law_take A) (wmIo 0 (wmV (wOp fAdd (wN 1) (wL (wC (.int 1)))) (wmNil)))) (waNil))) (wgName 2) (wYes) (wCall0 (S_law_take A) (wmIo 0 (wmV (wC (.int 256)) (wmNil))))))))
@[reducible] def w_law_unpack_t0 (A : Ad) : WS := wSeq (wApp 1 (wSlV (wN 2) (wpAt (wC (.int 4))) (wpAt (wOp fAdd (wL (wC (.int 4))) (wN 4))))) (wSet 2 (wSlV (wN 2) (wpAt (wOp fAdd (wL (wC (.int 4))) (wN 4))) (wpNo)))
@[reducible] def w_law_unpack_t1 (A : Ad) : WS := wSeq (wIfS (wOr (wTb (wOp fLt (wL (wB1 fLen (wN 2))) (wL (wC (.int 4))))) (wTb (wOp fLt (wL (wOp fSub (wL (wB1 fLen (wN 2))) (wL (wC (.int 4))))) (wN 4)))) (wRet (wC (.str "Malformed"))) (wNext)) (w_law_unpack_t0 A)
@[reducible] def w_law_unpack_t2 (A : Ad) : WS := wSeq (wIfS (wTb (wOp fEq (wN 2) (wL (wTup (waNil))))) (wRet (wV 1)) (wNext)) (wSeq (wSet 4 (wCall (S_law_number A) (wmV (wSlV (wN 2) (wpNo) (wpAt (wC (.int 4)))) (wmNil)))) (w_law_unpack_t1 A))
@[reducible] def w_law_unpack_t3 (A : Ad) : WS := wSeq (wSet 2 (wV 0)) (wSeq (wFor (wiR1 (waCons (wOp fAdd (wL (wB1 fLen (wN 0))) (wL (wC (.int 1)))) (waNil))) (wgName 3) (w_law_unpack_t2 A)) (wRet (wC (.str "Malformed"))))
def w_law_unpack (A : Ad) : WS := wSeq (wSetO 1 (waNil)) (w_law_unpack_t3 A)
@[reducible] def w_law_bent_t0 (A : Ad) : WS := wRet (wOp fIx (wL (wFE (waCons (wOp fAdd (wL (wOp fAdd (wL (wSlV (wN 1) (wpNo) (wpAt (wV 2)))) (wN 3))) (wL (wSlV (wN 1) (wpAt (wV 2)) (wpNo)))) (waCons (wOp fAdd (wL (wSlV (wN 1) (wpNo) (wpAt (wV 2)))) (wL (wSlV (wN 1) (wpAt (wOp fAdd (wN 2) (wL (wC (.int 1))))) (wpNo)))) (waCons (wOp fAdd (wL (wOp fAdd (wL (wSlV (wN 1) (wpNo) (wpAt (wV 2)))) (wN 3))) (wL (wSlV (wN 1) (wpAt (wOp fAdd (wN 2) (wL (wC (.int 1))))) (wpNo)))) (waCons (wV 1) (waNil))))))) (wL (wCall (S_law_take A) (wmIo 0 (wmV (wC (.int 4)) (wmNil))))))
def w_law_bent (A : Ad) : WS := wSeq (wSet 2 (wCall (S_law_take A) (wmIo 0 (wmV (wOp fAdd (wL (wB1 fLen (wN 1))) (wL (wC (.int 1)))) (wmNil))))) (wSeq (wSet 3 (wOp fIx (wL (wC (.str "0f9aG gA-"))) (wL (wCall (S_law_take A) (wmIo 0 (wmV (wC (.int 9)) (wmNil))))))) (w_law_bent_t0 A))
def wis_octets (A : Ad) : WS := wSeq (wIfS (wOr (wNot (wTb (wIsi "tuple" (wN 0)))) (wTb (wOp fGt (wL (wB1 fLen (wN 0))) (wL (wB2 fMin2 (wN 1) (wL (wC (.int 100000)))))))) (wRet (wC (.bool false))) (wNext)) (wRet (wGenB false [false, false, false] (wiA (wV 0)) (wgName 2) (wCall0 (Sis_number A) (wmV (wV 2) (wmV (wC (.int 0)) (wmV (wC (.int 255)) (wmNil)))))))
@[reducible] def wunhexed_t0 (A : Ad) : WS := wRet (wB1 fTupOf (wL (wFE (wLc [3] (wiR3 (waCons (wC (.int 0)) (waCons (wB1 fLen (wN 1)) (waCons (wC (.int 2)) (waNil))))) (wgName 3) (wYes) (wOp fBor (wL (wOp fShl (wL (wOp fIx (wN 1) (wN 3))) (wL (wC (.int 4))))) (wL (wOp fIx (wN 1) (wL (wOp fAdd (wN 3) (wL (wC (.int 1))))))))))))
def wunhexed (A : Ad) : WS := wSeq (wIfS (wOr (wTb (wOp fEq (wL (wOp fMod (wL (wB1 fLen (wN 0))) (wL (wC (.int 2))))) (wL (wC (.int 1))))) (wOr (wTb (wOp fGt (wL (wB1 fLen (wN 0))) (wL (wOp fMul (wL (wC (.int 2))) (wL (wC (.int 100000))))))) (wNot (wTb (wCall (Sis_hex A) (wmV (wV 0) (wmNil))))))) (wRaise A.cMalformed) (wNext)) (wSeq (wSet 1 (wFE (wLc [2] (wiU (wV 0)) (wgName 2) (wYes) (wM1 fFind (wL (wC (.str "0123456789abcdef"))) (wN 2))))) (wunhexed_t0 A))
@[reducible] def wpacked_t0 (A : Ad) : WS := wSeq (wFor (wiA (wV 0)) (wgName 2) (wSeq (wExtV 1 (wCall (Sof_number A) (wmV (wB1 fLen (wN 2)) (wmV (wC (.int 4)) (wmNil))))) (wExtV 1 (wV 2)))) (wRet (wB1 fTupOf (wN 1)))
def wpacked (A : Ad) : WS := wSeq (wSetO 1 (waNil)) (wpacked_t0 A)
@[reducible] def wunpacked_t0 (A : Ad) : WS := wSeq (wSet 2 (wOp fAdd (wN 3) (wL (wCall (Snumber_of 1 A) (wmV (wSlV (wN 0) (wpAt (wV 2)) (wpAt (wV 3))) (wmNil)))))) (wSeq (wIfS (wTb (wOp fGt (wN 2) (wL (wB1 fLen (wN 0))))) (wRaise A.cMalformed) (wNext)) (wApp 1 (wSlV (wN 0) (wpAt (wV 3)) (wpAt (wV 2)))))
@[reducible] def wunpacked_t1 (A : Ad) : WS := wSeq (wSet 2 (wC (.int 0))) (wSeq (wWhile (wTb (wOp fLt (wN 2) (wL (wB1 fLen (wN 0))))) (wSeq (wSet 3 (wOp fAdd (wN 2) (wL (wC (.int 4))))) (wunpacked_t0 A))) (wRet (wV 1)))
def wunpacked (A : Ad) : WS := wSeq (wSetO 1 (waNil)) (wunpacked_t1 A)
@[reducible] def w_law_try_t0 (A : Ad) : WS := wSeq (wIfS (wTb (wOp fEq (wN 0) (wL (wC (.int 1))))) (wRet (wCall (Sof_text A) (wmV (wV 1) (wmNil)))) (wNext)) (wRet (wIf (wTb (wOp fEq (wN 0) (wL (wC (.int 2))))) (wCall (Sunhexed A) (wmV (wV 1) (wmNil))) (wCall (Sunpacked A) (wmV (wV 1) (wmNil)))))
def w_law_try (A : Ad) : WS := wTry (catOf (nm A)) 3 (wSeq (wIfS (wTb (wOp fEq (wN 0) (wL (wC (.int 0))))) (wRet (wCall (Sof_number A) (wmV (wV 1) (wmV (wV 2) (wmNil))))) (wNext)) (w_law_try_t0 A)) (wSuite (nm A) fun a t => wRet (wTold 3 a t))
@[reducible] def w_law_same_t0 (d : Nat) (A : Ad) : WS := wSeq (wFor (wiR1 (waCons (wB1 fLen (wN 1)) (waNil))) (wgName 2) (wIfS (wNot (wTb (wCall (S_law_same d A) (wmV (wOp fIx (wN 0) (wN 2)) (wmV (wOp fIx (wN 1) (wN 2)) (wmNil)))))) (wRet (wC (.bool false))) (wNext))) (wRet (wC (.bool true)))
@[reducible] def w_law_same_t1 (d : Nat) (A : Ad) : WS := wSeq (wIfS (wOr (wTb (wOp fNe (wL (wIsi "int" (wN 1))) (wL (wIsi "int" (wN 0))))) (wTb (wOp fNe (wL (wIsi "str" (wN 1))) (wL (wIsi "str" (wN 0)))))) (wRet (wC (.bool false))) (wNext)) (wRet (wOp fEq (wN 0) (wN 1)))
@[reducible] def w_law_same_t2 (d : Nat) (A : Ad) : WS := wSeq (wIfS (wOr (wTb (wIsi "tuple" (wN 1))) (wTb (wIsi "list" (wN 1)))) (wSeq (wIfS (wOr (wTb (wOp fNe (wL (wIsi "tuple" (wN 1))) (wL (wIsi "tuple" (wN 0))))) (wTb (wOp fNe (wL (wIsi "list" (wN 1))) (wL (wIsi "list" (wN 0)))))) (wRet (wC (.bool false))) (wNext)) (wSeq (wIfS (wTb (wOp fNe (wL (wB1 fLen (wN 0))) (wL (wB1 fLen (wN 1))))) (wRet (wC (.bool false))) (wNext)) (w_law_same_t0 d A))) (wNext)) (wSeq (wIfS (wTb (wOp fNe (wL (wIsi "bool" (wN 1))) (wL (wIsi "bool" (wN 0))))) (wRet (wC (.bool false))) (wNext)) (w_law_same_t1 d A))
def w_law_same (d : Nat) (A : Ad) : WS := wSeq (wIfS (wOr (wTb (wOp fIsN (wN 1) (wL (wC .none)))) (wTb (wOp fIsN (wN 0) (wL (wC .none))))) (wRet (wAndV (wOp fIsN (wN 1) (wL (wC .none))) (wOp fIsN (wN 0) (wL (wC .none))))) (wNext)) (w_law_same_t2 d A)
@[reducible] def w_law_are_judged_t0 (A : Ad) : WS := wRet (wOp fEq (wL (wFE (wLc [6] (wiA (wV 5)) (wgName 6) (wNot (wTb (wCall0 (S_law_same 8 A) (wmV (wCall0 (Sis_octets A) (wmV (wOp fIx (wN 6) (wL (wC (.int 0)))) (wmV (wOp fIx (wN 6) (wL (wC (.int 1)))) (wmNil)))) (wmV (wOp fIx (wN 6) (wL (wC (.int 2)))) (wmNil)))))) (wV 6)))) (wL (wFE (waNil))))
@[reducible] def w_law_are_judged_t1 (A : Ad) : WS := wSeq (wSet 5 (wFE (waCons (wTup (waCons (wV 1) (waCons (wB1 fLen (wN 1)) (waCons (wC (.bool true)) (waNil))))) (waCons (wTup (waCons (wV 1) (waCons (wOp fSub (wL (wB1 fLen (wN 1))) (wL (wC (.int 1)))) (waCons (wC (.bool false)) (waNil))))) (waCons (wTup (waCons (wV 4) (waCons (wC (.int 100000)) (waCons (wCall (S_law_same 8 A) (wmV (wV 2) (wmV (wC (.int 1)) (wmNil)))) (waNil))))) (waCons (wTup (waCons (wFE (wNewL gListOf (wN 1))) (waCons (wC (.int 100)) (waCons (wC (.bool false)) (waNil))))) (waCons (wTup (waCons (wC .none) (waCons (wC (.int 100)) (waCons (wC (.bool false)) (waNil))))) (waCons (wTup (waCons (wTup (waNil)) (waCons (wC (.int 0)) (waCons (wC (.bool true)) (waNil))))) (waCons (wTup (waCons (wC (.str "")) (waCons (wC (.int 5)) (waCons (wC (.bool false)) (waNil))))) (waCons (wTup (waCons (wC (.int 7)) (waCons (wC (.int 9)) (waCons (wC (.bool false)) (waNil))))) (waNil))))))))))) (w_law_are_judged_t0 A)
@[reducible] def w_law_are_judged_t2 (A : Ad) : WS := wSeq (wSet 4 (wOp fAdd (wL (wOp fAdd (wL (wSlV (wN 1) (wpNo) (wpAt (wV 3)))) (wL (wTup (waCons (wV 2) (waNil)))))) (wL (wSlV (wN 1) (wpAt (wV 3)) (wpNo))))) (w_law_are_judged_t1 A)
def w_law_are_judged (A : Ad) : WS := wSeq (wSet 2 (wOp fIx (wL (wFE (waCons (wUn fNeg (wL (wC (.int 1)))) (waCons (wC (.int 256)) (waCons (wC (.bool true)) (waCons (wC .none) (waCons (wC (.str "a")) (waCons (wTup (waCons (wC (.int 1)) (waNil))) (waCons (wC (.int 1)) (waNil)))))))))) (wL (wCall (S_law_take A) (wmIo 0 (wmV (wC (.int 7)) (wmNil))))))) (wSeq (wSet 3 (wCall (S_law_take A) (wmIo 0 (wmV (wOp fAdd (wL (wB1 fLen (wN 1))) (wL (wC (.int 1)))) (wmNil))))) (w_law_are_judged_t2 A))
@[reducible] def wlaw_t0 (A : Ad) : WS := wSet 12 (wIf (wTb (wOp fGe (wN 4) (wL (wB1 fLen (wN 2))))) (wSlV (wL (wOp fAdd (wN 12) (wN 2))) (wpAt (wB1 fLen (wN 2))) (wpNo)) (wSlV (wN 2) (wpAt (wOp fSub (wL (wB1 fLen (wN 2))) (wN 4))) (wpNo)))
@[reducible] def wlaw_t1 (A : Ad) : WS := wIfS (wNot (wTb (wCall (S_law_same 8 A) (wmV (wCall (S_law_try A) (wmV (wC (.int 0)) (wmV (wV 3) (wmV (wV 4) (wmNil))))) (wmV (wV 12) (wmNil)))))) (wRet (wC (.bool false))) (wNext)
def wlaw_t2 (A : Ad) : WS := wSeq (wIfS (wTb (wOp fLt (wN 3) (wL (wCall (S_law_power A) (wmV (wC (.int 256)) (wmV (wV 4) (wmNil))))))) (wSeq (wSet 12 (wOp fRep0 (wL (wTup (waCons (wC (.int 0)) (waNil)))) (wN 4))) (wlaw_t0 A)) (wNext)) (wlaw_t1 A)
@[reducible] def wlaw_t3 (A : Ad) : WS := wIfS (wNot (wTb (wCall (S_law_same 8 A) (wmV (wCall (S_law_try A) (wmV (wC (.int 0)) (wmV (wV 3) (wmV (wV 4) (wmNil))))) (wmV (wV 12) (wmNil)))))) (wRet (wC (.bool false))) (wNext)
def wlaw_t4 (A : Ad) : WS := wSeq (wSet 12 (wOp fIx (wL (wFE (waCons (wTup (waCons (wC (.int 0)) (waNil))) (waCons (wTup (waCons (wC (.int 255)) (waNil))) (waCons (wC (.str "OutOfRange")) (waNil)))))) (wL (wOp fAdd (wL (wB1 fInt (wL (wOp fNe (wL (wTup (waCons (wV 3) (waCons (wV 4) (waNil))))) (wL (wTup (waCons (wC (.int 0)) (waCons (wC (.int 1)) (waNil))))))))) (wL (wB1 fInt (wL (wOp (fInN true) (wL (wTup (waCons (wV 3) (waCons (wV 4) (waNil))))) (wL (wFE (waCons (wTup (waCons (wC (.int 0)) (waCons (wC (.int 1)) (waNil)))) (waCons (wTup (waCons (wC (.int 255)) (waCons (wC (.int 1)) (waNil)))) (waNil))))))))))))) (wlaw_t3 A)
@[reducible] def wlaw_t5 (A : Ad) : WS := wIfS (wNot (wTb (wCall (S_law_same 8 A) (wmV (wCall (S_law_try A) (wmV (wC (.int 2)) (wmV (wV 11) (wmV (wC (.int 0)) (wmNil))))) (wmV (wCall (S_law_unhex A) (wmV (wV 11) (wmNil))) (wmNil)))))) (wRet (wC (.bool false))) (wNext)
@[reducible] def wlaw_t6 (A : Ad) : WS := wIfS (wNot (wTb (wCall (S_law_same 8 A) (wmV (wCall (S_law_try A) (wmV (wC (.int 3)) (wmV (wV 11) (wmV (wC (.int 0)) (wmNil))))) (wmV (wCall (S_law_unpack A) (wmV (wV 11) (wmNil))) (wmNil)))))) (wRet (wC (.bool false))) (wNext)
def wlaw_t7 (A : Ad) : WS := wSeq (wFor (wiU (wFE (waCons (wSlV (wN 9) (wpNo) (wpAt (wV 10))) (waCons (wOp fAdd (wN 9) (wL (wTup (waCons (wCall (S_law_take A) (wmIo 1 (wmV (wC (.int 256)) (wmNil)))) (waNil))))) (waCons (wOp fAdd (wL (wSlV (wN 9) (wpNo) (wpAt (wV 10)))) (wL (wSlV (wN 9) (wpAt (wOp fAdd (wN 10) (wL (wC (.int 1))))) (wpNo)))) (waCons (wOp fAdd (wL (wOp fAdd (wL (wSlV (wN 9) (wpNo) (wpAt (wV 10)))) (wL (wTup (waCons (wCall (S_law_take A) (wmIo 1 (wmV (wC (.int 3)) (wmNil)))) (waNil)))))) (wL (wSlV (wN 9) (wpAt (wV 10)) (wpNo)))) (waNil))))))) (wgName 11) (wlaw_t6 A)) (wRet (wC (.bool true)))
def wlaw_t8 (A : Ad) : WS := wSeq (wIfS (wOr (wNot (wTb (wCall (S_law_same 8 A) (wmV (wV 9) (wmV (wCall (S_law_pack A) (wmV (wV 7) (wmNil))) (wmNil)))))) (wOr (wTb (wOp fNe (wN 8) (wN 7))) (wNot (wTb (wCall (S_law_same 8 A) (wmV (wCall (S_law_try A) (wmV (wC (.int 3)) (wmV (wV 9) (wmV (wC (.int 0)) (wmNil))))) (wmV (wV 7) (wmNil)))))))) (wRet (wC (.bool false))) (wNext)) (wSeq (wSet 10 (wCall (S_law_take A) (wmIo 1 (wmV (wOp fAdd (wL (wB1 fLen (wN 9))) (wL (wC (.int 1)))) (wmNil))))) (wlaw_t7 A))
def wlaw_t9 (A : Ad) : WS := wSeq (wSet 7 (wFE (wLc [13] (wiR1 (waCons (wCall (S_law_take A) (wmIo 1 (wmV (wC (.int 7)) (wmNil)))) (waNil))) (wgName 13) (wYes) (wCall0 (S_law_octets A) (wmIo 1 (wmV (wOp fIx (wL (wFE (waCons (wC (.int 9)) (waCons (wC (.int 300)) (waNil))))) (wL (wB1 fInt (wL (wOp fEq (wL (wCall0 (S_law_take A) (wmIo 1 (wmV (wC (.int 9)) (wmNil))))) (wL (wC (.int 0)))))))) (wmNil))))))) (wSeq (wSet 8 (wFE (wLc [14] (wiU (wV 7)) (wgName 14) (wYes) (wV 14)))) (wSeq (wSet 9 (wCall (Spacked A) (wmV (wV 8) (wmNil)))) (wlaw_t8 A)))
def wlaw_t10 (A : Ad) : WS := wSeq (wFor (wiR1 (waCons (wC (.int 3)) (waNil))) (wgName 6) (wSeq (wSet 11 (wCall (S_law_bent A) (wmIo 1 (wmV (wCall (S_law_hex A) (wmV (wV 2) (wmNil))) (wmNil))))) (wlaw_t5 A))) (wlaw_t9 A)
def wlaw_t11 (A : Ad) : WS := wSeq (wIfS (wNot (wTb (wCall (S_law_same 8 A) (wmV (wCall (Shexed A) (wmV (wV 2) (wmNil))) (wmV (wCall (S_law_hex A) (wmV (wV 2) (wmNil))) (wmNil)))))) (wRet (wC (.bool false))) (wNext)) (wlaw_t10 A)
@[reducible] def wlaw_t12 (A : Ad) : WS := wSeq (wIfS (wNot (wTb (wCall (S_law_same 8 A) (wmV (wCall (S_law_try A) (wmV (wC (.int 1)) (wmV (wV 5) (wmV (wC (.int 0)) (wmNil))))) (wmV (wB1 fTupOf (wL (wFE (wLc [15] (wiU (wV 5)) (wgName 15) (wYes) (wB1 fOrd (wN 15)))))) (wmNil)))))) (wRet (wC (.bool false))) (wNext)) (wlaw_t11 A)
def wlaw_t13 (A : Ad) : WS := wSeq (wSet 5 (wM1 fJoin (wL (wC (.str ""))) (wL (wFE (wLc [13] (wiR1 (waCons (wCall (S_law_take A) (wmIo 1 (wmV (wC (.int 12)) (wmNil)))) (waNil))) (wgName 13) (wYes) (wOp fIx (wL (wC (.str "azAZ 09-~"))) (wL (wCall0 (S_law_take A) (wmIo 1 (wmV (wC (.int 9)) (wmNil))))))))))) (wlaw_t12 A)
def wlaw_t14 (A : Ad) : WS := wSeq (wFor (wiU (wFE (waCons (wTup (waCons (wUn fNeg (wL (wC (.int 1)))) (waCons (wC (.int 4)) (waNil)))) (waCons (wTup (waCons (wC (.int 5)) (waCons (wUn fNeg (wL (wC (.int 1)))) (waNil)))) (waCons (wTup (waCons (wC (.int 5)) (waCons (wC (.int 65)) (waNil)))) (waCons (wTup (waCons (wC (.int 256)) (waCons (wC (.int 1)) (waNil)))) (waCons (wTup (waCons (wC (.int 0)) (waCons (wC (.int 1)) (waNil)))) (waCons (wTup (waCons (wC (.int 255)) (waCons (wC (.int 1)) (waNil)))) (waCons (wTup (waCons (wC (.int 1)) (waCons (wC (.int 0)) (waNil)))) (waNil)))))))))) (wgTup [3, 4]) (wlaw_t4 A)) (wlaw_t13 A)
@[reducible] def wlaw_t15 (A : Ad) : WS := wSeq (wFor (wiU (wFE (waCons (wB1 fLen (wN 2)) (waCons (wOp fAdd (wL (wB1 fLen (wN 2))) (wL (wCall (S_law_take A) (wmIo 1 (wmV (wC (.int 20)) (wmNil)))))) (waCons (wCall (S_law_take A) (wmIo 1 (wmV (wC (.int 65)) (wmNil)))) (waNil)))))) (wgName 4) (wSeq (wSet 12 (wC (.str "OutOfRange"))) (wlaw_t2 A))) (wlaw_t14 A)
@[reducible] def wlaw_t16 (A : Ad) : WS := wSeq (wIfS (wOr (wNot (wTb (wCall (S_law_are_judged A) (wmIo 1 (wmV (wV 2) (wmNil)))))) (wTb (wOp fNe (wL (wCall (Snumber_of 1 A) (wmV (wV 2) (wmNil)))) (wL (wCall (S_law_number A) (wmV (wV 2) (wmNil))))))) (wRet (wC (.bool false))) (wNext)) (wSeq (wSet 3 (wCall (S_law_number A) (wmV (wV 2) (wmNil)))) (wlaw_t15 A))
def wlaw (A : Ad) : WS := wSeq (wSetO 1 (wCallF (S_law_draws A) (wmV (wV 0) (wmNil)))) (wSeq (wSet 2 (wCall (S_law_octets A) (wmIo 1 (wmV (wC (.int 40)) (wmNil))))) (wlaw_t16 A))
section
variable {P : Program} {w : World} {K : PySem.W.Frag} {mg : Str → Option Value} {base : Heap} {A : Ad}
theorem denis_number (T : Txt K mg A) (B : Bs base mg A) 
    (cdv : Value) (Ar : Around) (outer : List Env) (s : Shared) (H : Hp) (E : XK) (hr : Room 0 (Ar.deeper (envOfC "is_number" (defScope sis_number) s.heap.objs.size A.fis_number cdv))) :
    PSs (cxOf (L2N.CX P w) P w K mg base Nis_number "is_number" (defScope sis_number) A.fis_number cdv Ar outer s H E) (defBody sis_number) (cS K (fun cls d _ H => E cls d H) (wis_number A)) := by
  have nd := scis_number.nd
  exact dsOne (dRet (ps_ret (dAndV (dIsi (fun _ _ ha hb => pe_callB call_isi rfl T.b_isinstance (by decide +kernel) (pa_cons ha (pa_cons hb pa_nil))) (dN (pv 0)) (pe_bltn (v := .ty "int") rfl T.b_int (by decide +kernel) rfl) kit_int) (dAndV (dNotV (dIsi (fun _ _ ha hb => pe_callB call_isi rfl T.b_isinstance (by decide +kernel) (pa_cons ha (pa_cons hb pa_nil))) (dN (pv 0)) (pe_bltn (v := .ty "bool") rfl T.b_bool (by decide +kernel) rfl) kit_bool)) (pe_one (dChain op_le op_le sr_le sr_le (dN (pv 1)) (dN (pv 0)) (dN (pv 2))))))))
theorem den_law_draws (T : Txt K mg A) (B : Bs base mg A) 
    (cdv : Value) (Ar : Around) (outer : List Env) (s : Shared) (H : Hp) (E : XK) (hr : Room 0 (Ar.deeper (envOfC "_law_draws" (defScope s_law_draws) s.heap.objs.size A.f_law_draws cdv))) :
    PSs (cxOf (L2N.CX P w) P w K mg base N_law_draws "_law_draws" (defScope s_law_draws) A.f_law_draws cdv Ar outer s H E) (defBody s_law_draws) (cS K (fun cls d _ H => E cls d H) (w_law_draws A)) := by
  have nd := sc_law_draws.nd
  have po : PassesOwn (model P w) (Ar.deeper (envOfC "_law_draws" (defScope s_law_draws) s.heap.objs.size A.f_law_draws cdv)) (envOfC "_law_draws" (defScope s_law_draws) s.heap.objs.size A.f_law_draws cdv) (cxOf (L2N.CX P w) P w K mg base N_law_draws "_law_draws" (defScope s_law_draws) A.f_law_draws cdv Ar outer s H E).xe := passes_of (X := cxOf (L2N.CX P w) P w K mg base N_law_draws "_law_draws" (defScope s_law_draws) A.f_law_draws cdv Ar outer s H E) rfl
  exact dsCons (dSetO (ps_set (i := 1) nd rfl (by first | exact Or.inl rfl | exact Or.inr rfl) (dLst (daNil)))) (dsCons (dFor (ps_for po rfl (diA (pi_lt (dV (pv 0)))) (dgName (pg_name (i := 2) nd rfl (by first | exact Or.inl rfl | exact Or.inr rfl))) (dsCons (dSet (ps_set (i := 5) nd rfl (by first | exact Or.inl rfl | exact Or.inr rfl) (dB1 (fun _ ha => pe_callB call_abs rfl T.b_abs (by decide +kernel) (pa_cons ha pa_nil)) su_abs (dN (pv 2))))) (dsCons (dIfS (ps_if (dTc op_lt sr_lt (dN (pv 5)) (dl (dOp op_pow sr_pow (dl (dI)) (dl (dI)))) (nomark _)) (dsCons (dSet (ps_set (i := 6) nd rfl (by first | exact Or.inl rfl | exact Or.inr rfl) (dOp op_modN sr_mod (dl (dB1 (fun _ ha => pe_callTy call_int1 rfl T.b_int (by decide +kernel) (pa_cons ha pa_nil)) su_int (dl (dOp op_addA sr_add (dl (dOp op_mulX sr_mul (dN (pv 5)) (dl (dI)))) (dl (dI)))))) (dl (dI))))) (dsCons (dApp (ps_expr (pe_bm PySem.F.plainAttrs_list PySem.F.slot_list_append PySem.F.type_list_append mt_append (pv 1) (pa_cons (dOp op_modN sr_mod (dl (dB1 (fun _ ha => pe_callTy call_int1 rfl T.b_int (by decide +kernel) (pa_cons ha pa_nil)) su_int (dl (dOp op_addA sr_add (dl (dOp op_mulX sr_mul (dN (pv 6)) (dl (dI)))) (dN (pv 5)))))) (dl (dI))) pa_nil)))) (dsCons (dApp (ps_expr (pe_bm PySem.F.plainAttrs_list PySem.F.slot_list_append PySem.F.type_list_append mt_append (pv 1) (pa_cons (dOp op_modN sr_mod (dl (dB1 (fun _ ha => pe_callTy call_int1 rfl T.b_int (by decide +kernel) (pa_cons ha pa_nil)) su_int (dl (dOp op_addA sr_add (dN (pv 6)) (dl (dOp op_fdivA sr_div (dN (pv 5)) (dl (dI)))))))) (dl (dI))) pa_nil)))) (dsOne (dSet (ps_set (i := 5) nd rfl (by first | exact Or.inl rfl | exact Or.inr rfl) (dI))))))) (dsNil))) (dsOne (dFor (ps_for po rfl (diR1 (pi_range1 rfl T.b_range (daCons (dI) (daNil)))) (dgName (pg_name (i := 4) nd rfl (by first | exact Or.inl rfl | exact Or.inr rfl))) (dsOne (dIfS (ps_if (dTc op_gt sr_gt (dN (pv 5)) (dl (dI)) (nomark _)) (dsCons (dApp (ps_expr (pe_bm PySem.F.plainAttrs_list PySem.F.slot_list_append PySem.F.type_list_append mt_append (pv 1) (pa_cons (dOp op_modN sr_mod (dl (dB1 (fun _ ha => pe_callTy call_int1 rfl T.b_int (by decide +kernel) (pa_cons ha pa_nil)) su_int (dN (pv 5)))) (dl (dI))) pa_nil)))) (dsOne (dSet (ps_set (i := 5) nd rfl (by first | exact Or.inl rfl | exact Or.inr rfl) (dOp op_fdivA sr_div (dN (pv 5)) (dl (dI))))))) (dsNil))))))))))) (dsCons (dSet (ps_set (i := 3) nd rfl (by first | exact Or.inl rfl | exact Or.inr rfl) (dI))) (dsCons (dIfS (ps_if (dTc op_gt sr_gt (dl (dB1 (fun _ ha => pe_callB call_len rfl T.b_len (by decide +kernel) (pa_cons ha pa_nil)) su_len (dN (pv 0)))) (dl (dI)) (nomark _)) (dsOne (dSet (ps_set (i := 3) nd rfl (by first | exact Or.inl rfl | exact Or.inr rfl) (dOp op_addA sr_add (dl (dI)) (dl (dB1 (fun _ ha => pe_callB call_abs rfl T.b_abs (by decide +kernel) (pa_cons ha pa_nil)) su_abs (dl (dIx ix_seq sr_ix (dN (pv 0)) (dl (dI)) (fun _ _ => rfl))))))))) (dsNil))) (dsCons (dFor (ps_for po rfl (diR1 (pi_range1 rfl T.b_range (daCons (dI) (daNil)))) (dgName (pg_name (i := 4) nd rfl (by first | exact Or.inl rfl | exact Or.inr rfl))) (dsCons (dSet (ps_set (i := 3) nd rfl (by first | exact Or.inl rfl | exact Or.inr rfl) (dOp op_modN sr_mod (dl (dB1 (fun _ ha => pe_callTy call_int1 rfl T.b_int (by decide +kernel) (pa_cons ha pa_nil)) su_int (dl (dOp op_addA sr_add (dl (dOp op_mulX sr_mul (dN (pv 3)) (dl (dI)))) (dl (dI)))))) (dl (dI))))) (dsOne (dApp (ps_expr (pe_bm PySem.F.plainAttrs_list PySem.F.slot_list_append PySem.F.type_list_append mt_append (pv 1) (pa_cons (dOp op_fdivA sr_div (dN (pv 3)) (dl (dI))) pa_nil)))))))) (dsOne (dRetF (ps_ret (dRevL (fun _ ha => pe_lstRev rfl rfl T.b_list rfl T.b_reversed ha) (dN (pv 1))))))))))
theorem den_law_take (T : Txt K mg A) (B : Bs base mg A) 
    (cdv : Value) (Ar : Around) (outer : List Env) (s : Shared) (H : Hp) (E : XK) (hr : Room 0 (Ar.deeper (envOfC "_law_take" (defScope s_law_take) s.heap.objs.size A.f_law_take cdv))) :
    PSs (cxOf (L2N.CX P w) P w K mg base N_law_take "_law_take" (defScope s_law_take) A.f_law_take cdv Ar outer s H E) (defBody s_law_take) (cS K (fun cls d _ H => E cls d H) (w_law_take A)) := by
  have nd := sc_law_take.nd
  exact dsCons (dIfS (ps_if (dTc (op_eqA hr.units) sr_eq (dl (dB1 (fun _ ha => pe_callB call_len rfl T.b_len (by decide +kernel) (pa_cons ha pa_nil)) su_len (dN (pv 0)))) (dl (dI)) (nomark _)) (dsOne (dRet (ps_ret (dI)))) (dsNil))) (dsOne (dRet (ps_ret (dOp op_modN sr_mod (dl (dB1 (fun _ ha => pe_callTy call_int1 rfl T.b_int (by decide +kernel) (pa_cons ha pa_nil)) su_int (dl (dPop (pe_bm0 PySem.F.plainAttrs_list PySem.F.slot_list_pop PySem.F.type_list_pop mt_pop (pv 0)))))) (dN (pv 1))))))
theorem den_law_power (T : Txt K mg A) (B : Bs base mg A) 
    (cdv : Value) (Ar : Around) (outer : List Env) (s : Shared) (H : Hp) (E : XK) (hr : Room 0 (Ar.deeper (envOfC "_law_power" (defScope s_law_power) s.heap.objs.size A.f_law_power cdv))) :
    PSs (cxOf (L2N.CX P w) P w K mg base N_law_power "_law_power" (defScope s_law_power) A.f_law_power cdv Ar outer s H E) (defBody s_law_power) (cS K (fun cls d _ H => E cls d H) (w_law_power A)) := by
  have nd := sc_law_power.nd
  have po : PassesOwn (model P w) (Ar.deeper (envOfC "_law_power" (defScope s_law_power) s.heap.objs.size A.f_law_power cdv)) (envOfC "_law_power" (defScope s_law_power) s.heap.objs.size A.f_law_power cdv) (cxOf (L2N.CX P w) P w K mg base N_law_power "_law_power" (defScope s_law_power) A.f_law_power cdv Ar outer s H E).xe := passes_of (X := cxOf (L2N.CX P w) P w K mg base N_law_power "_law_power" (defScope s_law_power) A.f_law_power cdv Ar outer s H E) rfl
  exact dsCons (dSet (ps_set (i := 2) nd rfl (by first | exact Or.inl rfl | exact Or.inr rfl) (dI))) (dsCons (dFor (ps_for po rfl (diR1 (pi_range1 rfl T.b_range (daCons (dV (pv 1)) (daNil)))) (dgName (pg_name (i := 3) nd rfl (by first | exact Or.inl rfl | exact Or.inr rfl))) (dsOne (dSet (ps_set (i := 2) nd rfl (by first | exact Or.inl rfl | exact Or.inr rfl) (dOp op_mulX sr_mul (dN (pv 2)) (dN (pv 0)))))))) (dsOne (dRet (ps_ret (dV (pv 2))))))
theorem den_law_told (T : Txt K mg A) {D : Addr} {bOutOfRange bMalformed bNotThere bRefused bTooMuch bValueError : Bool} (hX : ExcC K D) (hkOutOfRange : PySem.W.kitOne K (.ref D) (.ref A.cOutOfRange) = some bOutOfRange) (hkMalformed : PySem.W.kitOne K (.ref D) (.ref A.cMalformed) = some bMalformed) (hkNotThere : PySem.W.kitOne K (.ref D) (.ref A.cNotThere) = some bNotThere) (hkRefused : PySem.W.kitOne K (.ref D) (.ref A.cRefused) = some bRefused) (hkTooMuch : PySem.W.kitOne K (.ref D) (.ref A.cTooMuch) = some bTooMuch) (hkValueError : PySem.W.kitOne K (.ref D) (.type "ValueError") = some bValueError)
    (cdv : Value) (Ar : Around) (outer : List Env) (s : Shared) (H : Hp) (p : Addr × Obj) (ho : L2H.Hot1 Ar p) (hr0 : L2H.RoomH 0 (Ar.deeper (envOfC "_law_told" (defScope s_law_told) s.heap.objs.size A.f_law_told cdv))) (hz : L2N.Zn (.ref D) none p.2) :
    PSs (cxT P w K mg base N_law_told "_law_told" (defScope s_law_told) A.f_law_told cdv Ar outer s H p) (defBody s_law_told) (cS K WNo (w_law_told p.1 bOutOfRange bMalformed bNotThere bRefused bTooMuch bValueError)) := by
  obtain ⟨a, oe⟩ := p
  have hot : L2H.HotC (cxT P w K mg base N_law_told "_law_told" (defScope s_law_told) A.f_law_told cdv Ar outer s H (a, oe)) := ⟨(a, oe), ho, List.mem_cons_self⟩
  have hzf : ∃ vs, oe.data = .fields vs := by obtain ⟨_, vs, e, _⟩ := ho; exact ⟨vs, e⟩
  have hu : (Ar.deeper (envOfC "_law_told" (defScope s_law_told) s.heap.objs.size A.f_law_told cdv)).units + 64 < cLine := by have := hr0.un; omega
  have nd := sc_law_told.nd
  exact dsCons (dSet (ps_set (i := 1) nd rfl (by first | exact Or.inl rfl | exact Or.inr rfl) (dFE (dLst (daCons (dIsX (pe_callB (call_isP hX (by exact List.mem_cons_self) hz.zc hzf) rfl T.b_isinstance (by decide +kernel) (pa_cons (pv 0) (pa_cons (pe_glob (v := .ref A.cOutOfRange) rfl T.cOutOfRange rfl) pa_nil))) (fun u r => r) hkOutOfRange) (daCons (dIsX (pe_callB (call_isP hX (by exact List.mem_cons_self) hz.zc hzf) rfl T.b_isinstance (by decide +kernel) (pa_cons (pv 0) (pa_cons (pe_glob (v := .ref A.cMalformed) rfl T.cMalformed rfl) pa_nil))) (fun u r => r) hkMalformed) (daCons (dIsX (pe_callB (call_isP hX (by exact List.mem_cons_self) hz.zc hzf) rfl T.b_isinstance (by decide +kernel) (pa_cons (pv 0) (pa_cons (pe_glob (v := .ref A.cNotThere) rfl T.cNotThere rfl) pa_nil))) (fun u r => r) hkNotThere) (daCons (dIsX (pe_callB (call_isP hX (by exact List.mem_cons_self) hz.zc hzf) rfl T.b_isinstance (by decide +kernel) (pa_cons (pv 0) (pa_cons (pe_glob (v := .ref A.cRefused) rfl T.cRefused rfl) pa_nil))) (fun u r => r) hkRefused) (daCons (dIsX (pe_callB (call_isP hX (by exact List.mem_cons_self) hz.zc hzf) rfl T.b_isinstance (by decide +kernel) (pa_cons (pv 0) (pa_cons (pe_glob (v := .ref A.cTooMuch) rfl T.cTooMuch rfl) pa_nil))) (fun u r => r) hkTooMuch) (daNil)))))))))) (dsCons (dIfS (ps_if (PW.pt (dOr (dNot (dTv (dIsX (pe_callB (call_isP hX (by exact List.mem_cons_self) hz.zc hzf) rfl T.b_isinstance (by decide +kernel) (pa_cons (pv 0) (pa_cons (pe_bltn (v := .ty "ValueError") rfl T.b_ValueError (by decide +kernel) rfl) pa_nil))) (fun u r => r) hkValueError))) (pw_or1 (dTc (op_neA hu) sr_ne (dl (dB1 (fun _ ha => pe_callB call_len rfl T.b_len (by decide +kernel) (pa_cons ha pa_nil)) su_len (dl (dFE (dLcF (pe_lcS (own := [("kind", 2)]) hot nd (diLS (pi_listS (dV (pv 1)))) (blkOk_by (N := N_law_told) (sc := defScope s_law_told) (own := [("kind", 2)]) (by decide +kernel)) (fun _ _ _ _ _ hhot => dgvName (pg_name (i := 2) nd rfl (by first | exact Or.inl rfl | exact Or.inr rfl)) (by decide)) (fun _ _ _ _ _ => pts_one (dTv (dV (pv 2)))) (fun _ _ _ _ _ => dV (pv 2)))))))) (dl (dI)) (nomark _))))) (dsOne (dRet (ps_ret (dX)))) (dsNil))) (dsOne (dRet (ps_ret (dIx ix_seq sr_ix (dl (dFE (dLst (daCons (dX) (daCons (dX) (daCons (dX) (daCons (dX) (daCons (dX) (daNil))))))))) (dl (dIdx (pe_bm PySem.F.plainAttrs_list PySem.F.slot_list_index PySem.F.type_list_index mt_index (dN (pv 1)) (pa_cons (dB) pa_nil)))) (fun _ _ => rfl))))))
theorem den_law_number (T : Txt K mg A) (B : Bs base mg A) 
    (cdv : Value) (Ar : Around) (outer : List Env) (s : Shared) (H : Hp) (E : XK) (hr : Room 0 (Ar.deeper (envOfC "_law_number" (defScope s_law_number) s.heap.objs.size A.f_law_number cdv))) :
    PSs (cxOf (L2N.CX P w) P w K mg base N_law_number "_law_number" (defScope s_law_number) A.f_law_number cdv Ar outer s H E) (defBody s_law_number) (cS K (fun cls d _ H => E cls d H) (w_law_number A)) := by
  have nd := sc_law_number.nd
  have po : PassesOwn (model P w) (Ar.deeper (envOfC "_law_number" (defScope s_law_number) s.heap.objs.size A.f_law_number cdv)) (envOfC "_law_number" (defScope s_law_number) s.heap.objs.size A.f_law_number cdv) (cxOf (L2N.CX P w) P w K mg base N_law_number "_law_number" (defScope s_law_number) A.f_law_number cdv Ar outer s H E).xe := passes_of (X := cxOf (L2N.CX P w) P w K mg base N_law_number "_law_number" (defScope s_law_number) A.f_law_number cdv Ar outer s H E) rfl
  exact dsCons (dSet (ps_set (i := 1) nd rfl (by first | exact Or.inl rfl | exact Or.inr rfl) (dI))) (dsCons (dFor (ps_for po rfl (diA (pi_lt (dV (pv 0)))) (dgName (pg_name (i := 2) nd rfl (by first | exact Or.inl rfl | exact Or.inr rfl))) (dsOne (dSet (ps_set (i := 1) nd rfl (by first | exact Or.inl rfl | exact Or.inr rfl) (dOp op_addA sr_add (dl (dOp op_mulX sr_mul (dN (pv 1)) (dl (dI)))) (dN (pv 2)))))))) (dsOne (dRet (ps_ret (dV (pv 1))))))
theorem den_law_hex (T : Txt K mg A) (B : Bs base mg A) 
    (cdv : Value) (Ar : Around) (outer : List Env) (s : Shared) (H : Hp) (E : XK) (hr : Room 0 (Ar.deeper (envOfC "_law_hex" (defScope s_law_hex) s.heap.objs.size A.f_law_hex cdv))) :
    PSs (cxOf (L2N.CX P w) P w K mg base N_law_hex "_law_hex" (defScope s_law_hex) A.f_law_hex cdv Ar outer s H E) (defBody s_law_hex) (cS K (fun cls d _ H => E cls d H) (w_law_hex A)) := by
  have nd := sc_law_hex.nd
  have po : PassesOwn (model P w) (Ar.deeper (envOfC "_law_hex" (defScope s_law_hex) s.heap.objs.size A.f_law_hex cdv)) (envOfC "_law_hex" (defScope s_law_hex) s.heap.objs.size A.f_law_hex cdv) (cxOf (L2N.CX P w) P w K mg base N_law_hex "_law_hex" (defScope s_law_hex) A.f_law_hex cdv Ar outer s H E).xe := passes_of (X := cxOf (L2N.CX P w) P w K mg base N_law_hex "_law_hex" (defScope s_law_hex) A.f_law_hex cdv Ar outer s H E) rfl
  exact dsCons (dSet (ps_set (i := 1) nd rfl (by first | exact Or.inl rfl | exact Or.inr rfl) (dX))) (dsCons (dSet (ps_set (i := 2) nd rfl (by first | exact Or.inl rfl | exact Or.inr rfl) (dX))) (dsCons (dFor (ps_for po rfl (diA (pi_lt (dV (pv 0)))) (dgName (pg_name (i := 3) nd rfl (by first | exact Or.inl rfl | exact Or.inr rfl))) (dsOne (dSet (ps_set (i := 2) nd rfl (by first | exact Or.inl rfl | exact Or.inr rfl) (dOp op_addA sr_add (dl (dOp op_addA sr_add (dN (pv 2)) (dl (dIx ix_seq sr_ix (dN (pv 1)) (dl (dOp op_fdivA sr_div (dN (pv 3)) (dl (dI)))) (fun _ _ => rfl))))) (dl (dIx ix_seq sr_ix (dN (pv 1)) (dl (dOp op_sub sr_sub (dN (pv 3)) (dl (dOp op_mulX sr_mul (dl (dOp op_fdivA sr_div (dN (pv 3)) (dl (dI)))) (dl (dI)))))) (fun _ _ => rfl))))))))) (dsOne (dRet (ps_ret (dV (pv 2)))))))
theorem den_law_unhex (T : Txt K mg A) (B : Bs base mg A) 
    (cdv : Value) (Ar : Around) (outer : List Env) (s : Shared) (H : Hp) (E : XK) (hr : Room 0 (Ar.deeper (envOfC "_law_unhex" (defScope s_law_unhex) s.heap.objs.size A.f_law_unhex cdv))) :
    PSs (cxOf (L2N.CX P w) P w K mg base N_law_unhex "_law_unhex" (defScope s_law_unhex) A.f_law_unhex cdv Ar outer s H E) (defBody s_law_unhex) (cS K (fun cls d _ H => E cls d H) (w_law_unhex A)) := by
  have nd := sc_law_unhex.nd
  exact dsCons (dSet (ps_set (i := 1) nd rfl (by first | exact Or.inl rfl | exact Or.inr rfl) (dX))) (dsCons (dIfS (ps_if (PW.pt (dOr (dTc (op_neA hr.units) sr_ne (dl (dOp op_mulX sr_mul (dl (dOp op_fdivA sr_div (dl (dB1 (fun _ ha => pe_callB call_len rfl T.b_len (by decide +kernel) (pa_cons ha pa_nil)) su_len (dN (pv 0)))) (dl (dI)))) (dl (dI)))) (dl (dB1 (fun _ ha => pe_callB call_len rfl T.b_len (by decide +kernel) (pa_cons ha pa_nil)) su_len (dN (pv 0)))) (nomark _)) (pw_or1 (dTc (op_neA hr.units) sr_ne (dl (dFE (dLcF (pe_lc (own := [("sign", 3)]) rfl nd (diU (pi_lts (dV (pv 0)))) (blkOk_by (N := N_law_unhex) (sc := defScope s_law_unhex) (own := [("sign", 3)]) (by decide +kernel)) (fun _ _ _ _ _ => dgvName (pg_name (i := 3) nd rfl (by first | exact Or.inl rfl | exact Or.inr rfl)) (by decide)) (fun _ _ _ _ _ => pts_one (dTc op_notIn_str sr_ninS (dN (pv 3)) (dN (pv 1)) (by with_unfolding_all rfl))) (fun _ _ _ _ _ => dV (pv 3)))))) (dl (dFE (dLst (daNil)))) (nomark _))))) (dsOne (dRet (ps_ret (dX)))) (dsNil))) (dsOne (dRet (ps_ret (dB1 (fun _ ha => pe_callTy call_tuple_of rfl T.b_tuple (by decide +kernel) (pa_cons ha pa_nil)) su_tupOf (dl (dFE (dLcF (pe_lc (own := [("k", 2)]) rfl nd (diR3 (pi_range3 rfl T.b_range (daCons (dI) (daCons (dB1 (fun _ ha => pe_callB call_len rfl T.b_len (by decide +kernel) (pa_cons ha pa_nil)) su_len (dN (pv 0))) (daCons (dI) (daNil)))))) (blkOk_by (N := N_law_unhex) (sc := defScope s_law_unhex) (own := [("k", 2)]) (by decide +kernel)) (fun _ _ _ _ _ => dgvName (pg_name (i := 2) nd rfl (by first | exact Or.inl rfl | exact Or.inr rfl)) (by decide)) (fun _ _ _ _ _ => dYes) (fun _ _ _ _ _ => dOp op_addA sr_add (dl (dOp op_mulX sr_mul (dl (dI)) (dl (dM1 (fun _ _ ho ha => pe_m1 PySem.F.slot_str_index PySem.F.type_str_index mt_sindex ho ha) sr_six (dN (pv 1)) (dl (dIx ix_seq sr_ix (dN (pv 0)) (dN (pv 2)) (fun _ _ => rfl))))))) (dl (dM1 (fun _ _ ho ha => pe_m1 PySem.F.slot_str_index PySem.F.type_str_index mt_sindex ho ha) sr_six (dN (pv 1)) (dl (dIx ix_seq sr_ix (dN (pv 0)) (dl (dOp op_addA sr_add (dN (pv 2)) (dl (dI)))) (fun _ _ => rfl)))))))))))))))
theorem den_law_pack (T : Txt K mg A) (B : Bs base mg A) 
    (cdv : Value) (Ar : Around) (outer : List Env) (s : Shared) (H : Hp) (E : XK) (hr : Room 0 (Ar.deeper (envOfC "_law_pack" (defScope s_law_pack) s.heap.objs.size A.f_law_pack cdv))) :
    PSs (cxOf (L2N.CX P w) P w K mg base N_law_pack "_law_pack" (defScope s_law_pack) A.f_law_pack cdv Ar outer s H E) (defBody s_law_pack) (cS K (fun cls d _ H => E cls d H) (w_law_pack A)) := by
  have nd := sc_law_pack.nd
  have po : PassesOwn (model P w) (Ar.deeper (envOfC "_law_pack" (defScope s_law_pack) s.heap.objs.size A.f_law_pack cdv)) (envOfC "_law_pack" (defScope s_law_pack) s.heap.objs.size A.f_law_pack cdv) (cxOf (L2N.CX P w) P w K mg base N_law_pack "_law_pack" (defScope s_law_pack) A.f_law_pack cdv Ar outer s H E).xe := passes_of (X := cxOf (L2N.CX P w) P w K mg base N_law_pack "_law_pack" (defScope s_law_pack) A.f_law_pack cdv Ar outer s H E) rfl
  exact dsCons (dSet (ps_set (i := 1) nd rfl (by first | exact Or.inl rfl | exact Or.inr rfl) (dTup (daNil)))) (dsCons (dFor (ps_for po rfl (diA (pi_lt (dV (pv 0)))) (dgName (pg_name (i := 2) nd rfl (by first | exact Or.inl rfl | exact Or.inr rfl))) (dsOne (dSet (ps_set (i := 1) nd rfl (by first | exact Or.inl rfl | exact Or.inr rfl) (dOp op_addA sr_add (dl (dOp op_addA sr_add (dN (pv 1)) (dl (dTup (daCons (dI) (daCons (dI) (daCons (dOp op_fdivA sr_div (dl (dB1 (fun _ ha => pe_callB call_len rfl T.b_len (by decide +kernel) (pa_cons ha pa_nil)) su_len (dN (pv 2)))) (dl (dI))) (daCons (dOp op_sub sr_sub (dl (dB1 (fun _ ha => pe_callB call_len rfl T.b_len (by decide +kernel) (pa_cons ha pa_nil)) su_len (dN (pv 2)))) (dl (dOp op_mulX sr_mul (dl (dOp op_fdivA sr_div (dl (dB1 (fun _ ha => pe_callB call_len rfl T.b_len (by decide +kernel) (pa_cons ha pa_nil)) su_len (dN (pv 2)))) (dl (dI)))) (dl (dI))))) (daNil))))))))) (dN (pv 2)))))))) (dsOne (dRet (ps_ret (dV (pv 1))))))
theorem denof_number (T : Txt K mg A) (B : Bs base mg A) (Fis_number : FnOk P w K mg base (L2N.CX P w) 1 A.fis_number A.dis_number Pis_number (toSp K 3 (Sis_number A)))
    (cdv : Value) (Ar : Around) (outer : List Env) (s : Shared) (H : Hp) (E : XK) (hr : Room 1 (Ar.deeper (envOfC "of_number" (defScope sof_number) s.heap.objs.size A.fof_number cdv))) :
    PSs (cxOf (L2N.CX P w) P w K mg base Nof_number "of_number" (defScope sof_number) A.fof_number cdv Ar outer s H E) (defBody sof_number) (cS K (fun cls d _ H => E cls d H) (wof_number A)) := by
  have nd := scof_number.nd
  have tk : L2N.Takes (cxOf (L2N.CX P w) P w K mg base Nof_number "of_number" (defScope sof_number) A.fof_number cdv Ar outer s H E) (fun cls d _ H => E cls d H) := L2N.takes_of rfl rfl rfl rfl
  exact dsCons (dIfS (ps_if (PW.pt (dOr (dNot (dTv (dCall Fis_number (hr.mono (by decide)) rfl T.fis_number T.pis_number T.ais_number tk (dmV (dV (pv 1)) (dmV (dI) (dmV (dGi rfl T.k_MOST_SIZE) (dmNil))))))) (pw_or1 (dNot (dTchain op_le op_lt sr_le sr_lt (dl (dI)) (dN (pv 0)) (dl (dOp op_shlW sr_shl (dl (dI)) (dl (dOp op_mulX sr_mul (dl (dI)) (dN (pv 1))))))))))) (dsOne (dRaise (L2N.ps_raise rfl tk (L2N.pmk_own PySem.F.excBase_ValueError T.xOutOfRange T.cOutOfRange T.qOutOfRange (raises_own T.uOutOfRange T.tOutOfRange) rfl)))) (dsNil))) (dsOne (dRet (ps_ret (dB1 (fun _ ha => pe_callTy call_tuple_of rfl T.b_tuple (by decide +kernel) (pa_cons ha pa_nil)) su_tupOf (dl (dFE (dLcF (pe_lc (own := [("at", 2)]) rfl nd (diR3 (pi_range3 rfl T.b_range (daCons (dOp op_sub sr_sub (dN (pv 1)) (dl (dI))) (daCons (dUn un_neg su_neg (dl (dI))) (daCons (dUn un_neg su_neg (dl (dI))) (daNil)))))) (blkOk_by (N := Nof_number) (sc := defScope sof_number) (own := [("at", 2)]) (by decide +kernel)) (fun _ _ _ _ _ => dgvName (pg_name (i := 2) nd rfl (by first | exact Or.inl rfl | exact Or.inr rfl)) (by decide)) (fun _ _ _ _ _ => dYes) (fun _ _ _ _ _ => dOp op_and sr_band (dl (dOp op_shr sr_shr (dN (pv 0)) (dl (dOp op_mulX sr_mul (dl (dI)) (dN (pv 2)))))) (dl (dI)))))))))))
theorem dennumber_of (T : Txt K mg A) (B : Bs base mg A) (d : Nat) (Fnumber_of : FnOk P w K mg base (L2N.CX P w) (1 + d) A.fnumber_of A.dnumber_of Pnumber_of (toSp K 1 (Snumber_of d A)))
    (cdv : Value) (Ar : Around) (outer : List Env) (s : Shared) (H : Hp) (E : XK) (hr : Room (1 + d) (Ar.deeper (envOfC "number_of" (defScope snumber_of) s.heap.objs.size A.fnumber_of cdv))) :
    PSs (cxOf (L2N.CX P w) P w K mg base Nnumber_of "number_of" (defScope snumber_of) A.fnumber_of cdv Ar outer s H E) (defBody snumber_of) (cS K (fun cls d _ H => E cls d H) (wnumber_of d A)) := by
  have nd := scnumber_of.nd
  have tk : L2N.Takes (cxOf (L2N.CX P w) P w K mg base Nnumber_of "number_of" (defScope snumber_of) A.fnumber_of cdv Ar outer s H E) (fun cls d _ H => E cls d H) := L2N.takes_of rfl rfl rfl rfl
  have po : PassesOwn (model P w) (Ar.deeper (envOfC "number_of" (defScope snumber_of) s.heap.objs.size A.fnumber_of cdv)) (envOfC "number_of" (defScope snumber_of) s.heap.objs.size A.fnumber_of cdv) (cxOf (L2N.CX P w) P w K mg base Nnumber_of "number_of" (defScope snumber_of) A.fnumber_of cdv Ar outer s H E).xe := passes_of (X := cxOf (L2N.CX P w) P w K mg base Nnumber_of "number_of" (defScope snumber_of) A.fnumber_of cdv Ar outer s H E) rfl
  exact dsCons (dIfS (ps_if (dTc op_gt sr_gt (dl (dB1 (fun _ ha => pe_callB call_len rfl T.b_len (by decide +kernel) (pa_cons ha pa_nil)) su_len (dN (pv 0)))) (dl (dGi rfl T.k_MOST_SIZE)) (nomark _)) (dsCons (dSet (ps_set (i := 3) nd rfl (by first | exact Or.inl rfl | exact Or.inr rfl) (dOp op_fdivA sr_div (dl (dB1 (fun _ ha => pe_callB call_len rfl T.b_len (by decide +kernel) (pa_cons ha pa_nil)) su_len (dN (pv 0)))) (dl (dI))))) (dsOne (dRet (ps_ret (dOp op_or sr_bor (dl (dOp op_shlW sr_shl (dl (dCall Fnumber_of (hr.mono (by omega)) rfl T.fnumber_of T.pnumber_of T.anumber_of tk (dmV (dSlV (dN (pv 0)) (dpNo) (dpAt (dV (pv 3)))) (dmNil)))) (dl (dOp op_mulX sr_mul (dl (dI)) (dl (dOp op_sub sr_sub (dl (dB1 (fun _ ha => pe_callB call_len rfl T.b_len (by decide +kernel) (pa_cons ha pa_nil)) su_len (dN (pv 0)))) (dN (pv 3)))))))) (dl (dCall Fnumber_of (hr.mono (by omega)) rfl T.fnumber_of T.pnumber_of T.anumber_of tk (dmV (dSlV (dN (pv 0)) (dpAt (dV (pv 3))) (dpNo)) (dmNil))))))))) (dsNil))) (dsCons (dSet (ps_set (i := 1) nd rfl (by first | exact Or.inl rfl | exact Or.inr rfl) (dI))) (dsCons (dFor (ps_for po rfl (diA (pi_lt (dV (pv 0)))) (dgName (pg_name (i := 2) nd rfl (by first | exact Or.inl rfl | exact Or.inr rfl))) (dsOne (dSet (ps_set (i := 1) nd rfl (by first | exact Or.inl rfl | exact Or.inr rfl) (dOp op_or sr_bor (dl (dOp op_shlW sr_shl (dN (pv 1)) (dl (dI)))) (dN (pv 2)))))))) (dsOne (dRet (ps_ret (dV (pv 1)))))))
theorem denof_text (T : Txt K mg A) (B : Bs base mg A) 
    (Ar : Around) (outer : List Env) (s : Shared) (H : Hp) (E : XK) (hr : Room 1 (Ar.deeper (envOfC "of_text" (defScope sof_text) s.heap.objs.size A.fof_text (.ref A.kof_text)))) :
    PSs (cxOf (L2N.CX P w) P w K mg base Nof_text "of_text" (defScope sof_text) A.fof_text (.ref A.kof_text) Ar outer s H E) (defBody sof_text) (cS K (fun cls d _ H => E cls d H) (wof_text A)) := by
  have nd := scof_text.nd
  have tk : L2N.Takes (cxOf (L2N.CX P w) P w K mg base Nof_text "of_text" (defScope sof_text) A.fof_text (.ref A.kof_text) Ar outer s H E) (fun cls d _ H => E cls d H) := L2N.takes_of rfl rfl rfl rfl
  exact dsCons (dSet (ps_set (i := 1) nd rfl (by first | exact Or.inl rfl | exact Or.inr rfl) (dB1 (fun _ ha => pe_callTy call_tuple_of rfl T.b_tuple (by decide +kernel) (pa_cons ha pa_nil)) su_tupOf (dl (dFE (dLcF (pe_lc (own := [("sign", 2)]) rfl nd (diU (pi_lts (dV (pv 0)))) (blkOk_by (N := Nof_text) (sc := defScope sof_text) (own := [("sign", 2)]) (by decide +kernel)) (fun _ _ _ _ _ => dgvName (pg_name (i := 2) nd rfl (by first | exact Or.inl rfl | exact Or.inr rfl)) (by decide)) (fun _ _ _ _ _ => dYes) (fun _ _ _ _ _ => dB1 (fun _ ha => pe_callB call_ord rfl T.b_ord (by decide +kernel) (pa_cons ha pa_nil)) su_ord (dN (pv 2)))))))))) (dsCons (dIfS (ps_if (dTv (dAnyG (k := 0) (cs := [false, false, false, false]) T.Pof_text (hr.mono (by decide)) rfl T.b_any B.bof_text rfl (show GenSc (defScope sof_text) _ from ⟨rfl, rfl, by decide +kernel, by decide +kernel⟩) rfl (by show capOk Nof_text _ _ = true; decide +kernel) (diU (pi_lts (dV (pv 1)))) (fun _ _ _ _ _ hr => ⟨dgName (pg_name (i := 3) nd rfl (Or.inl rfl)), dCmp op_gt sr_gt (dN (pv 3)) (dl (dI)) (nomark _)⟩))) (dsOne (dRaise (L2N.ps_raise rfl tk (L2N.pmk_own PySem.F.excBase_ValueError T.xMalformed T.cMalformed T.qMalformed (raises_own T.uMalformed T.tMalformed) rfl)))) (dsNil))) (dsOne (dRet (ps_ret (dV (pv 1))))))
theorem denhexed (T : Txt K mg A) (B : Bs base mg A) 
    (Ar : Around) (outer : List Env) (s : Shared) (H : Hp) (E : XK) (hr : Room 1 (Ar.deeper (envOfC "hexed" (defScope shexed) s.heap.objs.size A.fhexed (.ref A.khexed)))) :
    PSs (cxOf (L2N.CX P w) P w K mg base Nhexed "hexed" (defScope shexed) A.fhexed (.ref A.khexed) Ar outer s H E) (defBody shexed) (cS K (fun cls d _ H => E cls d H) (whexed A)) := by
  have nd := schexed.nd
  exact dsOne (dRet (ps_ret (dJoinG (k := 0) (cs := [false, false]) T.Phexed (hr.mono (by decide)) B.bhexed rfl (show GenSc (defScope shexed) _ from ⟨rfl, rfl, by decide +kernel, by decide +kernel⟩) rfl (by show capOk Nhexed _ _ = true; decide +kernel) (dX) (diA (pi_lt (dV (pv 0)))) (fun _ _ _ _ _ hr => ⟨dgName (pg_name (i := 1) nd rfl (Or.inl rfl)), dOp op_addA sr_add (dl (dIx ix_seq sr_ix (dl (dGs rfl T.k_HEX_SIGNS)) (dl (dOp op_shr sr_shr (dN (pv 1)) (dl (dI)))) (fun _ _ => rfl))) (dl (dIx ix_seq sr_ix (dl (dGs rfl T.k_HEX_SIGNS)) (dl (dOp op_and sr_band (dN (pv 1)) (dl (dI)))) (fun _ _ => rfl)))⟩))))
theorem denis_hex (T : Txt K mg A) (B : Bs base mg A) 
    (Ar : Around) (outer : List Env) (s : Shared) (H : Hp) (E : XK) (hr : Room 1 (Ar.deeper (envOfC "is_hex" (defScope sis_hex) s.heap.objs.size A.fis_hex (.ref A.kis_hex)))) :
    PSs (cxOf (L2N.CX P w) P w K mg base Nis_hex "is_hex" (defScope sis_hex) A.fis_hex (.ref A.kis_hex) Ar outer s H E) (defBody sis_hex) (cS K (fun cls d _ H => E cls d H) (wis_hex A)) := by
  have nd := scis_hex.nd
  exact dsOne (dRet (ps_ret (dAllG (k := 0) (cs := [false, false]) T.Pis_hex (hr.mono (by decide)) rfl T.b_all B.bis_hex rfl (show GenSc (defScope sis_hex) _ from ⟨rfl, rfl, by decide +kernel, by decide +kernel⟩) rfl (by show capOk Nis_hex _ _ = true; decide +kernel) (diU (pi_lts (dV (pv 0)))) (fun _ _ _ _ _ hr => ⟨dgName (pg_name (i := 1) nd rfl (Or.inl rfl)), dCmp op_in_str sr_inS (dN (pv 1)) (dl (dGs rfl T.k_HEX_SIGNS)) (by with_unfolding_all rfl)⟩))))
theorem den_law_octets (T : Txt K mg A) (B : Bs base mg A) (F_law_take : FnOk P w K mg base (L2N.CX P w) 1 A.f_law_take A.d_law_take P_law_take (toSp K 2 (S_law_take A)))
    (cdv : Value) (Ar : Around) (outer : List Env) (s : Shared) (H : Hp) (E : XK) (hr : Room 1 (Ar.deeper (envOfC "_law_octets" (defScope s_law_octets) s.heap.objs.size A.f_law_octets cdv))) :
    PSs (cxOf (L2N.CX P w) P w K mg base N_law_octets "_law_octets" (defScope s_law_octets) A.f_law_octets cdv Ar outer s H E) (defBody s_law_octets) (cS K (fun cls d _ H => E cls d H) (w_law_octets A)) := by
  have nd := sc_law_octets.nd
  have tk : L2N.Takes (cxOf (L2N.CX P w) P w K mg base N_law_octets "_law_octets" (defScope s_law_octets) A.f_law_octets cdv Ar outer s H E) (fun cls d _ H => E cls d H) := L2N.takes_of rfl rfl rfl rfl
  exact dsOne (dRet (ps_ret (dB1 (fun _ ha => pe_callTy call_tuple_of rfl T.b_tuple (by decide +kernel) (pa_cons ha pa_nil)) su_tupOf (dl (dFE (dLcF (pe_lc (own := [("unused", 2)]) rfl nd (diR1 (pi_range1 rfl T.b_range (daCons (dCall F_law_take (hr.mono (by decide)) rfl T.f_law_take T.p_law_take T.a_law_take tk (dmIo (pv 0) (dmV (dOp op_addA sr_add (dN (pv 1)) (dl (dI))) (dmNil)))) (daNil)))) (blkOk_by (N := N_law_octets) (sc := defScope s_law_octets) (own := [("unused", 2)]) (by decide +kernel)) (fun _ _ _ _ _ => dgvName (pg_name (i := 2) nd rfl (by first | exact Or.inl rfl | exact Or.inr rfl)) (by decide)) (fun _ _ _ _ _ => dYes) (fun _ _ _ _ _ => dCall0 F_law_take (hr.mono (by decide)) rfl T.f_law_take T.p_law_take T.a_law_take (dmIo (pv 0) (dmV (dI) (dmNil)))))))))))
theorem den_law_unpack (T : Txt K mg A) (B : Bs base mg A) (F_law_number : FnOk P w K mg base (L2N.CX P w) 1 A.f_law_number A.d_law_number P_law_number (toSp K 1 (S_law_number A)))
    (cdv : Value) (Ar : Around) (outer : List Env) (s : Shared) (H : Hp) (E : XK) (hr : Room 1 (Ar.deeper (envOfC "_law_unpack" (defScope s_law_unpack) s.heap.objs.size A.f_law_unpack cdv))) :
    PSs (cxOf (L2N.CX P w) P w K mg base N_law_unpack "_law_unpack" (defScope s_law_unpack) A.f_law_unpack cdv Ar outer s H E) (defBody s_law_unpack) (cS K (fun cls d _ H => E cls d H) (w_law_unpack A)) := by
  have nd := sc_law_unpack.nd
  have tk : L2N.Takes (cxOf (L2N.CX P w) P w K mg base N_law_unpack "_law_unpack" (defScope s_law_unpack) A.f_law_unpack cdv Ar outer s H E) (fun cls d _ H => E cls d H) := L2N.takes_of rfl rfl rfl rfl
  have po : PassesOwn (model P w) (Ar.deeper (envOfC "_law_unpack" (defScope s_law_unpack) s.heap.objs.size A.f_law_unpack cdv)) (envOfC "_law_unpack" (defScope s_law_unpack) s.heap.objs.size A.f_law_unpack cdv) (cxOf (L2N.CX P w) P w K mg base N_law_unpack "_law_unpack" (defScope s_law_unpack) A.f_law_unpack cdv Ar outer s H E).xe := passes_of (X := cxOf (L2N.CX P w) P w K mg base N_law_unpack "_law_unpack" (defScope s_law_unpack) A.f_law_unpack cdv Ar outer s H E) rfl
  exact dsCons (dSetO (ps_set (i := 1) nd rfl (by first | exact Or.inl rfl | exact Or.inr rfl) (dLst (daNil)))) (dsCons (dSet (ps_set (i := 2) nd rfl (by first | exact Or.inl rfl | exact Or.inr rfl) (dV (pv 0)))) (dsCons (dFor (ps_for po rfl (diR1 (pi_range1 rfl T.b_range (daCons (dOp op_addA sr_add (dl (dB1 (fun _ ha => pe_callB call_len rfl T.b_len (by decide +kernel) (pa_cons ha pa_nil)) su_len (dN (pv 0)))) (dl (dI))) (daNil)))) (dgName (pg_name (i := 3) nd rfl (by first | exact Or.inl rfl | exact Or.inr rfl))) (dsCons (dIfS (ps_if (dTc (op_eqA hr.units) sr_eq (dN (pv 2)) (dl (dTup (daNil))) (nomark _)) (dsOne (dRet (ps_ret (dV (pv 1))))) (dsNil))) (dsCons (dSet (ps_set (i := 4) nd rfl (by first | exact Or.inl rfl | exact Or.inr rfl) (dCall F_law_number (hr.mono (by decide)) rfl T.f_law_number T.p_law_number T.a_law_number tk (dmV (dSlV (dN (pv 2)) (dpNo) (dpAt (dI))) (dmNil))))) (dsCons (dIfS (ps_if (PW.pt (dOr (dTc op_lt sr_lt (dl (dB1 (fun _ ha => pe_callB call_len rfl T.b_len (by decide +kernel) (pa_cons ha pa_nil)) su_len (dN (pv 2)))) (dl (dI)) (nomark _)) (pw_or1 (dTc op_lt sr_lt (dl (dOp op_sub sr_sub (dl (dB1 (fun _ ha => pe_callB call_len rfl T.b_len (by decide +kernel) (pa_cons ha pa_nil)) su_len (dN (pv 2)))) (dl (dI)))) (dN (pv 4)) (nomark _))))) (dsOne (dRet (ps_ret (dX)))) (dsNil))) (dsCons (dApp (ps_expr (pe_bm PySem.F.plainAttrs_list PySem.F.slot_list_append PySem.F.type_list_append mt_append (pv 1) (pa_cons (dSlV (dN (pv 2)) (dpAt (dI)) (dpAt (dOp op_addA sr_add (dl (dI)) (dN (pv 4))))) pa_nil)))) (dsOne (dSet (ps_set (i := 2) nd rfl (by first | exact Or.inl rfl | exact Or.inr rfl) (dSlV (dN (pv 2)) (dpAt (dOp op_addA sr_add (dl (dI)) (dN (pv 4)))) (dpNo))))))))))) (dsOne (dRet (ps_ret (dX))))))
theorem den_law_bent (T : Txt K mg A) (B : Bs base mg A) (F_law_take : FnOk P w K mg base (L2N.CX P w) 1 A.f_law_take A.d_law_take P_law_take (toSp K 2 (S_law_take A)))
    (cdv : Value) (Ar : Around) (outer : List Env) (s : Shared) (H : Hp) (E : XK) (hr : Room 1 (Ar.deeper (envOfC "_law_bent" (defScope s_law_bent) s.heap.objs.size A.f_law_bent cdv))) :
    PSs (cxOf (L2N.CX P w) P w K mg base N_law_bent "_law_bent" (defScope s_law_bent) A.f_law_bent cdv Ar outer s H E) (defBody s_law_bent) (cS K (fun cls d _ H => E cls d H) (w_law_bent A)) := by
  have nd := sc_law_bent.nd
  have tk : L2N.Takes (cxOf (L2N.CX P w) P w K mg base N_law_bent "_law_bent" (defScope s_law_bent) A.f_law_bent cdv Ar outer s H E) (fun cls d _ H => E cls d H) := L2N.takes_of rfl rfl rfl rfl
  exact dsCons (dSet (ps_set (i := 2) nd rfl (by first | exact Or.inl rfl | exact Or.inr rfl) (dCall F_law_take (hr.mono (by decide)) rfl T.f_law_take T.p_law_take T.a_law_take tk (dmIo (pv 0) (dmV (dOp op_addA sr_add (dl (dB1 (fun _ ha => pe_callB call_len rfl T.b_len (by decide +kernel) (pa_cons ha pa_nil)) su_len (dN (pv 1)))) (dl (dI))) (dmNil)))))) (dsCons (dSet (ps_set (i := 3) nd rfl (by first | exact Or.inl rfl | exact Or.inr rfl) (dIx ix_seq sr_ix (dl (dX)) (dl (dCall F_law_take (hr.mono (by decide)) rfl T.f_law_take T.p_law_take T.a_law_take tk (dmIo (pv 0) (dmV (dI) (dmNil))))) (fun _ _ => rfl)))) (dsOne (dRet (ps_ret (dIx ix_seq sr_ix (dl (dFE (dLst (daCons (dOp op_addA sr_add (dl (dOp op_addA sr_add (dl (dSlV (dN (pv 1)) (dpNo) (dpAt (dV (pv 2))))) (dN (pv 3)))) (dl (dSlV (dN (pv 1)) (dpAt (dV (pv 2))) (dpNo)))) (daCons (dOp op_addA sr_add (dl (dSlV (dN (pv 1)) (dpNo) (dpAt (dV (pv 2))))) (dl (dSlV (dN (pv 1)) (dpAt (dOp op_addA sr_add (dN (pv 2)) (dl (dI)))) (dpNo)))) (daCons (dOp op_addA sr_add (dl (dOp op_addA sr_add (dl (dSlV (dN (pv 1)) (dpNo) (dpAt (dV (pv 2))))) (dN (pv 3)))) (dl (dSlV (dN (pv 1)) (dpAt (dOp op_addA sr_add (dN (pv 2)) (dl (dI)))) (dpNo)))) (daCons (dV (pv 1)) (daNil)))))))) (dl (dCall F_law_take (hr.mono (by decide)) rfl T.f_law_take T.p_law_take T.a_law_take tk (dmIo (pv 0) (dmV (dI) (dmNil))))) (fun _ _ => rfl))))))
theorem denis_octets (T : Txt K mg A) (B : Bs base mg A) (Fis_number : FnOk P w K mg base (L2N.CX P w) 1 A.fis_number A.dis_number Pis_number (toSp K 3 (Sis_number A)))
    (Ar : Around) (outer : List Env) (s : Shared) (H : Hp) (E : XK) (hr : Room 2 (Ar.deeper (envOfC "is_octets" (defScope sis_octets) s.heap.objs.size A.fis_octets (.ref A.kis_octets)))) :
    PSs (cxOf (L2N.CX P w) P w K mg base Nis_octets "is_octets" (defScope sis_octets) A.fis_octets (.ref A.kis_octets) Ar outer s H E) (defBody sis_octets) (cS K (fun cls d _ H => E cls d H) (wis_octets A)) := by
  have nd := scis_octets.nd
  exact dsCons (dIfS (ps_if (PW.pt (dOr (dNot (dTv (dIsi (fun _ _ ha hb => pe_callB call_isi rfl T.b_isinstance (by decide +kernel) (pa_cons ha (pa_cons hb pa_nil))) (dN (pv 0)) (pe_bltn (v := .ty "tuple") rfl T.b_tuple (by decide +kernel) rfl) kit_tuple))) (pw_or1 (dTc op_gt sr_gt (dl (dB1 (fun _ ha => pe_callB call_len rfl T.b_len (by decide +kernel) (pa_cons ha pa_nil)) su_len (dN (pv 0)))) (dl (dB2 (fun _ _ ha hb => pe_callB (call_min2 rfl) rfl T.b_min (by decide +kernel) (pa_cons ha (pa_cons hb pa_nil))) sr_min2 (dN (pv 1)) (dl (dGi rfl T.k_MOST)))) (nomark _))))) (dsOne (dRet (ps_ret (dB)))) (dsNil))) (dsOne (dRet (ps_ret (dAllG (k := 1) (cs := [false, false, false]) T.Pis_octets (hr.mono (by decide)) rfl T.b_all B.bis_octets rfl (show GenSc (defScope sis_octets) _ from ⟨rfl, rfl, by decide +kernel, by decide +kernel⟩) rfl (by show capOk Nis_octets _ _ = true; decide +kernel) (diA (pi_lt (dV (pv 0)))) (fun _ _ _ _ _ hr => ⟨dgName (pg_name (i := 2) nd rfl (Or.inl rfl)), dCall0 Fis_number (hr.mono (by decide)) rfl T.fis_number T.pis_number T.ais_number (dmV (dV (pv 2)) (dmV (dI) (dmV (dI) (dmNil))))⟩)))))
theorem denunhexed (T : Txt K mg A) (B : Bs base mg A) (Fis_hex : FnOk P w K mg base (L2N.CX P w) 2 A.fis_hex A.dis_hex Pis_hex (toSp K 1 (Sis_hex A)))
    (cdv : Value) (Ar : Around) (outer : List Env) (s : Shared) (H : Hp) (E : XK) (hr : Room 2 (Ar.deeper (envOfC "unhexed" (defScope sunhexed) s.heap.objs.size A.funhexed cdv))) :
    PSs (cxOf (L2N.CX P w) P w K mg base Nunhexed "unhexed" (defScope sunhexed) A.funhexed cdv Ar outer s H E) (defBody sunhexed) (cS K (fun cls d _ H => E cls d H) (wunhexed A)) := by
  have nd := scunhexed.nd
  have tk : L2N.Takes (cxOf (L2N.CX P w) P w K mg base Nunhexed "unhexed" (defScope sunhexed) A.funhexed cdv Ar outer s H E) (fun cls d _ H => E cls d H) := L2N.takes_of rfl rfl rfl rfl
  exact dsCons (dIfS (ps_if (PW.pt (dOr (dTc (op_eqA hr.units) sr_eq (dl (dOp op_modN sr_mod (dl (dB1 (fun _ ha => pe_callB call_len rfl T.b_len (by decide +kernel) (pa_cons ha pa_nil)) su_len (dN (pv 0)))) (dl (dI)))) (dl (dI)) (nomark _)) (dOr (dTc op_gt sr_gt (dl (dB1 (fun _ ha => pe_callB call_len rfl T.b_len (by decide +kernel) (pa_cons ha pa_nil)) su_len (dN (pv 0)))) (dl (dOp op_mulX sr_mul (dl (dI)) (dl (dGi rfl T.k_MOST)))) (nomark _)) (pw_or1 (dNot (dTv (dCall Fis_hex (hr.mono (by decide)) rfl T.fis_hex T.pis_hex T.ais_hex tk (dmV (dV (pv 0)) (dmNil))))))))) (dsOne (dRaise (L2N.ps_raise rfl tk (L2N.pmk_own PySem.F.excBase_ValueError T.xMalformed T.cMalformed T.qMalformed (raises_own T.uMalformed T.tMalformed) rfl)))) (dsNil))) (dsCons (dSet (ps_set (i := 1) nd rfl (by first | exact Or.inl rfl | exact Or.inr rfl) (dFE (dLcF (pe_lc (own := [("sign", 2)]) rfl nd (diU (pi_lts (dV (pv 0)))) (blkOk_by (N := Nunhexed) (sc := defScope sunhexed) (own := [("sign", 2)]) (by decide +kernel)) (fun _ _ _ _ _ => dgvName (pg_name (i := 2) nd rfl (by first | exact Or.inl rfl | exact Or.inr rfl)) (by decide)) (fun _ _ _ _ _ => dYes) (fun _ _ _ _ _ => dM1 (fun _ _ ho ha => pe_m1 PySem.F.slot_str_find PySem.F.type_str_find mt_find ho ha) sr_find (dl (dGs rfl T.k_HEX_SIGNS)) (dN (pv 2)))))))) (dsOne (dRet (ps_ret (dB1 (fun _ ha => pe_callTy call_tuple_of rfl T.b_tuple (by decide +kernel) (pa_cons ha pa_nil)) su_tupOf (dl (dFE (dLcF (pe_lc (own := [("at", 3)]) rfl nd (diR3 (pi_range3 rfl T.b_range (daCons (dI) (daCons (dB1 (fun _ ha => pe_callB call_len rfl T.b_len (by decide +kernel) (pa_cons ha pa_nil)) su_len (dN (pv 1))) (daCons (dI) (daNil)))))) (blkOk_by (N := Nunhexed) (sc := defScope sunhexed) (own := [("at", 3)]) (by decide +kernel)) (fun _ _ _ _ _ => dgvName (pg_name (i := 3) nd rfl (by first | exact Or.inl rfl | exact Or.inr rfl)) (by decide)) (fun _ _ _ _ _ => dYes) (fun _ _ _ _ _ => dOp op_or sr_bor (dl (dOp op_shlW sr_shl (dl (dIx ix_seq sr_ix (dN (pv 1)) (dN (pv 3)) (fun _ _ => rfl))) (dl (dI)))) (dl (dIx ix_seq sr_ix (dN (pv 1)) (dl (dOp op_addA sr_add (dN (pv 3)) (dl (dI)))) (fun _ _ => rfl)))))))))))))
theorem denpacked (T : Txt K mg A) (B : Bs base mg A) (Fof_number : FnOk P w K mg base (L2N.CX P w) 2 A.fof_number A.dof_number Pof_number (toSp K 2 (Sof_number A)))
    (cdv : Value) (Ar : Around) (outer : List Env) (s : Shared) (H : Hp) (E : XK) (hr : Room 2 (Ar.deeper (envOfC "packed" (defScope spacked) s.heap.objs.size A.fpacked cdv))) :
    PSs (cxOf (L2N.CX P w) P w K mg base Npacked "packed" (defScope spacked) A.fpacked cdv Ar outer s H E) (defBody spacked) (cS K (fun cls d _ H => E cls d H) (wpacked A)) := by
  have nd := scpacked.nd
  have tk : L2N.Takes (cxOf (L2N.CX P w) P w K mg base Npacked "packed" (defScope spacked) A.fpacked cdv Ar outer s H E) (fun cls d _ H => E cls d H) := L2N.takes_of rfl rfl rfl rfl
  have po : PassesOwn (model P w) (Ar.deeper (envOfC "packed" (defScope spacked) s.heap.objs.size A.fpacked cdv)) (envOfC "packed" (defScope spacked) s.heap.objs.size A.fpacked cdv) (cxOf (L2N.CX P w) P w K mg base Npacked "packed" (defScope spacked) A.fpacked cdv Ar outer s H E).xe := passes_of (X := cxOf (L2N.CX P w) P w K mg base Npacked "packed" (defScope spacked) A.fpacked cdv Ar outer s H E) rfl
  exact dsCons (dSetO (ps_set (i := 1) nd rfl (by first | exact Or.inl rfl | exact Or.inr rfl) (dLst (daNil)))) (dsCons (dFor (ps_for po rfl (diA (pi_lt (dV (pv 0)))) (dgName (pg_name (i := 2) nd rfl (by first | exact Or.inl rfl | exact Or.inr rfl))) (dsCons (dExtV (ps_expr (pe_bm PySem.F.plainAttrs_list PySem.F.slot_list_extend PySem.F.type_list_extend mt_extT (pv 1) (pa_cons (dCall Fof_number (hr.mono (by decide)) rfl T.fof_number T.pof_number T.aof_number tk (dmV (dB1 (fun _ ha => pe_callB call_len rfl T.b_len (by decide +kernel) (pa_cons ha pa_nil)) su_len (dN (pv 2))) (dmV (dGi rfl T.k_LENGTH_SIZE) (dmNil)))) pa_nil)))) (dsOne (dExtV (ps_expr (pe_bm PySem.F.plainAttrs_list PySem.F.slot_list_extend PySem.F.type_list_extend mt_extT (pv 1) (pa_cons (dV (pv 2)) pa_nil)))))))) (dsOne (dRet (ps_ret (dB1 (fun _ ha => pe_callTy call_tuple_of rfl T.b_tuple (by decide +kernel) (pa_cons ha pa_nil)) su_tupOf (dN (pv 1)))))))
theorem denunpacked (T : Txt K mg A) (B : Bs base mg A) (Fnumber_of : FnOk P w K mg base (L2N.CX P w) 2 A.fnumber_of A.dnumber_of Pnumber_of (toSp K 1 (Snumber_of 1 A)))
    (cdv : Value) (Ar : Around) (outer : List Env) (s : Shared) (H : Hp) (E : XK) (hr : Room 2 (Ar.deeper (envOfC "unpacked" (defScope sunpacked) s.heap.objs.size A.funpacked cdv))) :
    PSs (cxOf (L2N.CX P w) P w K mg base Nunpacked "unpacked" (defScope sunpacked) A.funpacked cdv Ar outer s H E) (defBody sunpacked) (cS K (fun cls d _ H => E cls d H) (wunpacked A)) := by
  have nd := scunpacked.nd
  have tk : L2N.Takes (cxOf (L2N.CX P w) P w K mg base Nunpacked "unpacked" (defScope sunpacked) A.funpacked cdv Ar outer s H E) (fun cls d _ H => E cls d H) := L2N.takes_of rfl rfl rfl rfl
  have po : PassesOwn (model P w) (Ar.deeper (envOfC "unpacked" (defScope sunpacked) s.heap.objs.size A.funpacked cdv)) (envOfC "unpacked" (defScope sunpacked) s.heap.objs.size A.funpacked cdv) (cxOf (L2N.CX P w) P w K mg base Nunpacked "unpacked" (defScope sunpacked) A.funpacked cdv Ar outer s H E).xe := passes_of (X := cxOf (L2N.CX P w) P w K mg base Nunpacked "unpacked" (defScope sunpacked) A.funpacked cdv Ar outer s H E) rfl
  exact dsCons (dSetO (ps_set (i := 1) nd rfl (by first | exact Or.inl rfl | exact Or.inr rfl) (dLst (daNil)))) (dsCons (dSet (ps_set (i := 2) nd rfl (by first | exact Or.inl rfl | exact Or.inr rfl) (dI))) (dsCons (dWhile (ps_while po (dTc op_lt sr_lt (dN (pv 2)) (dl (dB1 (fun _ ha => pe_callB call_len rfl T.b_len (by decide +kernel) (pa_cons ha pa_nil)) su_len (dN (pv 0)))) (nomark _)) (dsCons (dSet (ps_set (i := 3) nd rfl (by first | exact Or.inl rfl | exact Or.inr rfl) (dOp op_addA sr_add (dN (pv 2)) (dl (dGi rfl T.k_LENGTH_SIZE))))) (dsCons (dSet (ps_set (i := 2) nd rfl (by first | exact Or.inl rfl | exact Or.inr rfl) (dOp op_addA sr_add (dN (pv 3)) (dl (dCall Fnumber_of (hr.mono (by decide)) rfl T.fnumber_of T.pnumber_of T.anumber_of tk (dmV (dSlV (dN (pv 0)) (dpAt (dV (pv 2))) (dpAt (dV (pv 3)))) (dmNil))))))) (dsCons (dIfS (ps_if (dTc op_gt sr_gt (dN (pv 2)) (dl (dB1 (fun _ ha => pe_callB call_len rfl T.b_len (by decide +kernel) (pa_cons ha pa_nil)) su_len (dN (pv 0)))) (nomark _)) (dsOne (dRaise (L2N.ps_raise rfl tk (L2N.pmk_own PySem.F.excBase_ValueError T.xMalformed T.cMalformed T.qMalformed (raises_own T.uMalformed T.tMalformed) rfl)))) (dsNil))) (dsOne (dApp (ps_expr (pe_bm PySem.F.plainAttrs_list PySem.F.slot_list_append PySem.F.type_list_append mt_append (pv 1) (pa_cons (dSlV (dN (pv 0)) (dpAt (dV (pv 3))) (dpAt (dV (pv 2)))) pa_nil)))))))))) (dsOne (dRet (ps_ret (dV (pv 1)))))))
theorem den_law_try (T : Txt K mg A) (B : Bs base mg A) (F_law_told : ∀ c t, nm A c = some t → FnT P w K mg base 1 A.f_law_told A.d_law_told P_law_told c t) (Fof_number : FnOk P w K mg base (L2N.CX P w) 2 A.fof_number A.dof_number Pof_number (toSp K 2 (Sof_number A))) (Fof_text : FnOk P w K mg base (L2N.CX P w) 2 A.fof_text A.dof_text Pof_text (toSp K 1 (Sof_text A))) (Funhexed : FnOk P w K mg base (L2N.CX P w) 3 A.funhexed A.dunhexed Punhexed (toSp K 1 (Sunhexed A))) (Funpacked : FnOk P w K mg base (L2N.CX P w) 3 A.funpacked A.dunpacked Punpacked (toSp K 1 (Sunpacked A)))
    (cdv : Value) (Ar : Around) (outer : List Env) (s : Shared) (H : Hp) (E : XK) (hr : Room 3 (Ar.deeper (envOfC "_law_try" (defScope s_law_try) s.heap.objs.size A.f_law_try cdv))) :
    PSs (cxOf (L2N.CX P w) P w K mg base N_law_try "_law_try" (defScope s_law_try) A.f_law_try cdv Ar outer s H E) (defBody s_law_try) (cS K (fun cls d _ H => E cls d H) (w_law_try A)) := by
  have nd := sc_law_try.nd
  have tk : L2N.Takes (cxOf (L2N.CX P w) P w K mg base N_law_try "_law_try" (defScope s_law_try) A.f_law_try cdv Ar outer s H E) (fun cls d _ H => E cls d H) := L2N.takes_of rfl rfl rfl rfl
  exact dsOne (dTryAs (cv := .ref A.cLotError) (hcat T) (i := 3) rfl rfl nd rfl rfl ⟨rfl, by decide, .inl T.cLotError⟩ tk (fun W2 pn xe tk2 po2 => dsCons (dIfS (ps_if (dTc (op_eqA hr.units) sr_eq (dN (pv 0)) (dl (dI)) (nomark _)) (dsOne (dRet (ps_ret (dCall Fof_number (hr.mono (by decide)) rfl T.fof_number T.pof_number T.aof_number tk2 (dmV (dV (pv 1)) (dmV (dV (pv 2)) (dmNil))))))) (dsNil))) (dsCons (dIfS (ps_if (dTc (op_eqA hr.units) sr_eq (dN (pv 0)) (dl (dI)) (nomark _)) (dsOne (dRet (ps_ret (dCall Fof_text (hr.mono (by decide)) rfl T.fof_text T.pof_text T.aof_text tk2 (dmV (dV (pv 1)) (dmNil)))))) (dsNil))) (dsOne (dRet (ps_ret (dIf (dTc (op_eqA hr.units) sr_eq (dN (pv 0)) (dl (dI)) (nomark _)) (dCall Funhexed (hr.mono (by decide)) rfl T.funhexed T.punhexed T.aunhexed tk2 (dmV (dV (pv 1)) (dmNil))) (dCall Funpacked (hr.mono (by decide)) rfl T.funpacked T.punpacked T.aunpacked tk2 (dmV (dV (pv 1)) (dmNil))))))))) (fun a oe cls d pn hz hf => suite_by hz fun c t ht hz => dsOne (dRet (ps_ret (dTold (F_law_told c t ht) (markH hr (by decide)) List.mem_cons_self rfl hz hf rfl T.f_law_told T.p_law_told T.a_law_told (pv 3))))))
theorem den_law_same (T : Txt K mg A) (B : Bs base mg A) (d : Nat) (F_law_same : FnOk P w K mg base (L2N.CX P w) (1 + d) A.f_law_same A.d_law_same P_law_same (toSp K 2 (S_law_same d A)))
    (cdv : Value) (Ar : Around) (outer : List Env) (s : Shared) (H : Hp) (E : XK) (hr : Room (1 + d) (Ar.deeper (envOfC "_law_same" (defScope s_law_same) s.heap.objs.size A.f_law_same cdv))) :
    PSs (cxOf (L2N.CX P w) P w K mg base N_law_same "_law_same" (defScope s_law_same) A.f_law_same cdv Ar outer s H E) (defBody s_law_same) (cS K (fun cls d _ H => E cls d H) (w_law_same d A)) := by
  have nd := sc_law_same.nd
  have tk : L2N.Takes (cxOf (L2N.CX P w) P w K mg base N_law_same "_law_same" (defScope s_law_same) A.f_law_same cdv Ar outer s H E) (fun cls d _ H => E cls d H) := L2N.takes_of rfl rfl rfl rfl
  have po : PassesOwn (model P w) (Ar.deeper (envOfC "_law_same" (defScope s_law_same) s.heap.objs.size A.f_law_same cdv)) (envOfC "_law_same" (defScope s_law_same) s.heap.objs.size A.f_law_same cdv) (cxOf (L2N.CX P w) P w K mg base N_law_same "_law_same" (defScope s_law_same) A.f_law_same cdv Ar outer s H E).xe := passes_of (X := cxOf (L2N.CX P w) P w K mg base N_law_same "_law_same" (defScope s_law_same) A.f_law_same cdv Ar outer s H E) rfl
  exact dsCons (dIfS (ps_if (PW.pt (dOr (dTc op_isN sr_isN (dN (pv 1)) (dl (dZ)) (nomark _)) (pw_or1 (dTc op_isN sr_isN (dN (pv 0)) (dl (dZ)) (nomark _))))) (dsOne (dRet (ps_ret (dAndV (dCmp op_isN sr_isN (dN (pv 1)) (dl (dZ)) (nomark _)) (pe_one (dCmp op_isN sr_isN (dN (pv 0)) (dl (dZ)) (nomark _))))))) (dsNil))) (dsCons (dIfS (ps_if (PW.pt (dOr (dTv (dIsi (fun _ _ ha hb => pe_callB call_isi rfl T.b_isinstance (by decide +kernel) (pa_cons ha (pa_cons hb pa_nil))) (dN (pv 1)) (pe_bltn (v := .ty "tuple") rfl T.b_tuple (by decide +kernel) rfl) kit_tuple)) (pw_or1 (dTv (dIsi (fun _ _ ha hb => pe_callB call_isi rfl T.b_isinstance (by decide +kernel) (pa_cons ha (pa_cons hb pa_nil))) (dN (pv 1)) (pe_bltn (v := .ty "list") rfl T.b_list (by decide +kernel) rfl) kit_list))))) (dsCons (dIfS (ps_if (PW.pt (dOr (dTc (op_neA hr.units) sr_ne (dl (dIsi (fun _ _ ha hb => pe_callB call_isi rfl T.b_isinstance (by decide +kernel) (pa_cons ha (pa_cons hb pa_nil))) (dN (pv 1)) (pe_bltn (v := .ty "tuple") rfl T.b_tuple (by decide +kernel) rfl) kit_tuple)) (dl (dIsi (fun _ _ ha hb => pe_callB call_isi rfl T.b_isinstance (by decide +kernel) (pa_cons ha (pa_cons hb pa_nil))) (dN (pv 0)) (pe_bltn (v := .ty "tuple") rfl T.b_tuple (by decide +kernel) rfl) kit_tuple)) (nomark _)) (pw_or1 (dTc (op_neA hr.units) sr_ne (dl (dIsi (fun _ _ ha hb => pe_callB call_isi rfl T.b_isinstance (by decide +kernel) (pa_cons ha (pa_cons hb pa_nil))) (dN (pv 1)) (pe_bltn (v := .ty "list") rfl T.b_list (by decide +kernel) rfl) kit_list)) (dl (dIsi (fun _ _ ha hb => pe_callB call_isi rfl T.b_isinstance (by decide +kernel) (pa_cons ha (pa_cons hb pa_nil))) (dN (pv 0)) (pe_bltn (v := .ty "list") rfl T.b_list (by decide +kernel) rfl) kit_list)) (nomark _))))) (dsOne (dRet (ps_ret (dB)))) (dsNil))) (dsCons (dIfS (ps_if (dTc (op_neA hr.units) sr_ne (dl (dB1 (fun _ ha => pe_callB call_len rfl T.b_len (by decide +kernel) (pa_cons ha pa_nil)) su_len (dN (pv 0)))) (dl (dB1 (fun _ ha => pe_callB call_len rfl T.b_len (by decide +kernel) (pa_cons ha pa_nil)) su_len (dN (pv 1)))) (nomark _)) (dsOne (dRet (ps_ret (dB)))) (dsNil))) (dsCons (dFor (ps_for po rfl (diR1 (pi_range1 rfl T.b_range (daCons (dB1 (fun _ ha => pe_callB call_len rfl T.b_len (by decide +kernel) (pa_cons ha pa_nil)) su_len (dN (pv 1))) (daNil)))) (dgName (pg_name (i := 2) nd rfl (by first | exact Or.inl rfl | exact Or.inr rfl))) (dsOne (dIfS (ps_if (dNot (dTv (dCall F_law_same (hr.mono (by omega)) rfl T.f_law_same T.p_law_same T.a_law_same tk (dmV (dIx ix_seq sr_ix (dN (pv 0)) (dN (pv 2)) (fun _ _ => rfl)) (dmV (dIx ix_seq sr_ix (dN (pv 1)) (dN (pv 2)) (fun _ _ => rfl)) (dmNil)))))) (dsOne (dRet (ps_ret (dB)))) (dsNil)))))) (dsOne (dRet (ps_ret (dB))))))) (dsNil))) (dsCons (dIfS (ps_if (dTc (op_neA hr.units) sr_ne (dl (dIsi (fun _ _ ha hb => pe_callB call_isi rfl T.b_isinstance (by decide +kernel) (pa_cons ha (pa_cons hb pa_nil))) (dN (pv 1)) (pe_bltn (v := .ty "bool") rfl T.b_bool (by decide +kernel) rfl) kit_bool)) (dl (dIsi (fun _ _ ha hb => pe_callB call_isi rfl T.b_isinstance (by decide +kernel) (pa_cons ha (pa_cons hb pa_nil))) (dN (pv 0)) (pe_bltn (v := .ty "bool") rfl T.b_bool (by decide +kernel) rfl) kit_bool)) (nomark _)) (dsOne (dRet (ps_ret (dB)))) (dsNil))) (dsCons (dIfS (ps_if (PW.pt (dOr (dTc (op_neA hr.units) sr_ne (dl (dIsi (fun _ _ ha hb => pe_callB call_isi rfl T.b_isinstance (by decide +kernel) (pa_cons ha (pa_cons hb pa_nil))) (dN (pv 1)) (pe_bltn (v := .ty "int") rfl T.b_int (by decide +kernel) rfl) kit_int)) (dl (dIsi (fun _ _ ha hb => pe_callB call_isi rfl T.b_isinstance (by decide +kernel) (pa_cons ha (pa_cons hb pa_nil))) (dN (pv 0)) (pe_bltn (v := .ty "int") rfl T.b_int (by decide +kernel) rfl) kit_int)) (nomark _)) (pw_or1 (dTc (op_neA hr.units) sr_ne (dl (dIsi (fun _ _ ha hb => pe_callB call_isi rfl T.b_isinstance (by decide +kernel) (pa_cons ha (pa_cons hb pa_nil))) (dN (pv 1)) (pe_bltn (v := .ty "str") rfl T.b_str (by decide +kernel) rfl) kit_str)) (dl (dIsi (fun _ _ ha hb => pe_callB call_isi rfl T.b_isinstance (by decide +kernel) (pa_cons ha (pa_cons hb pa_nil))) (dN (pv 0)) (pe_bltn (v := .ty "str") rfl T.b_str (by decide +kernel) rfl) kit_str)) (nomark _))))) (dsOne (dRet (ps_ret (dB)))) (dsNil))) (dsOne (dRet (ps_ret (dCmp (op_eqA hr.units) sr_eq (dN (pv 0)) (dN (pv 1)) (nomark _))))))))
theorem den_law_are_judged (T : Txt K mg A) (B : Bs base mg A) (F_law_take : FnOk P w K mg base (L2N.CX P w) 1 A.f_law_take A.d_law_take P_law_take (toSp K 2 (S_law_take A))) (Fis_octets : FnOk P w K mg base (L2N.CX P w) 3 A.fis_octets A.dis_octets Pis_octets (toSp K 2 (Sis_octets A))) (F_law_same : FnOk P w K mg base (L2N.CX P w) 9 A.f_law_same A.d_law_same P_law_same (toSp K 2 (S_law_same 8 A)))
    (cdv : Value) (Ar : Around) (outer : List Env) (s : Shared) (H : Hp) (E : XK) (hr : Room 9 (Ar.deeper (envOfC "_law_are_judged" (defScope s_law_are_judged) s.heap.objs.size A.f_law_are_judged cdv))) :
    PSs (cxOf (L2N.CX P w) P w K mg base N_law_are_judged "_law_are_judged" (defScope s_law_are_judged) A.f_law_are_judged cdv Ar outer s H E) (defBody s_law_are_judged) (cS K (fun cls d _ H => E cls d H) (w_law_are_judged A)) := by
  have nd := sc_law_are_judged.nd
  have tk : L2N.Takes (cxOf (L2N.CX P w) P w K mg base N_law_are_judged "_law_are_judged" (defScope s_law_are_judged) A.f_law_are_judged cdv Ar outer s H E) (fun cls d _ H => E cls d H) := L2N.takes_of rfl rfl rfl rfl
  exact dsCons (dSet (ps_set (i := 2) nd rfl (by first | exact Or.inl rfl | exact Or.inr rfl) (dIx ix_seq sr_ix (dl (dFE (dLst (daCons (dUn un_neg su_neg (dl (dI))) (daCons (dI) (daCons (dB) (daCons (dZ) (daCons (dX) (daCons (dTup (daCons (dI) (daNil))) (daCons (dI) (daNil))))))))))) (dl (dCall F_law_take (hr.mono (by decide)) rfl T.f_law_take T.p_law_take T.a_law_take tk (dmIo (pv 0) (dmV (dI) (dmNil))))) (fun _ _ => rfl)))) (dsCons (dSet (ps_set (i := 3) nd rfl (by first | exact Or.inl rfl | exact Or.inr rfl) (dCall F_law_take (hr.mono (by decide)) rfl T.f_law_take T.p_law_take T.a_law_take tk (dmIo (pv 0) (dmV (dOp op_addA sr_add (dl (dB1 (fun _ ha => pe_callB call_len rfl T.b_len (by decide +kernel) (pa_cons ha pa_nil)) su_len (dN (pv 1)))) (dl (dI))) (dmNil)))))) (dsCons (dSet (ps_set (i := 4) nd rfl (by first | exact Or.inl rfl | exact Or.inr rfl) (dOp op_addA sr_add (dl (dOp op_addA sr_add (dl (dSlV (dN (pv 1)) (dpNo) (dpAt (dV (pv 3))))) (dl (dTup (daCons (dV (pv 2)) (daNil)))))) (dl (dSlV (dN (pv 1)) (dpAt (dV (pv 3))) (dpNo)))))) (dsCons (dSet (ps_set (i := 5) nd rfl (by first | exact Or.inl rfl | exact Or.inr rfl) (dFE (dLst (daCons (dTup (daCons (dV (pv 1)) (daCons (dB1 (fun _ ha => pe_callB call_len rfl T.b_len (by decide +kernel) (pa_cons ha pa_nil)) su_len (dN (pv 1))) (daCons (dB) (daNil))))) (daCons (dTup (daCons (dV (pv 1)) (daCons (dOp op_sub sr_sub (dl (dB1 (fun _ ha => pe_callB call_len rfl T.b_len (by decide +kernel) (pa_cons ha pa_nil)) su_len (dN (pv 1)))) (dl (dI))) (daCons (dB) (daNil))))) (daCons (dTup (daCons (dV (pv 4)) (daCons (dI) (daCons (dCall F_law_same (hr.mono (by decide)) rfl T.f_law_same T.p_law_same T.a_law_same tk (dmV (dV (pv 2)) (dmV (dI) (dmNil)))) (daNil))))) (daCons (dTup (daCons (dFE (dNewL (fun _ ha => pe_callTy call_list_of rfl T.b_list (by decide +kernel) (pa_cons ha pa_nil)) sn_listOf (dN (pv 1)))) (daCons (dI) (daCons (dB) (daNil))))) (daCons (dTup (daCons (dZ) (daCons (dI) (daCons (dB) (daNil))))) (daCons (dTup (daCons (dTup (daNil)) (daCons (dI) (daCons (dB) (daNil))))) (daCons (dTup (daCons (dX) (daCons (dI) (daCons (dB) (daNil))))) (daCons (dTup (daCons (dI) (daCons (dI) (daCons (dB) (daNil))))) (daNil))))))))))))) (dsOne (dRet (ps_ret (dCmp (op_eqA hr.units) sr_eq (dl (dFE (dLcF (pe_lc (own := [("one", 6)]) rfl nd (diA (pi_lt (dV (pv 5)))) (blkOk_by (N := N_law_are_judged) (sc := defScope s_law_are_judged) (own := [("one", 6)]) (by decide +kernel)) (fun _ _ _ _ _ => dgvName (pg_name (i := 6) nd rfl (by first | exact Or.inl rfl | exact Or.inr rfl)) (by decide)) (fun _ _ _ _ _ => pts_one (dNot (dTv (dCall0 F_law_same (hr.mono (by decide)) rfl T.f_law_same T.p_law_same T.a_law_same (dmV (dCall0 Fis_octets (hr.mono (by decide)) rfl T.fis_octets T.pis_octets T.ais_octets (dmV (dIx ix_seq sr_ix (dN (pv 6)) (dl (dI)) (fun _ _ => rfl)) (dmV (dIx ix_seq sr_ix (dN (pv 6)) (dl (dI)) (fun _ _ => rfl)) (dmNil)))) (dmV (dIx ix_seq sr_ix (dN (pv 6)) (dl (dI)) (fun _ _ => rfl)) (dmNil))))))) (fun _ _ _ _ _ => dV (pv 6)))))) (dl (dFE (dLst (daNil)))) (nomark _))))))))
theorem denlaw (T : Txt K mg A) (B : Bs base mg A) (F_law_draws : FnOk P w K mg base (L2N.CX P w) 1 A.f_law_draws A.d_law_draws P_law_draws (toSpF K 1 (S_law_draws A))) (F_law_take : FnOk P w K mg base (L2N.CX P w) 1 A.f_law_take A.d_law_take P_law_take (toSp K 2 (S_law_take A))) (F_law_power : FnOk P w K mg base (L2N.CX P w) 1 A.f_law_power A.d_law_power P_law_power (toSp K 2 (S_law_power A))) (F_law_number : FnOk P w K mg base (L2N.CX P w) 1 A.f_law_number A.d_law_number P_law_number (toSp K 1 (S_law_number A))) (F_law_hex : FnOk P w K mg base (L2N.CX P w) 1 A.f_law_hex A.d_law_hex P_law_hex (toSp K 1 (S_law_hex A))) (F_law_unhex : FnOk P w K mg base (L2N.CX P w) 1 A.f_law_unhex A.d_law_unhex P_law_unhex (toSp K 1 (S_law_unhex A))) (F_law_pack : FnOk P w K mg base (L2N.CX P w) 1 A.f_law_pack A.d_law_pack P_law_pack (toSp K 1 (S_law_pack A))) (Fnumber_of : FnOk P w K mg base (L2N.CX P w) 2 A.fnumber_of A.dnumber_of Pnumber_of (toSp K 1 (Snumber_of 1 A))) (Fhexed : FnOk P w K mg base (L2N.CX P w) 2 A.fhexed A.dhexed Phexed (toSp K 1 (Shexed A))) (F_law_octets : FnOk P w K mg base (L2N.CX P w) 2 A.f_law_octets A.d_law_octets P_law_octets (toSp K 2 (S_law_octets A))) (F_law_unpack : FnOk P w K mg base (L2N.CX P w) 2 A.f_law_unpack A.d_law_unpack P_law_unpack (toSp K 1 (S_law_unpack A))) (F_law_bent : FnOk P w K mg base (L2N.CX P w) 2 A.f_law_bent A.d_law_bent P_law_bent (toSp K 2 (S_law_bent A))) (Fpacked : FnOk P w K mg base (L2N.CX P w) 3 A.fpacked A.dpacked Ppacked (toSp K 1 (Spacked A))) (F_law_try : FnOk P w K mg base (L2N.CX P w) 4 A.f_law_try A.d_law_try P_law_try (toSp K 3 (S_law_try A))) (F_law_same : FnOk P w K mg base (L2N.CX P w) 9 A.f_law_same A.d_law_same P_law_same (toSp K 2 (S_law_same 8 A))) (F_law_are_judged : FnOk P w K mg base (L2N.CX P w) 10 A.f_law_are_judged A.d_law_are_judged P_law_are_judged (toSp K 2 (S_law_are_judged A)))
    (cdv : Value) (Ar : Around) (outer : List Env) (s : Shared) (H : Hp) (E : XK) (hr : Room 10 (Ar.deeper (envOfC "law" (defScope slaw) s.heap.objs.size A.flaw cdv))) :
    PSs (cxOf (L2N.CX P w) P w K mg base Nlaw "law" (defScope slaw) A.flaw cdv Ar outer s H E) (defBody slaw) (cS K (fun cls d _ H => E cls d H) (wlaw A)) := by
  have nd := sclaw.nd
  have tk : L2N.Takes (cxOf (L2N.CX P w) P w K mg base Nlaw "law" (defScope slaw) A.flaw cdv Ar outer s H E) (fun cls d _ H => E cls d H) := L2N.takes_of rfl rfl rfl rfl
  have po : PassesOwn (model P w) (Ar.deeper (envOfC "law" (defScope slaw) s.heap.objs.size A.flaw cdv)) (envOfC "law" (defScope slaw) s.heap.objs.size A.flaw cdv) (cxOf (L2N.CX P w) P w K mg base Nlaw "law" (defScope slaw) A.flaw cdv Ar outer s H E).xe := passes_of (X := cxOf (L2N.CX P w) P w K mg base Nlaw "law" (defScope slaw) A.flaw cdv Ar outer s H E) rfl
  exact dsCons (dSetO (ps_set (i := 1) nd rfl (by first | exact Or.inl rfl | exact Or.inr rfl) (dCallF F_law_draws (hr.mono (by decide)) rfl T.f_law_draws T.p_law_draws T.a_law_draws tk (dmV (dV (pv 0)) (dmNil))))) (dsCons (dSet (ps_set (i := 2) nd rfl (by first | exact Or.inl rfl | exact Or.inr rfl) (dCall F_law_octets (hr.mono (by decide)) rfl T.f_law_octets T.p_law_octets T.a_law_octets tk (dmIo (pv 1) (dmV (dI) (dmNil)))))) (dsCons (dIfS (ps_if (PW.pt (dOr (dNot (dTv (dCall F_law_are_judged (hr.mono (by decide)) rfl T.f_law_are_judged T.p_law_are_judged T.a_law_are_judged tk (dmIo (pv 1) (dmV (dV (pv 2)) (dmNil)))))) (pw_or1 (dTc (op_neA hr.units) sr_ne (dl (dCall Fnumber_of (hr.mono (by decide)) rfl T.fnumber_of T.pnumber_of T.anumber_of tk (dmV (dV (pv 2)) (dmNil)))) (dl (dCall F_law_number (hr.mono (by decide)) rfl T.f_law_number T.p_law_number T.a_law_number tk (dmV (dV (pv 2)) (dmNil)))) (nomark _))))) (dsOne (dRet (ps_ret (dB)))) (dsNil))) (dsCons (dSet (ps_set (i := 3) nd rfl (by first | exact Or.inl rfl | exact Or.inr rfl) (dCall F_law_number (hr.mono (by decide)) rfl T.f_law_number T.p_law_number T.a_law_number tk (dmV (dV (pv 2)) (dmNil))))) (dsCons (dFor (ps_for po rfl (diU (pi_lts (dFE (dLst (daCons (dB1 (fun _ ha => pe_callB call_len rfl T.b_len (by decide +kernel) (pa_cons ha pa_nil)) su_len (dN (pv 2))) (daCons (dOp op_addA sr_add (dl (dB1 (fun _ ha => pe_callB call_len rfl T.b_len (by decide +kernel) (pa_cons ha pa_nil)) su_len (dN (pv 2)))) (dl (dCall F_law_take (hr.mono (by decide)) rfl T.f_law_take T.p_law_take T.a_law_take tk (dmIo (pv 1) (dmV (dI) (dmNil)))))) (daCons (dCall F_law_take (hr.mono (by decide)) rfl T.f_law_take T.p_law_take T.a_law_take tk (dmIo (pv 1) (dmV (dI) (dmNil)))) (daNil)))))))) (dgName (pg_name (i := 4) nd rfl (by first | exact Or.inl rfl | exact Or.inr rfl))) (dsCons (dSet (ps_set (i := 12) nd rfl (by first | exact Or.inl rfl | exact Or.inr rfl) (dX))) (dsCons (dIfS (ps_if (dTc op_lt sr_lt (dN (pv 3)) (dl (dCall F_law_power (hr.mono (by decide)) rfl T.f_law_power T.p_law_power T.a_law_power tk (dmV (dI) (dmV (dV (pv 4)) (dmNil))))) (nomark _)) (dsCons (dSet (ps_set (i := 12) nd rfl (by first | exact Or.inl rfl | exact Or.inr rfl) (dOp op_rep0 sr_rep0 (dl (dTup (daCons (dI) (daNil)))) (dN (pv 4))))) (dsOne (dSet (ps_set (i := 12) nd rfl (by first | exact Or.inl rfl | exact Or.inr rfl) (dIf (dTc op_ge sr_ge (dN (pv 4)) (dl (dB1 (fun _ ha => pe_callB call_len rfl T.b_len (by decide +kernel) (pa_cons ha pa_nil)) su_len (dN (pv 2)))) (nomark _)) (dSlV (dl (dOp op_addA sr_add (dN (pv 12)) (dN (pv 2)))) (dpAt (dB1 (fun _ ha => pe_callB call_len rfl T.b_len (by decide +kernel) (pa_cons ha pa_nil)) su_len (dN (pv 2)))) (dpNo)) (dSlV (dN (pv 2)) (dpAt (dOp op_sub sr_sub (dl (dB1 (fun _ ha => pe_callB call_len rfl T.b_len (by decide +kernel) (pa_cons ha pa_nil)) su_len (dN (pv 2)))) (dN (pv 4)))) (dpNo))))))) (dsNil))) (dsOne (dIfS (ps_if (dNot (dTv (dCall F_law_same (hr.mono (by decide)) rfl T.f_law_same T.p_law_same T.a_law_same tk (dmV (dCall F_law_try (hr.mono (by decide)) rfl T.f_law_try T.p_law_try T.a_law_try tk (dmV (dI) (dmV (dV (pv 3)) (dmV (dV (pv 4)) (dmNil))))) (dmV (dV (pv 12)) (dmNil)))))) (dsOne (dRet (ps_ret (dB)))) (dsNil)))))))) (dsCons (dFor (ps_for po rfl (diU (pi_lts (dFE (dLst (daCons (dTup (daCons (dUn un_neg su_neg (dl (dI))) (daCons (dI) (daNil)))) (daCons (dTup (daCons (dI) (daCons (dUn un_neg su_neg (dl (dI))) (daNil)))) (daCons (dTup (daCons (dI) (daCons (dI) (daNil)))) (daCons (dTup (daCons (dI) (daCons (dI) (daNil)))) (daCons (dTup (daCons (dI) (daCons (dI) (daNil)))) (daCons (dTup (daCons (dI) (daCons (dI) (daNil)))) (daCons (dTup (daCons (dI) (daCons (dI) (daNil)))) (daNil)))))))))))) (dgTup (is := [3, 4]) (pg_tup rfl (pgs_cons (pg_name (i := 3) nd rfl (by first | exact Or.inl rfl | exact Or.inr rfl)) (pgs_cons (pg_name (i := 4) nd rfl (by first | exact Or.inl rfl | exact Or.inr rfl)) (pgs_nil))))) (dsCons (dSet (ps_set (i := 12) nd rfl (by first | exact Or.inl rfl | exact Or.inr rfl) (dIx ix_seq sr_ix (dl (dFE (dLst (daCons (dTup (daCons (dI) (daNil))) (daCons (dTup (daCons (dI) (daNil))) (daCons (dX) (daNil))))))) (dl (dOp op_addA sr_add (dl (dB1 (fun _ ha => pe_callTy call_int1 rfl T.b_int (by decide +kernel) (pa_cons ha pa_nil)) su_int (dl (dCmp (op_neA hr.units) sr_ne (dl (dTup (daCons (dV (pv 3)) (daCons (dV (pv 4)) (daNil))))) (dl (dTup (daCons (dI) (daCons (dI) (daNil))))) (nomark _))))) (dl (dB1 (fun _ ha => pe_callTy call_int1 rfl T.b_int (by decide +kernel) (pa_cons ha pa_nil)) su_int (dl (dCmp (op_notInD hr.units65) sr_ninN (dl (dTup (daCons (dV (pv 3)) (daCons (dV (pv 4)) (daNil))))) (dl (dFE (dLst (daCons (dTup (daCons (dI) (daCons (dI) (daNil)))) (daCons (dTup (daCons (dI) (daCons (dI) (daNil)))) (daNil)))))) (by with_unfolding_all rfl))))))) (fun _ _ => rfl)))) (dsOne (dIfS (ps_if (dNot (dTv (dCall F_law_same (hr.mono (by decide)) rfl T.f_law_same T.p_law_same T.a_law_same tk (dmV (dCall F_law_try (hr.mono (by decide)) rfl T.f_law_try T.p_law_try T.a_law_try tk (dmV (dI) (dmV (dV (pv 3)) (dmV (dV (pv 4)) (dmNil))))) (dmV (dV (pv 12)) (dmNil)))))) (dsOne (dRet (ps_ret (dB)))) (dsNil))))))) (dsCons (dSet (ps_set (i := 5) nd rfl (by first | exact Or.inl rfl | exact Or.inr rfl) (dM1 (fun _ _ ho ha => pe_m1 PySem.F.slot_str_join PySem.F.type_str_join mt_join ho ha) sr_join (dl (dX)) (dl (dFE (dLcF (pe_lc (own := [("unused", 13)]) rfl nd (diR1 (pi_range1 rfl T.b_range (daCons (dCall F_law_take (hr.mono (by decide)) rfl T.f_law_take T.p_law_take T.a_law_take tk (dmIo (pv 1) (dmV (dI) (dmNil)))) (daNil)))) (blkOk_by (N := Nlaw) (sc := defScope slaw) (own := [("unused", 13)]) (by decide +kernel)) (fun _ _ _ _ _ => dgvName (pg_name (i := 13) nd rfl (by first | exact Or.inl rfl | exact Or.inr rfl)) (by decide)) (fun _ _ _ _ _ => dYes) (fun _ _ _ _ _ => dIx ix_seq sr_ix (dl (dX)) (dl (dCall0 F_law_take (hr.mono (by decide)) rfl T.f_law_take T.p_law_take T.a_law_take (dmIo (pv 1) (dmV (dI) (dmNil))))) (fun _ _ => rfl))))))))) (dsCons (dIfS (ps_if (dNot (dTv (dCall F_law_same (hr.mono (by decide)) rfl T.f_law_same T.p_law_same T.a_law_same tk (dmV (dCall F_law_try (hr.mono (by decide)) rfl T.f_law_try T.p_law_try T.a_law_try tk (dmV (dI) (dmV (dV (pv 5)) (dmV (dI) (dmNil))))) (dmV (dB1 (fun _ ha => pe_callTy call_tuple_of rfl T.b_tuple (by decide +kernel) (pa_cons ha pa_nil)) su_tupOf (dl (dFE (dLcF (pe_lc (own := [("sign", 15)]) rfl nd (diU (pi_lts (dV (pv 5)))) (blkOk_by (N := Nlaw) (sc := defScope slaw) (own := [("sign", 15)]) (by decide +kernel)) (fun _ _ _ _ _ => dgvName (pg_name (i := 15) nd rfl (by first | exact Or.inl rfl | exact Or.inr rfl)) (by decide)) (fun _ _ _ _ _ => dYes) (fun _ _ _ _ _ => dB1 (fun _ ha => pe_callB call_ord rfl T.b_ord (by decide +kernel) (pa_cons ha pa_nil)) su_ord (dN (pv 15)))))))) (dmNil)))))) (dsOne (dRet (ps_ret (dB)))) (dsNil))) (dsCons (dIfS (ps_if (dNot (dTv (dCall F_law_same (hr.mono (by decide)) rfl T.f_law_same T.p_law_same T.a_law_same tk (dmV (dCall Fhexed (hr.mono (by decide)) rfl T.fhexed T.phexed T.ahexed tk (dmV (dV (pv 2)) (dmNil))) (dmV (dCall F_law_hex (hr.mono (by decide)) rfl T.f_law_hex T.p_law_hex T.a_law_hex tk (dmV (dV (pv 2)) (dmNil))) (dmNil)))))) (dsOne (dRet (ps_ret (dB)))) (dsNil))) (dsCons (dFor (ps_for po rfl (diR1 (pi_range1 rfl T.b_range (daCons (dI) (daNil)))) (dgName (pg_name (i := 6) nd rfl (by first | exact Or.inl rfl | exact Or.inr rfl))) (dsCons (dSet (ps_set (i := 11) nd rfl (by first | exact Or.inl rfl | exact Or.inr rfl) (dCall F_law_bent (hr.mono (by decide)) rfl T.f_law_bent T.p_law_bent T.a_law_bent tk (dmIo (pv 1) (dmV (dCall F_law_hex (hr.mono (by decide)) rfl T.f_law_hex T.p_law_hex T.a_law_hex tk (dmV (dV (pv 2)) (dmNil))) (dmNil)))))) (dsOne (dIfS (ps_if (dNot (dTv (dCall F_law_same (hr.mono (by decide)) rfl T.f_law_same T.p_law_same T.a_law_same tk (dmV (dCall F_law_try (hr.mono (by decide)) rfl T.f_law_try T.p_law_try T.a_law_try tk (dmV (dI) (dmV (dV (pv 11)) (dmV (dI) (dmNil))))) (dmV (dCall F_law_unhex (hr.mono (by decide)) rfl T.f_law_unhex T.p_law_unhex T.a_law_unhex tk (dmV (dV (pv 11)) (dmNil))) (dmNil)))))) (dsOne (dRet (ps_ret (dB)))) (dsNil))))))) (dsCons (dSet (dLcSE (ps_setLc (i := 7) (own := [("unused", 13)]) rfl nd rfl rfl (sw_true rfl rfl rfl (by decide +kernel)) (diR1 (pi_range1 rfl T.b_range (daCons (dCall F_law_take (hr.mono (by decide)) rfl T.f_law_take T.p_law_take T.a_law_take tk (dmIo (pv 1) (dmV (dI) (dmNil)))) (daNil)))) (blkOk_by (N := Nlaw) (sc := defScope slaw) (own := [("unused", 13)]) (by decide +kernel)) (fun _ _ _ _ _ => dgvName (pg_name (i := 13) nd rfl (by first | exact Or.inl rfl | exact Or.inr rfl)) (by decide)) (fun _ _ _ _ _ => dYes) (fun _ _ _ _ _ => dCall0 F_law_octets (hr.mono (by decide)) rfl T.f_law_octets T.p_law_octets T.a_law_octets (dmIo (pv 1) (dmV (dIx ix_seq sr_ix (dl (dFE (dLst (daCons (dI) (daCons (dI) (daNil)))))) (dl (dB1 (fun _ ha => pe_callTy call_int1 rfl T.b_int (by decide +kernel) (pa_cons ha pa_nil)) su_int (dl (dCmp (op_eqA hr.units) sr_eq (dl (dCall0 F_law_take (hr.mono (by decide)) rfl T.f_law_take T.p_law_take T.a_law_take (dmIo (pv 1) (dmV (dI) (dmNil))))) (dl (dI)) (nomark _))))) (fun _ _ => rfl)) (dmNil))))))) (dsCons (dSet (dLcSE (ps_setLc (i := 8) (own := [("part", 14)]) rfl nd rfl rfl (sw_true rfl rfl rfl (by decide +kernel)) (diU (pi_lts (dV (pv 7)))) (blkOk_by (N := Nlaw) (sc := defScope slaw) (own := [("part", 14)]) (by decide +kernel)) (fun _ _ _ _ _ => dgvName (pg_name (i := 14) nd rfl (by first | exact Or.inl rfl | exact Or.inr rfl)) (by decide)) (fun _ _ _ _ _ => dYes) (fun _ _ _ _ _ => dV (pv 14))))) (dsCons (dSet (ps_set (i := 9) nd rfl (by first | exact Or.inl rfl | exact Or.inr rfl) (dCall Fpacked (hr.mono (by decide)) rfl T.fpacked T.ppacked T.apacked tk (dmV (dV (pv 8)) (dmNil))))) (dsCons (dIfS (ps_if (PW.pt (dOr (dNot (dTv (dCall F_law_same (hr.mono (by decide)) rfl T.f_law_same T.p_law_same T.a_law_same tk (dmV (dV (pv 9)) (dmV (dCall F_law_pack (hr.mono (by decide)) rfl T.f_law_pack T.p_law_pack T.a_law_pack tk (dmV (dV (pv 7)) (dmNil))) (dmNil)))))) (dOr (dTc (op_neA hr.units) sr_ne (dN (pv 8)) (dN (pv 7)) (nomark _)) (pw_or1 (dNot (dTv (dCall F_law_same (hr.mono (by decide)) rfl T.f_law_same T.p_law_same T.a_law_same tk (dmV (dCall F_law_try (hr.mono (by decide)) rfl T.f_law_try T.p_law_try T.a_law_try tk (dmV (dI) (dmV (dV (pv 9)) (dmV (dI) (dmNil))))) (dmV (dV (pv 7)) (dmNil)))))))))) (dsOne (dRet (ps_ret (dB)))) (dsNil))) (dsCons (dSet (ps_set (i := 10) nd rfl (by first | exact Or.inl rfl | exact Or.inr rfl) (dCall F_law_take (hr.mono (by decide)) rfl T.f_law_take T.p_law_take T.a_law_take tk (dmIo (pv 1) (dmV (dOp op_addA sr_add (dl (dB1 (fun _ ha => pe_callB call_len rfl T.b_len (by decide +kernel) (pa_cons ha pa_nil)) su_len (dN (pv 9)))) (dl (dI))) (dmNil)))))) (dsCons (dFor (ps_for po rfl (diU (pi_lts (dFE (dLst (daCons (dSlV (dN (pv 9)) (dpNo) (dpAt (dV (pv 10)))) (daCons (dOp op_addA sr_add (dN (pv 9)) (dl (dTup (daCons (dCall F_law_take (hr.mono (by decide)) rfl T.f_law_take T.p_law_take T.a_law_take tk (dmIo (pv 1) (dmV (dI) (dmNil)))) (daNil))))) (daCons (dOp op_addA sr_add (dl (dSlV (dN (pv 9)) (dpNo) (dpAt (dV (pv 10))))) (dl (dSlV (dN (pv 9)) (dpAt (dOp op_addA sr_add (dN (pv 10)) (dl (dI)))) (dpNo)))) (daCons (dOp op_addA sr_add (dl (dOp op_addA sr_add (dl (dSlV (dN (pv 9)) (dpNo) (dpAt (dV (pv 10))))) (dl (dTup (daCons (dCall F_law_take (hr.mono (by decide)) rfl T.f_law_take T.p_law_take T.a_law_take tk (dmIo (pv 1) (dmV (dI) (dmNil)))) (daNil)))))) (dl (dSlV (dN (pv 9)) (dpAt (dV (pv 10))) (dpNo)))) (daNil))))))))) (dgName (pg_name (i := 11) nd rfl (by first | exact Or.inl rfl | exact Or.inr rfl))) (dsOne (dIfS (ps_if (dNot (dTv (dCall F_law_same (hr.mono (by decide)) rfl T.f_law_same T.p_law_same T.a_law_same tk (dmV (dCall F_law_try (hr.mono (by decide)) rfl T.f_law_try T.p_law_try T.a_law_try tk (dmV (dI) (dmV (dV (pv 11)) (dmV (dI) (dmNil))))) (dmV (dCall F_law_unpack (hr.mono (by decide)) rfl T.f_law_unpack T.p_law_unpack T.a_law_unpack tk (dmV (dV (pv 11)) (dmNil))) (dmNil)))))) (dsOne (dRet (ps_ret (dB)))) (dsNil)))))) (dsOne (dRet (ps_ret (dB)))))))))))))))))))
end
end Lw

namespace Lw
open PySem L2 Den Evl PySem.Spec PyProof.Rows Zn
variable [Tbs]
local macro_rules | `(tactic| walk_at "env") => `(tactic| (simp only [upds, setOwn, wipeE, setAll, List.foldr, back, keepVa, List.set_cons_zero, List.set_cons_succ, List.getElem?_cons_zero, List.getElem?_cons_succ]; try with_unfolding_all exact rfl))
local macro_rules | `(tactic| walk_at "lit") => `(tactic| (simp only [Int.reduceToNat, Int.reducePow]; try with_unfolding_all exact rfl))
local macro_rules | `(tactic| walk_at "w1") => `(tactic| first
  | with_reducible refine s_seq ?_
  | with_reducible refine s_set ?_
  | with_reducible refine s_L ?_
  | with_reducible refine s_C ?_
  | with_reducible refine s_op ?_
  | with_reducible refine s_N _ (by with_unfolding_all exact rfl) ?_
  | with_reducible refine s_Va _ (by with_unfolding_all exact rfl) ?_
  | with_reducible refine s_Vo _ (by with_unfolding_all exact rfl) ?_
  | with_reducible refine s_asg _ (by first | with_unfolding_all exact rfl | with_unfolding_all assumption) (by walk_at "env") ?_
  | with_reducible refine s_fr0 ?_
  | with_reducible refine s_lc ?_
  | with_reducible refine s_lr0 ?_
  | with_reducible refine s_lrs (by with_unfolding_all first | exact ⟨trivial, trivial⟩ | exact ⟨trivial, trivial, trivial⟩ | exact ⟨trivial, trivial, trivial, trivial⟩) ?_
  | with_reducible refine s_frs ?_
  | with_reducible refine s_next ?_
  | with_reducible refine s_setO ?_
  | with_reducible refine s_aug _ (by with_unfolding_all exact rfl) ?_
  | with_reducible refine s_asgn ?_
  | with_reducible refine s_ret ?_
  | with_reducible refine s_retN ?_
  | with_reducible refine s_retF ?_
  | with_reducible refine s_drop ?_
  | with_reducible refine s_ifs ?_
  | with_reducible refine s_break ?_
  | with_reducible refine s_cont ?_
  | with_reducible refine s_raise ?_
  | with_reducible refine s_unp ?_
  | with_reducible refine s_unpT ?_
  | with_reducible refine s_all0 ?_
  | with_reducible refine s_alls ?_
  | with_reducible refine s_gname ?_
  | with_reducible refine s_gtup ?_
  | with_reducible refine s_glst ?_
  | with_reducible refine s_un ?_
  | with_reducible refine s_B1 ?_
  | with_reducible refine s_B2 ?_
  | with_reducible refine s_isi ?_
  | with_reducible refine s_chain ?_
  | with_reducible refine s_Tb ?_
  | with_reducible refine s_And ?_
  | with_reducible refine s_Or ?_
  | with_reducible refine s_Not ?_
  | with_reducible refine s_AndV ?_
  | with_reducible refine s_OrV ?_
  | with_reducible refine s_NotV ?_
  | with_reducible refine s_If ?_
  | with_reducible refine s_aNil ?_
  | with_reducible refine s_aCons ?_
  | with_reducible refine s_Tup ?_
  | with_reducible refine s_FE ?_
  | with_reducible refine s_mNil ?_
  | with_reducible refine s_mV ?_
  | with_reducible refine s_mIo _ (by with_unfolding_all exact rfl) ?_
  | with_reducible refine s_call ?_
  | with_reducible refine s_call0 ?_
  | with_reducible refine s_callF ?_
  | with_reducible refine s_args _ (by with_unfolding_all exact rfl) (by first | exact nd_io | exact nd_io2 | exact nd_io3 | with_unfolding_all exact List.nodup_nil | with_unfolding_all exact List.nodup_singleton _ | decide) ?_
  | with_reducible refine s_iA ?_
  | with_reducible refine s_iL ?_
  | with_reducible refine s_iU ?_
  | with_reducible refine s_rgL ?_
  | with_reducible refine s_revT ?_
  | with_reducible refine s_revL ?_
  | with_reducible refine s_Tl ?_
  | with_reducible refine s_ext ⟨(by with_unfolding_all exact ⟨fun _ _ => True, trivial⟩), ?_⟩
  | with_reducible refine s_T3 ?_
  | with_reducible refine s_extV ⟨(by with_unfolding_all exact ⟨fun _ _ => True, trivial⟩), ?_⟩
  | with_reducible refine s_joinG ?_
  | with_reducible refine s_ord ?_
  | with_reducible refine s_rep0 ?_ (by simp)
  | with_reducible refine s_pop ?_
  | with_reducible refine s_inS ?_
  | with_reducible refine s_ninS ?_
  | with_reducible refine s_iT ?_
  | with_reducible refine s_iEn ?_
  | with_reducible refine s_iR3 ?_
  | with_reducible refine s_idx ?_
  | with_reducible refine s_dvm ?_ ?_
  | with_reducible refine s_iR1 ?_
  | with_reducible refine s_iR1e ?_ (by first | decide | omega)
  | with_reducible refine s_iR1e ?_ ?_
  | with_reducible refine s_pNo ?_
  | with_reducible refine s_pAt ?_
  | with_reducible refine s_slL ?_
  | with_reducible refine s_Yes ?_
  | with_reducible refine s_for ?_
  | with_reducible refine s_try ?_
  | with_reducible refine s_told (by with_unfolding_all exact rfl) ?_
  | with_reducible refine s_isX (by with_unfolding_all exact rfl) ?_
  | with_reducible refine s_app ⟨(by with_unfolding_all exact ⟨fun _ _ => True, trivial⟩), ?_⟩
  | with_reducible refine s_put ?_
  | with_reducible refine s_owd _ (by with_unfolding_all exact rfl) ?_
  | with_reducible refine s_oio _ (by with_unfolding_all exact rfl) ?_
  | with_reducible refine s_powl _ (by unfold CPow; decide) (by walk_at "lit") ?_
  | with_reducible refine s_i ?_
  | with_reducible refine s_I ?_ (by walk_at "g")
  | with_reducible refine s_I ?_ ?_
  | with_reducible refine s_addi ?_
  | with_reducible refine s_addl ?_ (by walk_at "g")
  | with_reducible refine s_addl ?_ ?_
  | with_reducible refine s_addt ?_ (by walk_at "g")
  | with_reducible refine s_addt ?_ (by rw [sizeLine_eq]; decide)
  | with_reducible refine s_neg ?_
  | with_reducible refine s_eqi ?_
  | with_reducible refine s_nei ?_
  | with_reducible refine s_eqs ?_
  | with_reducible refine s_nes ?_
  | with_reducible refine s_isB ?_
  | with_reducible refine s_notB ?_
  | with_reducible refine s_ixl _ (by with_unfolding_all exact rfl) ?_
  | with_reducible refine s_ixt _ (by with_unfolding_all exact rfl) ?_
  | with_reducible refine s_abs ?_
  | with_reducible refine s_int ?_
  | with_reducible refine s_lenl ?_
  | with_reducible refine s_lent ?_
  | with_reducible refine s_gcd ?_
  | with_reducible refine s_par ?_
  | with_reducible refine s_slV ?_
  | with_reducible refine s_rep ?_ (by simp) (by decide) (by decide) (by decide)
  | with_reducible refine s_repL ?_ (by decide) (by decide) (by first | decide | simp)
  | with_reducible refine s_repF ?_
  | with_reducible refine s_ltS ?_
  | with_reducible refine s_geS ?_
  | with_reducible refine s_split ?_
  | with_reducible refine s_adds ?_ ?_
  | with_reducible refine s_strI ?_ ?_
  | with_reducible refine s_revO ?_
  | with_reducible refine s_M0 ?_
  | with_reducible refine s_M1 ?_
  | with_reducible refine s_start ?_
  | with_reducible refine s_find ?_
  | with_reducible refine s_fmt ?_
  | with_reducible refine s_joined ?_
  | with_reducible refine s_js0 ?_
  | with_reducible refine s_js ?_
  | with_reducible refine s_dvW ?_ ?_
  | with_reducible refine s_xy ?_
  | with_reducible refine s_gen ?_
  | with_reducible refine s_iZ2 ?_
  | with_reducible refine s_iZ3 ?_
  | with_reducible refine s_z2e _ _ (by with_unfolding_all exact rfl) (by with_unfolding_all exact rfl) ?_
  | with_reducible refine s_z3e _ _ _ (by with_unfolding_all exact rfl) (by with_unfolding_all exact rfl) (by with_unfolding_all exact rfl) ?_
  | with_reducible refine s_fz _ (by with_unfolding_all exact rfl) ?_
  | with_reducible refine s_fzo _ (by with_unfolding_all exact rfl) ?_
  | with_reducible refine s_tupOf _ (by with_unfolding_all exact rfl) ?_
  | with_reducible refine s_isN ?_
  | with_reducible refine s_notN ?_
  | with_reducible refine s_newL ?_
  | with_reducible refine s_listOf _ (by with_unfolding_all exact rfl) ?_
  | with_reducible refine s_ift (by with_unfolding_all exact rfl) ?_
  | with_reducible refine s_iff (by with_unfolding_all exact rfl) ?_
  | refine ⟨_, _, rfl, rfl, ?_⟩
  | refine ⟨_, rfl, ?_⟩
  | (with_reducible show _ ∧ _; first
    | with_reducible refine And.intro (by with_unfolding_all exact ⟨fun _ _ => True, trivial⟩) ?_
    | with_reducible refine And.intro (by rw [sizeLine_eq]; decide) ?_
    | with_reducible refine And.intro (by with_unfolding_all exact ⟨_, rfl⟩) ?_
    | with_reducible refine And.intro (by decide) ?_
    | with_reducible refine And.intro (by with_unfolding_all first | exact ⟨trivial, trivial⟩ | exact ⟨trivial, trivial, trivial⟩ | exact ⟨trivial, trivial, trivial, trivial⟩) ?_))
local macro_rules | `(tactic| walk_at "st") => `(tactic| (unfold bxOf; simp only [List.replicate, List.cons_append, List.nil_append]))
local macro_rules | `(tactic| walk_at "w") => `(tactic| repeat walk_at "w1")
local macro_rules | `(tactic| walk_at "g") => `(tactic| first | assumption | (show _ ≠ (0 : Int); decide) | (show (0 : Int) ≤ _; decide))
theorem abs_nat (i : Int) : (if i < 0 then -i else i) = (i.natAbs : Int) := by split <;> omega
theorem rng_lt {lo : Int} {n i : Nat} {d : D} (h : (rng lo n)[i]? = some d) : i < n := by
  obtain ⟨z, _⟩ := List.getElem?_eq_some_iff.mp h
  unfold rng at z
  rw [List.length_map, List.length_range] at z
  exact z
theorem rng_len (lo : Int) (n : Nat) : (rng lo n).length = n := by unfold rng; rw [List.length_map, List.length_range]
theorem log_of {j : Int} (h0 : 0 < j) (h : j ≤ 10 ^ 100) : j.natAbs.log2 < 9000 := by
  have z : j.natAbs ≠ 0 := by omega
  have e : ((10 ^ 100 : Nat) : Int) = 10 ^ 100 := by decide +kernel
  have a : j.natAbs < 2 ^ 400 := Nat.lt_of_le_of_lt (m := 10 ^ 100) (by omega) (by decide +kernel)
  exact Nat.lt_of_lt_of_le ((Nat.log2_lt z).mpr a) (by decide)
theorem divS {i j : Int} (h : 0 < j) (k : j ≤ 10 ^ 100) : CDivA i j := ⟨by omega, log_of h k⟩
theorem abs_pow {i : Int} {k : Nat} (h0 : 0 ≤ i) (h : i < 2 ^ k) : i.natAbs < 2 ^ k := by
  have e : ((2 ^ k : Nat) : Int) = 2 ^ k := by simp
  omega
theorem mulB {i j : Int} (k : Nat) (h0 : 0 ≤ i) (h : i < 2 ^ k) (hj : j.natAbs < 2 ^ 64) (hk : k ≤ 100000) : CMulX i j := mulx_ok (abs_pow h0 h) hj (by omega)
theorem atI_ints {cs : List Int} {i : Int} (h0 : 0 ≤ i) (h1 : i < (cs.length : Int)) : ∃ c, c ∈ cs ∧ atI (cs.map PyData.int) i = some (.int c) := by
  have hl : i.toNat < cs.length := by omega
  refine ⟨cs[i.toNat], List.getElem_mem hl, ?_⟩
  unfold atI ixN
  rw [List.length_map, if_pos h0, if_pos h1]
  show (cs.map PyData.int)[i.toNat]? = _
  rw [List.getElem?_map, List.getElem?_eq_getElem hl]
  rfl
def Pl (s : Sl) : Prop := s = .no ∨ ∃ d, s = .va d
theorem Pl.nio {s : Sl} (h : Pl s) : nio (some s) = true := by
  rcases h with rfl | ⟨d, rfl⟩ <;> rfl
theorem Pl.own {s : Sl} (h : Pl s) {ρ : En} {i : Nat} (e : ρ[i]? = some s) : nonown ρ i := by
  rcases h with rfl | ⟨d, rfl⟩ <;> (unfold nonown; rw [e]; exact trivial)
theorem Pl.no : Pl .no := .inl rfl
theorem Pl.va {d : D} : Pl (.va d) := .inr ⟨d, rfl⟩
theorem get_map {α β : Type} {f : α → β} {l : List α} {i : Nat} {x : β} (h : (l.map f)[i]? = some x) : ∃ c, l[i]? = some c ∧ f c = x := by
  rw [List.getElem?_map] at h
  exact Option.map_eq_some_iff.mp h
theorem ib_lt {z : Int} {n : Nat} (h : Builtin.Int.intBits z ≤ n) : z.natAbs < 2 ^ n := by
  unfold Builtin.Int.intBits at h
  split at h
  · rename_i e
    have e : z = 0 := by simpa using e
    rw [e]; exact Nat.two_pow_pos n
  · rename_i e
    have e : z ≠ 0 := by simpa using e
    exact (Nat.log2_lt (by omega)).mp (by omega)
theorem ib_up {z : Int} {n : Nat} (h : Builtin.Int.intBits z ≤ n) : Builtin.Int.intBits (1 + (z.natAbs : Int)) ≤ n + 1 := by
  have a := ib_lt h
  refine PyProof.Rows.intBits_le ?_
  rw [Nat.pow_succ]
  omega
theorem ib_mul {i j : Int} (h : Builtin.Int.intBits i ≤ 2000000) (hj : j.natAbs < 2 ^ 64) : CMulX i j := by
  have y := PyProof.Rows.intBits_le hj
  unfold CMulX
  omega
theorem shaped_b (b : Bool) : SeqAt.shaped (.bool b) = true := by cases b <;> decide
theorem s_nebb {b : Bool} {k : D → Prop} (h : k (.bool false)) : fNe (.bool b) (.bool b) k := by
  refine ⟨shaped_b b, shaped_b b, ?_⟩
  rw [SeqAt.eqv_refl _ (Bool.and_eq_true_iff.mp (shaped_b b)).1]
  exact h
theorem s_eqbb {b : Bool} {k : D → Prop} (h : k (.bool true)) : fEq (.bool b) (.bool b) k := by
  refine ⟨shaped_b b, shaped_b b, ?_⟩
  rw [SeqAt.eqv_refl _ (Bool.and_eq_true_iff.mp (shaped_b b)).1]
  exact h
theorem s_neb2 {a b : Bool} {k : D → Prop} (h : k (.bool (a != b))) : fNe (.bool a) (.bool b) k := by
  refine ⟨shaped_b a, shaped_b b, ?_⟩
  have e : (!PyData.eqv (.bool a) (.bool b)) = (a != b) := by cases a <;> cases b <;> decide
  rw [e]
  exact h
theorem atI_mem {l : List D} {i : Int} (h0 : 0 ≤ i) (h1 : i < (l.length : Int)) : ∃ x, x ∈ l ∧ atI l i = some x := by
  have hl : i.toNat < l.length := by omega
  refine ⟨l[i.toNat], List.getElem_mem hl, ?_⟩
  unfold atI ixN
  rw [if_pos h0, if_pos h1]
  exact List.getElem?_eq_getElem hl
theorem rng_at {n i : Nat} {d : D} (h : (rng 0 n)[i]? = some d) : d = .int (i : Int) ∧ i < n := by
  unfold rng at h
  obtain ⟨k, hk, rfl⟩ := get_map h
  obtain ⟨a, b⟩ := List.getElem?_eq_some_iff.mp hk
  rw [List.getElem_range] at b
  subst b
  rw [List.length_range] at a
  exact ⟨by show PyData.int (0 + (i : Int)) = _; rw [Int.zero_add], a⟩
theorem s_allP {ds : List D} {wg : WG} {we : WE} (p : D → Bool) (C : En → Prop) {M : En} {F G : Prop} (hG : ds.all p = true → G) (hF : ds.all p = false → F) (h0 : C M)
    (hs : ∀ i d ρ', ds[i]? = some d → C ρ' → (p d = false → F) → AllUp p ds i → wg d ρ' (fun ρ2 => we ρ2 (fun y ρ3 => ∃ b : Bool, y = .bool b ∧ if b = false then F else (C ρ3 ∧ AllUp p ds (i + 1))) NoE) NoE) : ∃ Inv : Nat → En → Prop, Inv 0 M ∧
  (∀ i d ρ', ds[i]? = some d → Inv i ρ' → wg d ρ' (fun ρ2 => we ρ2 (fun y ρ3 => ∃ b : Bool, y = .bool b ∧ if b = false then F else Inv (i + 1) ρ3) NoE) NoE) ∧
  ∀ ρ', Inv ds.length ρ' → G := by
  refine ⟨fun i ρ' => C ρ' ∧ AllUp p ds i, ⟨h0, fun k z hk => absurd hk (by omega)⟩, fun i d ρ' hi hc => hs i d ρ' hi hc.1 (fun hp => hF ?_) hc.2, fun ρ' hc => hG ?_⟩
  · rw [List.all_eq_false]
    exact ⟨d, List.mem_of_getElem? hi, by rw [hp]; decide⟩
  · rw [List.all_eq_true]
    intro x hx
    obtain ⟨k, hk, e⟩ := List.getElem_of_mem hx
    exact hc.2 k x hk (by rw [List.getElem?_eq_getElem hk, e])
theorem all_fin2 {p : D → Bool} {ds : List D} {i : Nat} {d : D} {b : Bool} {F C : Prop} (e : b = p d) (hd : ds[i]? = some d) (hF : p d = false → F) (hU : AllUp p ds i) (hc : C) : if b = false then F else (C ∧ AllUp p ds (i + 1)) := by
  cases hb : b with
  | false => rw [if_pos rfl]; exact hF (by rw [← e, hb])
  | true =>
    rw [if_neg (by decide)]
    refine ⟨hc, fun k z hk hz => ?_⟩
    rcases Nat.lt_succ_iff_lt_or_eq.mp hk with hk | rfl
    · exact hU k z hk hz
    · rw [hd] at hz
      cases hz
      rw [← e, hb]
open TL in
theorem find_one {x : Str} {c : Nat} : (∀ k : Nat, (tl x)[k]? ≠ some c) ∧ Txt.find x ⟨#[c]⟩ = -1 ∨ ∃ i : Nat, Txt.find x ⟨#[c]⟩ = (i : Int) ∧ (tl x)[i]? = some c ∧ ∀ k : Nat, k < i → (tl x)[k]? ≠ some c := by
  have at1 : ∀ i, PySem.StrLaws.At x ⟨#[c]⟩ x.length i ↔ (tl x)[i]? = some c := fun i => PySem.StrLaws.subAt_one x c i
  unfold Txt.find
  rcases PySem.StrLaws.occ_head x ⟨#[c]⟩ 1 (Nat.le_refl 1) with ⟨h1, h2⟩ | ⟨i, r, h1, h2, h3⟩
  · rw [h1]
    exact .inl ⟨fun k z => h2 k ((at1 k).mpr z), rfl⟩
  · rw [h1]
    exact .inr ⟨i, rfl, (at1 i).mp h2, fun k hk z => h3 k hk ((at1 k).mpr z)⟩
open TL in
theorem tl_cut (x : Str) (lo hi : Option Int) : tl (cutS x lo hi) = ((tl x).drop (HT.sIx x.length 0 lo)).take (HT.sIx x.length x.length hi - HT.sIx x.length 0 lo) := rfl
open TL in
theorem cut_from (x : Str) (k : Nat) : tl (cutS x (some (k : Int)) none) = (tl x).drop k := by
  rw [tl_cut, HT.sIx_nat, HT.sIx_none, len_tl]
  by_cases h : k ≤ (tl x).length
  · rw [Nat.min_eq_left h, List.take_of_length_le (by rw [List.length_drop]; omega)]
  · rw [Nat.min_eq_right (by omega), List.drop_of_length_le (Nat.le_refl _), List.drop_of_length_le (by omega), List.take_nil]
open TL in
theorem cut_to (x : Str) (k : Nat) : tl (cutS x none (some (k : Int))) = (tl x).take k := by
  rw [tl_cut, HT.sIx_nat, HT.sIx_none, List.drop_zero, len_tl, Nat.sub_zero]
  by_cases h : k ≤ (tl x).length
  · rw [Nat.min_eq_left h]
  · rw [Nat.min_eq_right (by omega), List.take_of_length_le (Nat.le_refl _), List.take_of_length_le (by omega)]
theorem slv {x : Str} {lo hi : Option Int} (h : x.length ≤ 1000) : sliceD (.str x) lo hi = some (.str (cutS x lo hi)) := by
  unfold sliceD
  exact if_pos (by rw [sizeLine_eq]; omega)
open TL in
theorem str_eq {x y : Str} : x = y ↔ tl x = tl y := ⟨fun h => by rw [h], ext_tl⟩
open TL in
theorem occ_in {c : Nat} {s : Str} : occS ⟨#[c]⟩ s = decide (c ∈ tl s) := PySem.StrLaws.found_one s c
theorem len_app (a b : Str) : (a ++ b).length = a.length + b.length := by rw [TL.len_tl, TL.tl_append, List.length_append, ← TL.len_tl, ← TL.len_tl]
theorem shaped_str {x : Str} (h : loT x) : SeqAt.shaped (.str x) = true := by
  have e : PyData.strOk x = true := by
    unfold PyData.strOk
    rw [← Array.all_toList, List.all_eq_true]
    exact fun c hc => decide_eq_true (Nat.lt_trans (h c hc) (by decide))
  show (PyData.strOk x && decide ((PyData.str x).depth ≤ 64)) = true
  rw [e]
  rfl
theorem shaped_l {ds : List D} (h : ∀ d, d ∈ ds → SeqAt.shaped d = true ∧ flatD d = true) : SeqAt.shaped (.list ds) = true := by
  have h1 : PyData.canLayAll0 ds = true := by
    induction ds with
    | nil => rfl
    | cons d ds ih =>
      show (d.canLay0 && PyData.canLayAll0 ds) = true
      rw [Bool.and_eq_true]
      exact ⟨(Bool.and_eq_true_iff.mp (h d (List.mem_cons_self ..)).1).1, ih fun e he => h e (List.mem_cons_of_mem _ he)⟩
  have h2 : PyData.depthAll ds ≤ 1 := by
    clear h1
    induction ds with
    | nil => exact Nat.zero_le _
    | cons d ds ih =>
      have hd := (h d (List.mem_cons_self ..)).2
      have i1 := ih fun e he => h e (List.mem_cons_of_mem _ he)
      have : d.depth ≤ 1 := by
        cases d with
        | list _ => cases hd
        | tuple _ => cases hd
        | dict _ => cases hd
        | _ => exact Nat.zero_le _
      show max d.depth (PyData.depthAll ds) ≤ 1
      omega
  show (PyData.canLayAll0 ds && decide ((PyData.list ds).depth ≤ 64)) = true
  rw [h1]
  refine decide_eq_true ?_
  show PyData.depthAll ds + 1 ≤ 64
  omega
theorem strs_sh {ws : List Str} (h : ∀ w, w ∈ ws → loT w) : SeqAt.shaped (.list (ws.map PyData.str)) = true := shaped_l fun d hd => by
  obtain ⟨w, hw, rfl⟩ := List.mem_map.mp hd
  exact ⟨shaped_str (h w hw), rfl⟩
open TL in
theorem loT_app {a b : Str} (ha : loT a) (hb : loT b) : loT (a ++ b) := fun c hc => by
  rw [tl_append] at hc
  rcases List.mem_append.mp hc with z | z
  · exact ha c z
  · exact hb c z
open TL in
theorem loT_cut {a : Str} (ha : loT a) (lo hi : Option Int) : loT (cutS a lo hi) := fun c hc => by
  rw [tl_cut] at hc
  exact ha c (List.mem_of_mem_drop (List.mem_of_mem_take hc))
theorem atI_anym {α : Type} {l : List α} {i : Int} (h0 : 0 ≤ i) (h1 : i < (l.length : Int)) : ∃ x, x ∈ l ∧ atI l i = some x := by
  have hl : i.toNat < l.length := by omega
  refine ⟨l[i.toNat], List.getElem_mem hl, ?_⟩
  unfold atI ixN
  rw [if_pos h0, if_pos h1]
  exact List.getElem?_eq_getElem hl
theorem lo_one {c : Nat} (h : c < 256) : loT (⟨#[c]⟩ : Str) := fun d hd => by
  have hd : d ∈ [c] := hd
  rw [List.mem_singleton.mp hd]; exact h
theorem all_lo (x : Str) (h : x.cps.toList.all (fun c => decide (c < 256)) = true) : ∀ c, c ∈ x.cps.toList → c < 256 := fun c hc => of_decide_eq_true (List.all_eq_true.mp h c hc)
theorem len_cutS (x : Str) (k : Nat) : (cutS x none (some (k : Int))).length + (cutS x (some (k : Int)) none).length ≤ x.length := by
  rw [TL.len_tl, TL.len_tl, cut_from, cut_to, List.length_take, List.length_drop, TL.len_tl]
  omega
theorem len_one (c : Nat) : (⟨#[c]⟩ : Str).length = 1 := rfl
theorem hi100 {n : Nat} (h : n ≤ 9999) : (n : Int) + 1 ≤ 10 ^ 100 := Int.le_trans (b := 10000) (by omega) (by decide)
theorem eq_l {ds : List D} {k : D → Prop} (hs : SeqAt.shaped (.list ds) = true) (h : k (.bool true)) : fEq (.list ds) (.list ds) k := by
  refine ⟨hs, hs, ?_⟩
  rw [SeqAt.eqv_refl _ (Bool.and_eq_true_iff.mp hs).1]
  exact h
theorem ne_l {ds : List D} {k : D → Prop} (hs : SeqAt.shaped (.list ds) = true) (h : k (.bool false)) : fNe (.list ds) (.list ds) k := by
  refine ⟨hs, hs, ?_⟩
  rw [SeqAt.eqv_refl _ (Bool.and_eq_true_iff.mp hs).1]
  exact h
theorem nmM (A : Ad) : nm A A.cMalformed = some (Str.ofString "Malformed") := by unfold nm; rw [if_pos rfl]
theorem ctM (A : Ad) : catOf (nm A) A.cMalformed = some true := by unfold catOf; rw [nmM]; rfl
theorem numN_from (l : List Nat) : ∀ a : Nat, l.foldl (fun a d => a * 256 + d) a = a * 256 ^ l.length + numN l := by
  unfold numN
  induction l with
  | nil => intro a; simp
  | cons x l ih =>
    intro a
    rw [List.foldl_cons, List.foldl_cons, ih, ih (0 * 256 + x), List.length_cons, Nat.pow_succ]
    have : (a * 256 + x) * 256 ^ l.length = a * (256 ^ l.length * 256) + x * 256 ^ l.length := by
      rw [Nat.add_mul, Nat.mul_assoc, Nat.mul_comm 256]
    rw [this, Nat.zero_mul, Nat.zero_add, Nat.add_assoc]
theorem numN_cons (x : Nat) (l : List Nat) : numN (x :: l) = x * 256 ^ l.length + numN l := by
  show l.foldl _ (0 * 256 + x) = _
  rw [numN_from, Nat.zero_mul, Nat.zero_add]
theorem numN_app (a b : List Nat) : numN (a ++ b) = numN a * 256 ^ b.length + numN b := by
  show (a ++ b).foldl _ 0 = _
  rw [List.foldl_append, numN_from b]
  rfl
theorem numN_snoc (a : List Nat) (x : Nat) : numN (a ++ [x]) = numN a * 256 + x := by
  show (a ++ [x]).foldl _ 0 = _
  rw [List.foldl_append]
  rfl
theorem Oc.app {a b : List Nat} (h : Oc a) (k : Oc b) : Oc (a ++ b) := fun x hx => (List.mem_append.mp hx).elim (h x) (k x)
theorem Oc.take {a : List Nat} (h : Oc a) (n : Nat) : Oc (a.take n) := fun x hx => h x (List.mem_of_mem_take hx)
theorem Oc.drop {a : List Nat} (h : Oc a) (n : Nat) : Oc (a.drop n) := fun x hx => h x (List.mem_of_mem_drop hx)
theorem Oc.nil : Oc [] := fun x hx => absurd hx List.not_mem_nil
theorem Oc.one {x : Nat} (h : x < 256) : Oc [x] := fun y hy => by rw [List.mem_singleton.mp hy]; exact h
theorem numN_lt : ∀ {l : List Nat}, Oc l → numN l < 256 ^ l.length
  | [], _ => Nat.one_pos
  | x :: l, h => by
    have h1 := numN_lt (l := l) (fun y hy => h y (List.mem_cons_of_mem _ hy))
    have h2 := h x (List.mem_cons_self ..)
    rw [numN_cons, List.length_cons, Nat.pow_succ]
    have : x * 256 ^ l.length ≤ 255 * 256 ^ l.length := Nat.mul_le_mul_right _ (by omega)
    omega
theorem beN_len : ∀ (s n : Nat), (beN s n).length = s
  | 0, _ => rfl
  | s + 1, n => by
    show (beN s (n / 256) ++ [n % 256]).length = _
    rw [List.length_append, beN_len s, List.length_singleton]
theorem beN_oc : ∀ (s n : Nat), Oc (beN s n)
  | 0, _ => Oc.nil
  | s + 1, n => (beN_oc s (n / 256)).app (Oc.one (Nat.mod_lt _ (by decide)))
theorem beN_num : ∀ (n : Nat) (l : List Nat), l.length = n → Oc l → beN n (numN l) = l
  | 0, l, h, _ => (List.length_eq_zero_iff.mp h).symm ▸ rfl
  | n + 1, l, h, ho => by
    obtain ⟨g, c, rfl⟩ : ∃ g c, l = g ++ [c] := ⟨l.dropLast, l.getLast (fun z => by rw [z] at h; cases h), (List.dropLast_concat_getLast _).symm⟩
    have hc := ho c (List.mem_append_right _ (List.mem_singleton.mpr rfl))
    have ih := beN_num n g (by rw [List.length_append, List.length_singleton] at h; omega) (fun x hx => ho x (List.mem_append_left _ hx))
    show beN n (numN (g ++ [c]) / 256) ++ [numN (g ++ [c]) % 256] = _
    rw [numN_snoc, show (numN g * 256 + c) / 256 = numN g by omega, show (numN g * 256 + c) % 256 = c by omega, ih]
theorem num_beN : ∀ (s n : Nat), n < 256 ^ s → numN (beN s n) = n
  | 0, n, h => by
    have : n = 0 := by simpa using h
    rw [this]; rfl
  | s + 1, n, h => by
    show numN (beN s (n / 256) ++ [n % 256]) = n
    rw [Nat.pow_succ] at h
    rw [numN_snoc, num_beN s (n / 256) (by omega)]
    omega
theorem numN_zeros (k : Nat) (l : List Nat) : numN (List.replicate k 0 ++ l) = numN l := by
  induction k with
  | zero => rfl
  | succ k ih =>
    rw [List.replicate_succ, List.cons_append, numN_cons, ih]
    omega
theorem zeros_oc (k : Nat) : Oc (List.replicate k 0) := fun x hx => by rw [(List.mem_replicate.mp hx).2]; decide
/-- the octets of a number that fits: with noughts ahead, or without noughts -/
theorem beN_pad {l : List Nat} {s : Nat} (h : Oc l) (hs : l.length ≤ s) : beN s (numN l) = (List.replicate s 0 ++ l).drop l.length := by
  have e := beN_num s (List.replicate (s - l.length) 0 ++ l) (by rw [List.length_append, List.length_replicate]; omega) ((zeros_oc _).app h)
  rw [numN_zeros] at e
  rw [e, List.drop_append_of_le_length (by rw [List.length_replicate]; omega), List.drop_replicate]
theorem beN_cut {l : List Nat} {s : Nat} (h : Oc l) (hs : s ≤ l.length) (hn : numN l < 256 ^ s) : beN s (numN l) = l.drop (l.length - s) := by
  have hl : (l.drop (l.length - s)).length = s := by rw [List.length_drop]; omega
  have e := numN_app (l.take (l.length - s)) (l.drop (l.length - s))
  rw [List.take_append_drop, hl] at e
  have e2 := beN_num s (l.drop (l.length - s)) hl (h.drop _)
  have h0 : numN (l.take (l.length - s)) = 0 := by
    refine Classical.byContradiction fun z => ?_
    have : 1 * 256 ^ s ≤ numN (l.take (l.length - s)) * 256 ^ s := Nat.mul_le_mul_right _ (by omega)
    omega
  rw [h0, Nat.zero_mul, Nat.zero_add] at e
  rw [e, e2]
theorem beN_map : ∀ (s n : Nat), (List.range s).map (fun k => n / 256 ^ (s - 1 - k) % 256) = beN s n
  | 0, _ => rfl
  | s + 1, n => by
    have ih := beN_map s (n / 256)
    show _ = beN s (n / 256) ++ [n % 256]
    rw [List.range_succ, List.map_append, ← ih]
    congr 1
    · refine List.map_congr_left fun k hk => ?_
      have hk := List.mem_range.mp hk
      rw [show s + 1 - 1 - k = (s - 1 - k) + 1 by omega, Nat.pow_succ, Nat.div_div_eq_div_mul, Nat.mul_comm]
    · show [n / 256 ^ (s + 1 - 1 - s) % 256] = _
      rw [show s + 1 - 1 - s = 0 by omega, Nat.pow_zero, Nat.div_one]
theorem beN4 {n : Nat} (h : n < 65536) : beN 4 n = [0, 0, n / 256, n % 256] := by
  show [n / 256 / 256 / 256 % 256, n / 256 / 256 % 256, n / 256 % 256, n % 256] = _
  rw [show n / 256 / 256 / 256 % 256 = 0 by omega, show n / 256 / 256 % 256 = 0 by omega, show n / 256 % 256 = n / 256 by omega]
/-! packings -/
theorem unp_fuel : ∀ (f g : Nat) (l : List Nat), l.length < f → l.length < g → unp f l = unp g l
  | 0, _, l, h, _ => by omega
  | _, 0, l, _, h => by omega
  | f + 1, g + 1, l, h1, h2 => by
    unfold unp
    by_cases e : l = []
    · rw [if_pos e, if_pos e]
    · rw [if_neg e, if_neg e]
      by_cases e2 : l.length < 4 + numN (l.take 4)
      · rw [if_pos e2, if_pos e2]
      · rw [if_neg e2, if_neg e2, unp_fuel f g (l.drop (4 + numN (l.take 4))) (by rw [List.length_drop]; omega) (by rw [List.length_drop]; omega)]
theorem unpA_nil : unpA [] = some [] := rfl
theorem unpA_short {l : List Nat} (h : l ≠ []) (h2 : l.length < 4 + numN (l.take 4)) : unpA l = none := by
  unfold unpA unp
  rw [if_neg h, if_pos h2]
theorem unpA_step {l : List Nat} (h2 : ¬ l.length < 4 + numN (l.take 4)) : unpA l = (unpA (l.drop (4 + numN (l.take 4)))).map (((l.drop 4).take (numN (l.take 4))) :: ·) := by
  have h : l ≠ [] := fun z => by rw [z] at h2; exact h2 (by show 0 < 4 + numN []; omega)
  show unp (l.length + 1) l = _
  unfold unp
  rw [if_neg h, if_neg h2]
  rw [unp_fuel l.length ((l.drop (4 + numN (l.take 4))).length + 1) _ (by rw [List.length_drop]; omega) (by omega)]
  rfl
theorem unp_pack : ∀ (ls : List (List Nat)), (∀ l, l ∈ ls → Oc l ∧ l.length ≤ 300) → unpA (packL ls) = some ls
  | [], _ => rfl
  | l :: ls, h => by
    have hl := (h l (List.mem_cons_self ..)).2
    have e : packL (l :: ls) = beN 4 l.length ++ (l ++ packL ls) := by
      show (l :: ls).flatMap _ = _
      rw [List.flatMap_cons, List.append_assoc]; rfl
    have h4 : (packL (l :: ls)).take 4 = beN 4 l.length := by
      rw [e]
      exact List.take_left' (beN_len 4 _)
    have hn : numN ((packL (l :: ls)).take 4) = l.length := by
      rw [h4]
      exact num_beN 4 _ (Nat.lt_of_le_of_lt hl (by decide))
    have hd : (packL (l :: ls)).drop 4 = l ++ packL ls := by
      rw [e]
      exact List.drop_left' (beN_len 4 _)
    rw [unpA_step (by rw [hn, e, List.length_append, List.length_append, beN_len]; omega), hn, hd, ← List.drop_drop, hd, List.drop_left, List.take_left, unp_pack ls fun x hx => h x (List.mem_cons_of_mem _ hx)]
    rfl
theorem pack_oc {ls : List (List Nat)} (h : ∀ l, l ∈ ls → Oc l ∧ l.length ≤ 300) : Oc (packL ls) := fun x hx => by
  obtain ⟨l, hl, hx⟩ := List.mem_flatMap.mp hx
  exact ((beN_oc _ _).app (h l hl).1) x hx
theorem pack_len : ∀ {ls : List (List Nat)}, (∀ l, l ∈ ls → Oc l ∧ l.length ≤ 300) → (packL ls).length ≤ ls.length * 304
  | [], _ => Nat.zero_le _
  | l :: ls, h => by
    have ih := pack_len (ls := ls) fun x hx => h x (List.mem_cons_of_mem _ hx)
    have hl := (h l (List.mem_cons_self ..)).2
    have e : packL (l :: ls) = (beN 4 l.length ++ l) ++ packL ls := List.flatMap_cons ..
    rw [e, List.length_append, List.length_append, beN_len, List.length_cons]
    omega
theorem pack_snoc (ls : List (List Nat)) (l : List Nat) : packL (ls ++ [l]) = packL ls ++ (beN 4 l.length ++ l) := by
  unfold packL
  rw [List.flatMap_append]
  simp
theorem fmod_nat (a b : Nat) : (a : Int).fmod (b : Int) = ((a % b : Nat) : Int) := by
  rw [Int.fmod_eq_emod_of_nonneg _ (Int.natCast_nonneg b)]; rfl
theorem fdiv_nat (a b : Nat) : (a : Int).fdiv (b : Int) = ((a / b : Nat) : Int) := by
  rw [Int.fdiv_eq_ediv_of_nonneg _ (Int.natCast_nonneg b)]; rfl
theorem ocL_at {l : List Nat} {i : Nat} {d : D} (h : (ocL l)[i]? = some d) : ∃ x, l[i]? = some x ∧ d = nI x := by
  obtain ⟨x, h1, h2⟩ := get_map h
  exact ⟨x, h1, h2.symm⟩
theorem ocL_len (l : List Nat) : (ocL l).length = l.length := List.length_map _
theorem take_at {l : List Nat} {i x : Nat} (h : l[i]? = some x) : l.take (i + 1) = l.take i ++ [x] := by
  rw [List.take_add_one, h]; rfl
theorem ocD_cut (l : List Nat) (a b : Nat) : (PyData.tuple (cutG (ocL l) (some (a : Int)) (some (b : Int)))) = ocD ((l.drop a).take (b - a)) := by
  unfold cutG
  rw [HT.sIx_nat, HT.sIx_nat, ocL_len]
  congr 1
  unfold ocL
  rw [← List.map_drop, ← List.map_take]
  by_cases h : a ≤ l.length
  · rw [Nat.min_eq_left h]
    congr 1
    by_cases h2 : b ≤ l.length
    · rw [Nat.min_eq_left h2]
    · rw [Nat.min_eq_right (by omega), List.take_of_length_le (by rw [List.length_drop]; omega), List.take_of_length_le (by rw [List.length_drop]; omega)]
  · have e1 : l.drop (min a l.length) = [] := List.drop_of_length_le (by omega)
    have e2 : l.drop a = [] := List.drop_of_length_le (by omega)
    rw [e1, e2, List.take_nil, List.take_nil]
theorem ocD_to (l : List Nat) (b : Nat) : (PyData.tuple (cutG (ocL l) none (some (b : Int)))) = ocD (l.take b) := by
  unfold cutG
  rw [HT.sIx_nat, HT.sIx_none, ocL_len, List.drop_zero, Nat.sub_zero]
  congr 1
  unfold ocL
  rw [← List.map_take]
  congr 1
  by_cases h2 : b ≤ l.length
  · rw [Nat.min_eq_left h2]
  · rw [Nat.min_eq_right (by omega), List.take_of_length_le (Nat.le_refl _), List.take_of_length_le (by omega)]
theorem ocD_from (l : List Nat) (a : Nat) : (PyData.tuple (cutG (ocL l) (some (a : Int)) none)) = ocD (l.drop a) := by
  unfold cutG
  rw [HT.sIx_nat, HT.sIx_none, ocL_len]
  congr 1
  unfold ocL
  rw [← List.map_drop, ← List.map_take]
  congr 1
  by_cases h : a ≤ l.length
  · rw [Nat.min_eq_left h, List.take_of_length_le (by rw [List.length_drop]; omega)]
  · rw [Nat.min_eq_right (by omega), List.drop_of_length_le (Nat.le_refl _), List.drop_of_length_le (by omega), List.take_nil]

set_option maxHeartbeats 4000000 in
theorem hw_law_draws (A : Ad) : ∀ pr R E, S_law_draws A pr R E → w_law_draws A (bxF 1 R E) (pr ++ List.replicate 6 .no) := by
  rintro pr R E ⟨ns, rfl, hl, hb, h⟩
  unfold w_law_draws bxF
  simp only [List.replicate, List.cons_append, List.nil_append]
  walk_at "w"
  refine s_inv (fun i ρ' => ∃ (ms : List Int) (s2 s4 s5 s6 : Sl), ρ' = [Sl.va (.list (ns.map PyData.int)), Sl.ow (ms.map PyData.int), s2, Sl.no, s4, s5, s6] ∧ Pl s2 ∧ Pl s4 ∧ Pl s5 ∧ Pl s6 ∧ ms.length ≤ 62 * i)
    ⟨[], .no, .no, .no, .no, rfl, .no, .no, .no, .no, Nat.zero_le _⟩ ?_ ?_
  · rintro i d ρ' hd ⟨ms, s2, s4, s5, s6, rfl, p2, p4, p5, p6, hm⟩
    obtain ⟨c, hc, rfl⟩ := get_map hd
    have hi := (List.getElem?_eq_some_iff.mp hc).1
    have n2 := p2.nio
    have n4 := p4.nio
    have n5 := p5.nio
    have n6 := p6.nio
    walk_at "w"
    generalize hx : (if c < 0 then -c else c) = x
    have hx0 : 0 ≤ x := by rw [← hx]; split <;> omega
    have e60 : (2 : Int) ^ 60 = 1152921504606846976 := by decide
    refine s_ifd (fun h1 => ?_) fun h1 => ?_
    · have b1 := Int.fmod_nonneg_of_pos (x * 48271 + 11) (b := 2147483647) (by decide)
      have b2 := Int.fmod_lt_of_pos (x * 48271 + 11) (b := 2147483647) (by decide)
      walk_at "w"
      · refine ⟨by rw [List.length_map, sizeLine_eq]; omega, ?_⟩
        simp only [List.set_cons_zero, List.set_cons_succ]
        walk_at "w"
        · refine ⟨by rw [sizeLine_eq]; simp; omega, ?_⟩
          simp only [List.set_cons_zero, List.set_cons_succ]
          walk_at "w"
          refine s_inv (fun j ρ' => ∃ (ms' : List Int) (y : Int) (s4' : Sl), ρ' = [Sl.va (.list (ns.map PyData.int)), Sl.ow (ms'.map PyData.int), Sl.va (.int c), Sl.no, s4', Sl.va (.int y), Sl.va (.int _)] ∧ Pl s4' ∧ 0 ≤ y ∧ ms'.length ≤ 62 * i + 2 + j) ⟨ms ++ [_] ++ [_], _, s4, by rw [List.map_append, List.map_append]; rfl, p4, Int.le_refl _, by simp; omega⟩ ?_ ?_
          · rintro j d ρ' hj ⟨ms', y, s4', rfl, p4', hy, hm'⟩
            have hj' := rng_lt hj
            have n4' := p4'.nio
            walk_at "w"
            refine s_ifd (fun h2 => ?_) fun h2 => ?_
            · walk_at "w"
              refine ⟨by rw [List.length_map, sizeLine_eq]; omega, ?_⟩
              simp only [List.set_cons_zero, List.set_cons_succ]
              walk_at "w"
              · exact ⟨ms' ++ [y.fmod 997], _, _, by rw [List.map_append]; rfl, .va, Int.fdiv_nonneg hy (by omega), by simp; omega⟩
              · exact divS (by omega) (by omega)
            · walk_at "w"
              exact ⟨ms', y, _, rfl, .va, hy, by omega⟩
          · rintro ρ' ⟨ms', y, s4', rfl, p4', hy, hm'⟩
            rw [rng_len] at hm'
            have e60 : (60 : Int).toNat = 60 := rfl
            exact ⟨ms', _, _, _, _, rfl, .va, p4', .va, .va, by omega⟩
        · exact divS (by omega) (by omega)
      · exact mulB 40 b1 (by omega) (by decide) (by decide)
      · exact mulB 60 hx0 (by omega) (by decide) (by decide)
    · walk_at "w"
      refine s_inv (fun j ρ' => ∃ (ms' : List Int) (y : Int) (s4' : Sl), ρ' = [Sl.va (.list (ns.map PyData.int)), Sl.ow (ms'.map PyData.int), Sl.va (.int c), Sl.no, s4', Sl.va (.int y), s6] ∧ Pl s4' ∧ 0 ≤ y ∧ ms'.length ≤ 62 * i + 2 + j) ⟨ms, _, s4, rfl, p4, hx0, by omega⟩ ?_ ?_
      · rintro j d ρ' hj ⟨ms', y, s4', rfl, p4', hy, hm'⟩
        have hj' := rng_lt hj
        have n4' := p4'.nio
        walk_at "w"
        refine s_ifd (fun h2 => ?_) fun h2 => ?_
        · walk_at "w"
          refine ⟨by rw [List.length_map, sizeLine_eq]; omega, ?_⟩
          simp only [List.set_cons_zero, List.set_cons_succ]
          walk_at "w"
          · exact ⟨ms' ++ [y.fmod 997], _, _, by rw [List.map_append]; rfl, .va, Int.fdiv_nonneg hy (by omega), by simp; omega⟩
          · exact divS (by omega) (by omega)
        · walk_at "w"
          exact ⟨ms', y, _, rfl, .va, hy, by omega⟩
      · rintro ρ' ⟨ms', y, s4', rfl, p4', hy, hm'⟩
        rw [rng_len] at hm'
        have e60 : (60 : Int).toNat = 60 := rfl
        exact ⟨ms', _, _, _, _, rfl, .va, p4', .va, p6, by omega⟩
  · rintro ρ' ⟨ms, s2, s4, s5, s6, rfl, p2, p4, p5, p6, hm⟩
    rw [List.length_map] at hm
    have n4 := p4.nio
    walk_at "w"
    refine s_ifd (fun h1 => ?_) fun h1 => ?_
    · obtain ⟨c, hcm, hca⟩ := atI_ints (cs := ns) (i := 0) (by omega) (by simpa using h1)
      have hbc := ib_up (hb c hcm)
      walk_at "w"
      refine s_ixl _ hca ?_
      walk_at "w"
      rw [abs_nat]
      refine s_inv (fun j ρ' => ∃ (ms' : List Int) (x : Int) (s4' : Sl), ρ' = [Sl.va (.list (ns.map PyData.int)), Sl.ow (ms'.map PyData.int), s2, Sl.va (.int x), s4', s5, s6] ∧ Pl s4' ∧ Builtin.Int.intBits x ≤ 2000000 ∧ ms'.length ≤ 62 * 63 + j) ⟨ms, _, s4, rfl, p4, Nat.le_trans hbc (by omega), by omega⟩ ?_ ?_
      · rintro j d ρ' hj ⟨ms', x, s4', rfl, p4', hx, hm'⟩
        have hj' := rng_lt hj
        have e900 : (900 : Int).toNat = 900 := rfl
        have n4' := p4'.nio
        have b1 := Int.fmod_nonneg_of_pos (x * 48271 + 69621) (b := 2147483647) (by decide)
        have b2 := Int.fmod_lt_of_pos (x * 48271 + 69621) (b := 2147483647) (by decide)
        walk_at "w"
        · refine ⟨by rw [List.length_map, sizeLine_eq]; omega, ?_⟩
          simp only [List.set_cons_zero, List.set_cons_succ]
          exact ⟨ms' ++ [_], _, _, by rw [List.map_append]; rfl, .va, Nat.le_trans (PyProof.Rows.intBits_le (k := 40) (abs_pow b1 (by omega))) (by decide), by simp; omega⟩
        · exact divS (by omega) (by omega)
        · exact ib_mul hx (by decide)
      · rintro ρ' ⟨ms', x, s4', rfl, p4', hx, hm'⟩
        walk_at "w"
        rw [← List.map_reverse]
        exact h _
    · walk_at "w"
      refine s_inv (fun j ρ' => ∃ (ms' : List Int) (x : Int) (s4' : Sl), ρ' = [Sl.va (.list (ns.map PyData.int)), Sl.ow (ms'.map PyData.int), s2, Sl.va (.int x), s4', s5, s6] ∧ Pl s4' ∧ Builtin.Int.intBits x ≤ 2000000 ∧ ms'.length ≤ 62 * 63 + j) ⟨ms, _, s4, rfl, p4, by decide, by omega⟩ ?_ ?_
      · rintro j d ρ' hj ⟨ms', x, s4', rfl, p4', hx, hm'⟩
        have hj' := rng_lt hj
        have e900 : (900 : Int).toNat = 900 := rfl
        have n4' := p4'.nio
        have b1 := Int.fmod_nonneg_of_pos (x * 48271 + 69621) (b := 2147483647) (by decide)
        have b2 := Int.fmod_lt_of_pos (x * 48271 + 69621) (b := 2147483647) (by decide)
        walk_at "w"
        · refine ⟨by rw [List.length_map, sizeLine_eq]; omega, ?_⟩
          simp only [List.set_cons_zero, List.set_cons_succ]
          exact ⟨ms' ++ [_], _, _, by rw [List.map_append]; rfl, .va, Nat.le_trans (PyProof.Rows.intBits_le (k := 40) (abs_pow b1 (by omega))) (by decide), by simp; omega⟩
        · exact divS (by omega) (by omega)
        · exact ib_mul hx (by decide)
      · rintro ρ' ⟨ms', x, s4', rfl, p4', hx, hm'⟩
        walk_at "w"
        rw [← List.map_reverse]
        exact h _
theorem hw_law_take (A : Ad) : ∀ pr R E, S_law_take A pr R E → w_law_take A (bxOf 2 R E) (pr ++ List.replicate 0 .no) := by
  rintro pr R E ⟨ms, b, rfl, hb0, hb1, h⟩
  have hbn : b ≠ 0 := by omega
  unfold w_law_take
  walk_at "st"
  walk_at "w"
  refine s_ifd (fun h1 => ?_) fun h1 => ?_
  · walk_at "w"
    exact h 0 ms (by omega) hb0
  · have hl : 0 < ms.length := by
      rw [List.length_map] at h1
      omega
    have hne : ms ≠ [] := List.length_pos_iff.mp hl
    walk_at "w"
    refine ⟨.int (ms.getLast hne), ?_, ?_⟩
    · rw [List.getElem?_map, List.length_map, List.getElem?_eq_getElem (by omega), List.getLast_eq_getElem hne]
      rfl
    · walk_at "w"
      have e : (ms.map PyData.int).dropLast = ms.dropLast.map PyData.int := by rw [List.dropLast_eq_take, List.dropLast_eq_take, List.map_take, List.length_map]
      rw [e]
      exact h _ _ (Int.fmod_nonneg_of_pos _ hb0) (Int.fmod_lt_of_pos _ hb0)

theorem hwis_number (A : Ad) : ∀ pr R E, Sis_number A pr R E → wis_number A (bxOf 3 R E) (pr ++ List.replicate 0 .no) := by
  rintro pr R E ⟨d, a, b, rfl, h⟩
  unfold wis_number
  walk_at "st"
  walk_at "w"
  cases d with
  | int i =>
    walk_at "w"
    refine s_ifd (fun h1 => ?_) fun h1 => ?_
    · walk_at "w"
      have e : isNum (.int i) a b = decide (i ≤ b) := by show (decide (a ≤ i) && decide (i ≤ b)) = _; rw [decide_eq_true h1, Bool.true_and]
      rw [e] at h
      exact h
    · have e : isNum (.int i) a b = false := by show (decide (a ≤ i) && decide (i ≤ b)) = _; rw [decide_eq_false h1, Bool.false_and]
      rw [e] at h
      exact h
  | bool i => walk_at "w"; exact h
  | none => walk_at "w"; exact h
  | str i => walk_at "w"; exact h
  | list i => walk_at "w"; exact h
  | tuple i => walk_at "w"; exact h
  | dict i => walk_at "w"; exact h
set_option maxHeartbeats 4000000 in
theorem hw_law_same (d : Nat) (A : Ad) : ∀ pr R E, S_law_same (d + 1) A pr R E → w_law_same d A (bxOf 2 R E) (pr ++ List.replicate 1 .no) := by
  rintro pr R E (⟨x, rfl, hok, h⟩ | ⟨x, n, rfl, hok, h⟩)
  · unfold w_law_same
    walk_at "st"
    cases x with
    | none => walk_at "w"; exact h
    | bool b =>
      walk_at "w"
      repeat (refine s_nebb ?_; walk_at "w")
      refine s_eqbb ?_
      exact h
    | int i =>
      walk_at "w"
      repeat (refine s_nebb ?_; walk_at "w")
      rw [decide_eq_true rfl]
      exact h
    | str i =>
      walk_at "w"
      repeat (refine s_nebb ?_; walk_at "w")
      rw [decide_eq_true rfl]
      exact h
    | dict i => cases d <;> exact hok.elim
    | list xs =>
      cases d with
      | zero => exact hok.elim
      | succ d =>
        obtain ⟨hl, hy⟩ := hok
        walk_at "w"
        repeat (refine s_nebb ?_; walk_at "w")
        refine s_ifn (fun h1 => absurd rfl h1) fun _ => ?_
        walk_at "w"
        refine ⟨by omega, s_inv (fun i ρ' => ∃ s2, ρ' = [Sl.va (.list xs), Sl.va (.list xs), s2] ∧ Pl s2) ⟨.no, rfl, .no⟩ ?_ ?_⟩
        · rintro i d' ρ' hd ⟨s2, rfl, p2⟩
          obtain ⟨rfl, hi⟩ := rng_at hd
          have n2 := p2.nio
          rw [Int.toNat_natCast] at hi
          obtain ⟨y, hym, hya⟩ := atI_mem (l := xs) (i := (i : Int)) (by omega) (by omega)
          walk_at "w"
          refine s_ixl _ hya ?_
          walk_at "w"
          refine s_ixl _ hya ?_
          walk_at "w"
          refine .inl ⟨y, rfl, hy y hym, ?_⟩
          walk_at "w"
          exact .va
        · rintro ρ' ⟨s2, rfl, p2⟩
          walk_at "w"
          exact h
    | tuple xs =>
      cases d with
      | zero => exact hok.elim
      | succ d =>
        obtain ⟨hl, hy⟩ := hok
        walk_at "w"
        repeat (refine s_nebb ?_; walk_at "w")
        refine s_ifn (fun h1 => absurd rfl h1) fun _ => ?_
        walk_at "w"
        refine ⟨by omega, s_inv (fun i ρ' => ∃ s2, ρ' = [Sl.va (.tuple xs), Sl.va (.tuple xs), s2] ∧ Pl s2) ⟨.no, rfl, .no⟩ ?_ ?_⟩
        · rintro i d' ρ' hd ⟨s2, rfl, p2⟩
          obtain ⟨rfl, hi⟩ := rng_at hd
          have n2 := p2.nio
          rw [Int.toNat_natCast] at hi
          obtain ⟨y, hym, hya⟩ := atI_mem (l := xs) (i := (i : Int)) (by omega) (by omega)
          walk_at "w"
          refine s_ixt _ hya ?_
          walk_at "w"
          refine s_ixt _ hya ?_
          walk_at "w"
          refine .inl ⟨y, rfl, hy y hym, ?_⟩
          walk_at "w"
          exact .va
        · rintro ρ' ⟨s2, rfl, p2⟩
          walk_at "w"
          exact h
  · unfold w_law_same
    walk_at "st"
    cases x with
    | none => walk_at "w"; exact h
    | bool b =>
      walk_at "w"
      repeat (refine s_neb2 ?_; walk_at "w")
      exact h
    | int i =>
      walk_at "w"
      repeat (refine s_neb2 ?_; walk_at "w")
      exact h
    | str i =>
      walk_at "w"
      repeat (refine s_neb2 ?_; walk_at "w")
      exact h
    | dict i => exact hok.elim
    | list xs =>
      walk_at "w"
      repeat (refine s_neb2 ?_; walk_at "w")
      exact h
    | tuple xs =>
      walk_at "w"
      repeat (refine s_neb2 ?_; walk_at "w")
      exact h

theorem p256 (k : Nat) : (2 : Int) ^ (8 * k) = 256 ^ k := by
  rw [Int.pow_mul]; rfl
theorem p256n (k : Nat) : (2 : Nat) ^ (8 * k) = 256 ^ k := by
  rw [Nat.pow_mul]
theorem cast256 (k : Nat) : ((256 ^ k : Nat) : Int) = 256 ^ k := by simp
theorem hw_law_power (A : Ad) : ∀ pr R E, S_law_power A pr R E → w_law_power A (bxOf 2 R E) (pr ++ List.replicate 2 .no) := by
  rintro pr R E ⟨e, rfl, he, h⟩
  unfold w_law_power
  walk_at "st"
  walk_at "w"
  refine ⟨by omega, s_inv (fun i ρ' => ∃ s3, ρ' = [Sl.va (.int 256), Sl.va (nI e), Sl.va (nI (256 ^ i)), s3] ∧ Pl s3) ⟨.no, rfl, .no⟩ ?_ ?_⟩
  · rintro i d ρ' hd ⟨s3, rfl, p3⟩
    have n3 := p3.nio
    have hi := rng_lt hd
    rw [Int.toNat_natCast] at hi
    walk_at "w"
    · exact .va
    · refine mulx_ok (a := 512) (b := 20) ?_ (by decide) (by decide)
      rw [Int.natAbs_natCast, ← p256n]
      exact Nat.pow_lt_pow_right (by decide) (by omega)
  · rintro ρ' ⟨s3, rfl, p3⟩
    rw [rng_len, Int.toNat_natCast]
    walk_at "w"
    exact h
theorem num_bits {l : List Nat} (ho : Oc l) (hl : l.length ≤ 64) : numN l < 2 ^ 512 := by
  have h1 := numN_lt ho
  rw [← p256n] at h1
  exact Nat.lt_of_lt_of_le h1 (Nat.pow_le_pow_right (by decide) (by omega))
theorem hw_law_number (A : Ad) : ∀ pr R E, S_law_number A pr R E → w_law_number A (bxOf 1 R E) (pr ++ List.replicate 2 .no) := by
  rintro pr R E ⟨l, rfl, ho, hl, h⟩
  unfold w_law_number
  walk_at "st"
  walk_at "w"
  refine s_inv (fun i ρ' => ∃ s2, ρ' = [Sl.va (ocD l), Sl.va (nI (numN (l.take i))), s2] ∧ Pl s2) ⟨.no, rfl, .no⟩ ?_ ?_
  · rintro i d ρ' hd ⟨s2, rfl, p2⟩
    obtain ⟨x, hx, rfl⟩ := ocL_at hd
    have n2 := p2.nio
    have hb := num_bits (ho.take i) (by rw [List.length_take]; omega)
    walk_at "w"
    · refine ⟨Sl.va (nI x), ?_, .va⟩
      rw [take_at hx, numN_snoc]
      rfl
    · exact mulx_ok (a := 512) (b := 20) (by rw [Int.natAbs_natCast]; exact hb) (by decide) (by decide)
  · rintro ρ' ⟨s2, rfl, p2⟩
    rw [ocL_len, List.take_length]
    walk_at "w"
    exact h
theorem hwnumber_of (d : Nat) (A : Ad) : ∀ pr R E, Snumber_of (d + 1) A pr R E → wnumber_of d A (bxOf 1 R E) (pr ++ List.replicate 3 .no) := by
  rintro pr R E ⟨l, rfl, ho, hl, h⟩
  unfold wnumber_of
  walk_at "st"
  walk_at "w"
  rw [ocL_len]
  refine s_ifd (fun z => absurd z (by omega)) fun _ => ?_
  walk_at "w"
  refine s_inv (fun i ρ' => ∃ s2, ρ' = [Sl.va (ocD l), Sl.va (nI (numN (l.take i))), s2, .no] ∧ Pl s2) ⟨.no, rfl, .no⟩ ?_ ?_
  · rintro i d ρ' hd ⟨s2, rfl, p2⟩
    obtain ⟨x, hx, rfl⟩ := ocL_at hd
    have n2 := p2.nio
    have hb := num_bits (ho.take i) (by rw [List.length_take]; omega)
    have hx256 := ho x (List.mem_of_getElem? hx)
    walk_at "w"
    · refine ⟨Sl.va (nI x), ?_, .va⟩
      have e : Builtin.bitOr (((numN (l.take i) : Nat) : Int) * 2 ^ (8 : Int).toNat) ((x : Nat) : Int) = ((numN (l.take (i + 1)) : Nat) : Int) := by
        have e1 : (2 : Int) ^ (8 : Int).toNat = 2 ^ 8 := rfl
        rw [e1, Bits.bitOr_join' (k := 8) (by omega) (by omega) (by omega), take_at hx, numN_snoc]
        omega
      rw [e]
    · exact shl_ok (n := 512) (j := 8) (by rw [Int.natAbs_natCast]; exact hb) (by decide)
  · rintro ρ' ⟨s2, rfl, p2⟩
    rw [ocL_len, List.take_length]
    walk_at "w"
    exact h
def ofN (n : Int) (d : D) : D := match d with
  | .int a => .int (Builtin.bitAnd (n / 2 ^ (8 * a).toNat) 255)
  | _ => .none
theorem ofN_map (a k : Nat) : (rngC ((k : Int) - 1) (-1) k).map (ofN (a : Int)) = ocL (beN k a) := by
  unfold rngC ocL
  rw [← beN_map, List.map_map, List.map_map]
  refine List.map_congr_left fun i hi => ?_
  have hi := List.mem_range.mp hi
  show PyData.int (Builtin.bitAnd ((a : Int) / 2 ^ (8 * ((k : Int) - 1 + (i : Nat) * (-1))).toNat) 255) = nI _
  have e1 : (8 * ((k : Int) - 1 + (i : Nat) * (-1))).toNat = 8 * (k - 1 - i) := by omega
  have e2 : ((a : Int) / 2 ^ (8 * (k - 1 - i))) = ((a / 256 ^ (k - 1 - i) : Nat) : Int) := by
    rw [p256, ← cast256]; rfl
  rw [e1, e2, show (255 : Int) = 2 ^ 8 - 1 by decide, Bits.bitAnd_mask 8 (Int.natCast_nonneg _)]
  rfl
theorem fits_iff {n s : Int} : fits n s = true ↔ (0 ≤ s ∧ s ≤ 64) ∧ 0 ≤ n ∧ n < 256 ^ s.toNat := by
  unfold fits isNum
  rw [Bool.and_eq_true, Bool.and_eq_true, Bool.and_eq_true, decide_eq_true_iff, decide_eq_true_iff, decide_eq_true_iff, decide_eq_true_iff]
theorem fits_no {n s : Int} (h : ¬ ((0 ≤ s ∧ s ≤ 64) ∧ 0 ≤ n ∧ n < 256 ^ s.toNat)) : fits n s = false := by
  cases e : fits n s with
  | false => rfl
  | true => exact absurd (fits_iff.mp e) h
theorem hwof_number (A : Ad) : ∀ pr R E, Sof_number A pr R E → wof_number A (bxOf 2 R E) (pr ++ List.replicate 1 .no) := by
  rintro pr R E ⟨n, s, rfl, h1, h2⟩
  unfold wof_number
  walk_at "st"
  walk_at "w"
  refine ⟨_, _, _, rfl, ?_⟩
  cases hs : isNum (.int s) 0 64 with
  | false =>
    walk_at "w"
    refine h1 ?_
    unfold fits
    rw [hs, Bool.false_and]
  | true =>
    have hs2 : 0 ≤ s ∧ s ≤ 64 := by
      unfold isNum at hs
      rw [Bool.and_eq_true, decide_eq_true_iff, decide_eq_true_iff] at hs
      exact hs
    obtain ⟨k, rfl⟩ : ∃ k : Nat, s = k := ⟨s.toNat, by omega⟩
    walk_at "w"
    refine s_ifd (fun h3 => ?_) fun h3 => ?_
    · walk_at "w"
      · have e1 : (1 : Int) * 2 ^ (8 * (k : Int)).toNat = 256 ^ k := by
          rw [show (8 * (k : Int)).toNat = 8 * k by omega, Int.one_mul, p256]
        rw [e1]
        refine s_ifn (fun h4 => ?_) fun h4 => ?_
        · walk_at "w"
          exact h1 (fits_no fun z => h4 z.2.2)
        · obtain ⟨a, rfl⟩ : ∃ a : Nat, n = a := ⟨n.toNat, by omega⟩
          have hf := h2 (fits_iff.mpr ⟨hs2, h3, h4⟩)
          rw [Int.toNat_natCast, Int.toNat_natCast] at hf
          walk_at "w"
          refine ⟨_, _, _, _, rfl, RgC.neg (by omega) (by omega) (by decide) (by decide), ?_⟩
          have e2 : ((k : Int) - 1 - -1).toNat = k := by omega
          rw [e2]
          refine s_lcm (ofN (a : Int)) (by unfold rngC; rw [List.length_map, List.length_range, sizeLine_eq]; omega) ?_ ?_
          · intro i d acc hd hacc hae
            have hd' := hd
            obtain ⟨j, hj, rfl⟩ := get_map hd'
            have hj := List.mem_range.mp (List.mem_of_getElem? hj)
            refine ⟨⟨trivial, trivial⟩, ?_⟩
            walk_at "w"
            · exact ⟨hacc, ⟨trivial, trivial⟩, rfl, lcm_fin hd hae rfl⟩
            · omega
            · exact mulx_ok (a := 20) (b := 20) (by decide) (by omega) (by decide)
          · rw [ofN_map]
            walk_at "w"
            exact hf
      · exact shl_ok (n := 2) (j := 8 * k) (by decide) (by omega)
      · exact mulx_ok (a := 20) (b := 20) (by decide) (by omega) (by decide)
    · walk_at "w"
      exact h1 (fits_no fun z => h3 z.2.1)
theorem hwis_octets (A : Ad) : ∀ pr R E, Sis_octets A pr R E → wis_octets A (bxOf 2 R E) (pr ++ List.replicate 1 .no) := by
  rintro pr R E ⟨d, m, rfl, h⟩
  unfold wis_octets
  walk_at "st"
  cases d with
  | tuple ds =>
    have h : R (.bool (decide ((ds.length : Int) ≤ m) && (decide (ds.length ≤ 100000) && ds.all fun x => isNum x 0 255))) [.no, .no] := h
    walk_at "w"
    refine s_ifd (fun h1 => ?_) fun h1 => ?_
    · walk_at "w"
      have e : (decide ((ds.length : Int) ≤ m) && (decide (ds.length ≤ 100000) && ds.all fun x => isNum x 0 255)) = false := by
        rw [Bool.and_eq_false_iff, Bool.and_eq_false_iff, decide_eq_false_iff_not, decide_eq_false_iff_not]
        split at h1
        · exact .inr (.inl (by omega))
        · exact .inl (by omega)
      rw [e] at h
      exact h
    · have e1 : (ds.length : Int) ≤ m ∧ ds.length ≤ 100000 := by
        split at h1
        · omega
        · omega
      rw [decide_eq_true e1.1, decide_eq_true e1.2, Bool.true_and, Bool.true_and] at h
      walk_at "w"
      refine s_allP (fun x => isNum x 0 255) (fun ρ' => ∃ s0 s1 s2, ρ' = [s0, s1, s2] ∧ nio (some s2) = true) (fun e => by rw [e] at h; exact h) (fun e => by rw [e] at h; exact h) (by exact ⟨_, _, .no, rfl, rfl⟩) ?_
      rintro i d ρ' hd ⟨s0, s1, s2, rfl, n1⟩ hF hU
      walk_at "w"
      refine ⟨_, _, _, rfl, ?_⟩
      walk_at "w"
      refine all_fin2 rfl hd hF hU ?_
      exact ⟨_, _, _, rfl, rfl⟩
  | bool b => walk_at "w"; exact h
  | none => walk_at "w"; exact h
  | int b => walk_at "w"; exact h
  | list b => walk_at "w"; exact h
  | str b => walk_at "w"; exact h
  | dict b => walk_at "w"; exact h
theorem hw_law_octets (A : Ad) : ∀ pr R E, S_law_octets A pr R E → w_law_octets A (bxOf 2 R E) (pr ++ List.replicate 1 .no) := by
  rintro pr R E ⟨ms, most, rfl, hm, h⟩
  unfold w_law_octets
  walk_at "st"
  walk_at "w"
  refine ⟨ms, _, rfl, by omega, hi100 (by omega), fun r ms1 h1 h2 => ?_⟩
  obtain ⟨k, rfl⟩ : ∃ k : Nat, r = k := ⟨r.toNat, by omega⟩
  walk_at "w"
  refine ⟨by omega, fun i acc ρ' => ∃ (ms : List Int) (l : List Nat), ρ' = [Sl.io (ms.map PyData.int), Sl.va (nI most), .no] ∧ acc = ocL l ∧ l.length = i ∧ Oc l, ⟨ms1, [], rfl, rfl, rfl, Oc.nil⟩, ?_, ?_⟩
  · rintro i d acc ρ' hd ⟨ms, l, rfl, rfl, hl, ho⟩
    have hi := rng_lt hd
    refine ⟨⟨trivial, trivial⟩, ?_⟩
    walk_at "w"
    refine ⟨ms, 256, rfl, by decide, by decide, fun r2 ms2 h3 h4 => ?_⟩
    obtain ⟨x, rfl⟩ : ∃ k : Nat, r2 = k := ⟨r2.toNat, by omega⟩
    exact ⟨by rw [ocL_len, sizeLine_eq]; omega, ⟨trivial, trivial⟩, ms2, l ++ [x], rfl, by unfold ocL; rw [List.map_append]; rfl, by rw [List.length_append, hl]; rfl, ho.app (Oc.one (by omega))⟩
  · rintro acc ρ' ⟨ms, l, rfl, rfl, hl, ho⟩
    rw [rng_len] at hl
    walk_at "w"
    exact h l ms ho (by omega)

abbrev HX : Str := "0123456789abcdef"
open TL in
theorem tl_HX : tl HX = [48, 49, 50, 51, 52, 53, 54, 55, 56, 57, 97, 98, 99, 100, 101, 102] := by decide +kernel
open TL in
theorem hx_in (c : Nat) : decide (c ∈ tl HX) = isHx c := by
  rw [tl_HX]
  unfold isHx
  rw [← Bool.decide_and, ← Bool.decide_and, ← Bool.decide_or]
  refine decide_eq_decide.mpr ?_
  simp only [List.mem_cons, List.not_mem_nil, or_false]
  omega
theorem hx_at {n : Nat} (h : n < 16) : atI HX.cps.toList (n : Int) = some (hd16 n) := by
  have e : ∀ k : Fin 16, atI HX.cps.toList ((k.val : Nat) : Int) = some (hd16 k.val) := by decide +kernel
  exact e ⟨n, h⟩
theorem hx_lt {c : Nat} (h : isHx c = true) : c < 103 := by
  unfold isHx at h
  rw [Bool.or_eq_true, Bool.and_eq_true, Bool.and_eq_true, decide_eq_true_iff, decide_eq_true_iff, decide_eq_true_iff, decide_eq_true_iff] at h
  omega
theorem hv_lt {c : Nat} (h : isHx c = true) : hv c < 16 := by
  unfold isHx at h
  rw [Bool.or_eq_true, Bool.and_eq_true, Bool.and_eq_true, decide_eq_true_iff, decide_eq_true_iff, decide_eq_true_iff, decide_eq_true_iff] at h
  unfold hv
  split <;> omega
theorem hx_find {c : Nat} (h : isHx c = true) : Txt.find HX ⟨#[c]⟩ = ((hv c : Nat) : Int) := by
  have e : ∀ k : Fin 103, isHx k.val = true → Txt.find HX ⟨#[k.val]⟩ = ((hv k.val : Nat) : Int) := by decide +kernel
  exact e ⟨c, hx_lt h⟩ h
theorem hx_occ {c : Nat} (h : isHx c = true) : ∃ rest, Builtin.Str.occurrences HX ⟨#[c]⟩ 0 HX.length 1 = hv c :: rest := by
  have e : ∀ k : Fin 103, isHx k.val = true → (Builtin.Str.occurrences HX ⟨#[k.val]⟩ 0 HX.length 1).head? = some (hv k.val) := by decide +kernel
  have e2 := e ⟨c, hx_lt h⟩ h
  cases hq : Builtin.Str.occurrences HX ⟨#[c]⟩ 0 HX.length 1 with
  | nil => rw [show Builtin.Str.occurrences HX ⟨#[(⟨c, hx_lt h⟩ : Fin 103).val]⟩ 0 HX.length 1 = [] from hq] at e2; cases e2
  | cons a r =>
    rw [show Builtin.Str.occurrences HX ⟨#[(⟨c, hx_lt h⟩ : Fin 103).val]⟩ 0 HX.length 1 = a :: r from hq] at e2
    exact ⟨r, by rw [Option.some.inj e2]⟩
theorem HXlen : HX.length ≤ sizeLine := by rw [sizeLine_eq]; decide +kernel
/-- the two signs of an octet -/
def hx2 (o : Nat) : Str := ⟨#[hd16 (o / 16), hd16 (o % 16)]⟩
theorem two_app (a b : Nat) : (⟨#[a]⟩ : Str) ++ ⟨#[b]⟩ = ⟨#[a, b]⟩ := by
  apply TL.ext_tl
  rw [TL.tl_append]
  rfl
theorem shr4 (x : Nat) : (x : Int) / 2 ^ (4 : Int).toNat = ((x / 16 : Nat) : Int) := by
  show (x : Int) / 2 ^ 4 = _
  omega
theorem and15 (x : Nat) : Builtin.bitAnd (x : Int) 15 = ((x % 16 : Nat) : Int) := by
  rw [show (15 : Int) = 2 ^ 4 - 1 by decide, Bits.bitAnd_mask 4 (Int.natCast_nonneg _)]
  omega
theorem joinL0 : ∀ ps : List (List Nat), TL.joinL [] ps = ps.flatten
  | [] => rfl
  | [p] => by simp [TL.joinL]
  | p :: q :: r => by
    have ih := joinL0 (q :: r)
    show p ++ ([] ++ TL.joinL [] (q :: r)) = _
    rw [ih, List.nil_append, List.flatten_cons, List.flatten_cons, List.flatten_cons]
theorem emp_tl : TL.tl (Str.ofString "") = [] := by decide +kernel
theorem join0 (ys : List Str) : TL.tl (Txt.join (Str.ofString "") ys) = (ys.map TL.tl).flatten := by
  rw [TL.join_eq, TL.tl_join, emp_tl, joinL0]
theorem foldJ (k : Nat) : ∀ (ys : List Str) (acc m : Nat), (∀ y, y ∈ ys → y.length ≤ m) → ys.foldl (fun a y => a + y.length + k) acc ≤ acc + ys.length * (m + k)
  | [], acc, m, _ => Nat.le_add_right _ _
  | y :: ys, acc, m, h => by
    have ih := foldJ k ys (acc + y.length + k) m fun z hz => h z (List.mem_cons_of_mem _ hz)
    have h1 := h y (List.mem_cons_self ..)
    rw [List.foldl_cons, List.length_cons, Nat.succ_mul]
    omega
theorem joinOk_of {sep : Str} {ys : List Str} {m : Nat} (h : ∀ y, y ∈ ys → y.length ≤ m) (hs : sep.length ≤ 10) (hm : m ≤ 100) (hl : ys.length ≤ 100000) : JoinOk sep ys = true := by
  unfold JoinOk Builtin.Str.tooLong
  rw [Bool.not_eq_true', decide_eq_false_iff_not, sizeLine_eq]
  have := foldJ sep.length ys 0 m h
  have e : ys.toArray.foldl (fun x1 x2 => x1 + x2.length + sep.length) 0 = ys.foldl (fun a y => a + y.length + sep.length) 0 := by simp
  rw [e]
  have h2 : ys.length * (m + sep.length) ≤ 100000 * 110 := Nat.mul_le_mul hl (by omega)
  omega
theorem hexS_join (l : List Nat) : Txt.join (Str.ofString "") (l.map hx2) = hexS l := by
  apply TL.ext_tl
  rw [join0, List.map_map]
  rfl
theorem hxL_snoc (l : List Nat) (o : Nat) : hexS (l ++ [o]) = hexS l ++ ⟨#[hd16 (o / 16)]⟩ ++ ⟨#[hd16 (o % 16)]⟩ := by
  apply TL.ext_tl
  rw [TL.tl_append, TL.tl_append]
  show hxL (l ++ [o]) = hxL l ++ [_] ++ [_]
  unfold hxL
  rw [List.flatMap_append]
  simp
theorem hexS_len (l : List Nat) : (hexS l).length = 2 * l.length := by
  rw [TL.len_tl]
  show (hxL l).length = _
  unfold hxL
  induction l with
  | nil => rfl
  | cons x l ih =>
    rw [List.flatMap_cons, List.length_append, ih]
    show 2 + _ = _
    rw [List.length_cons]; omega
theorem hwhexed (A : Ad) : ∀ pr R E, Shexed A pr R E → whexed A (bxOf 1 R E) (pr ++ List.replicate 1 .no) := by
  rintro pr R E ⟨l, rfl, ho, hl, h⟩
  unfold whexed
  walk_at "st"
  walk_at "w"
  refine ⟨fun i ys ρ' => ∃ s0 s1, ρ' = [s0, s1] ∧ nio (some s1) = true ∧ ys = (l.take i).map hx2, ⟨_, .no, rfl, rfl, rfl⟩, ?_, ?_⟩
  · rintro i d ys ρ' hd ⟨s0, s1, rfl, n1, rfl⟩
    obtain ⟨x, hx, rfl⟩ := ocL_at hd
    have hx256 := ho x (List.mem_of_getElem? hx)
    walk_at "w"
    rw [shr4]
    refine ⟨HXlen, hd16 (x / 16), hx_at (by omega), ?_⟩
    walk_at "w"
    rw [and15]
    refine ⟨HXlen, hd16 (x % 16), hx_at (by omega), ?_⟩
    walk_at "w"
    · refine ⟨by rw [List.length_map, List.length_take, sizeLine_eq]; omega, _, _, rfl, rfl, ?_⟩
      rw [take_at hx, List.map_append, two_app]
      rfl
    · rw [sizeLine_eq]; show 1 + 1 ≤ 16777216; decide
  · rintro ys ρ' ⟨s0, s1, rfl, n1, rfl⟩
    rw [ocL_len, List.take_length]
    refine ⟨joinOk_of (m := 2) (fun y hy => ?_) (by decide +kernel) (by decide) (by rw [List.length_map]; omega), ?_⟩
    · obtain ⟨o, _, rfl⟩ := List.mem_map.mp hy
      exact Nat.le_refl 2
    · rw [hexS_join]
      exact h
theorem hw_law_hex (A : Ad) : ∀ pr R E, S_law_hex A pr R E → w_law_hex A (bxOf 1 R E) (pr ++ List.replicate 3 .no) := by
  rintro pr R E ⟨l, rfl, ho, hl, h⟩
  unfold w_law_hex
  walk_at "st"
  walk_at "w"
  refine s_inv (fun i ρ' => ∃ s3, ρ' = [Sl.va (ocD l), Sl.va (.str HX), Sl.va (.str (hexS (l.take i))), s3] ∧ Pl s3) ⟨.no, rfl, .no⟩ ?_ ?_
  · rintro i d ρ' hd ⟨s3, rfl, p3⟩
    have n3 := p3.nio
    obtain ⟨x, hx, rfl⟩ := ocL_at hd
    have hx256 := ho x (List.mem_of_getElem? hx)
    have hln := hexS_len (l.take i)
    rw [List.length_take] at hln
    have e1 : (x : Int).fdiv 16 = ((x / 16 : Nat) : Int) := fdiv_nat x 16
    have e2 : (x : Int) - ((x / 16 : Nat) : Int) * 16 = ((x % 16 : Nat) : Int) := by omega
    have o1 := len_one (hd16 (x / 16))
    have o2 := len_one (hd16 (x % 16))
    have hdv : CDivA (x : Int) 16 := divS (by decide) (by decide)
    have hmu : CMulX ((x : Int).fdiv 16) 16 := by rw [e1]; exact mulx_ok (a := 20) (b := 20) (by omega) (by decide) (by decide)
    walk_at "w"
    rw [e1]
    refine ⟨HXlen, hd16 (x / 16), hx_at (by omega), ?_⟩
    walk_at "w"
    · rw [e1, e2]
      refine ⟨HXlen, hd16 (x % 16), hx_at (by omega), ?_⟩
      walk_at "w"
      · refine ⟨Sl.va (nI x), ?_, .va⟩
        rw [take_at hx, hxL_snoc]
      · rw [len_app, sizeLine_eq]; omega
    · rw [sizeLine_eq]; omega
  · rintro ρ' ⟨s3, rfl, p3⟩
    rw [ocL_len, List.take_length]
    walk_at "w"
    exact h
def sgD (s : Str) (d : D) : Bool := match d with
  | .str i => occS i s
  | _ => false
open TL in
theorem chD_hx (x : Str) : (chD x).all (sgD HX) = (tl x).all isHx := by
  unfold chD
  rw [List.all_map]
  congr 1
  funext c
  show occS ⟨#[c]⟩ HX = isHx c
  rw [occ_in, hx_in]
theorem hwis_hex (A : Ad) : ∀ pr R E, Sis_hex A pr R E → wis_hex A (bxOf 1 R E) (pr ++ List.replicate 1 .no) := by
  rintro pr R E ⟨x, rfl, hx, h⟩
  rw [← chD_hx] at h
  unfold wis_hex
  walk_at "st"
  walk_at "w"
  refine s_allP (sgD HX) (fun ρ' => ∃ s0 s1, ρ' = [s0, s1] ∧ nio (some s1) = true) (fun e => by rw [e] at h; exact h) (fun e => by rw [e] at h; exact h) (by exact ⟨_, .no, rfl, rfl⟩) ?_
  rintro i d ρ' hd ⟨s0, s1, rfl, n1⟩ hF hU
  obtain ⟨c, hc, rfl⟩ := get_map hd
  walk_at "w"
  refine all_fin2 rfl hd hF hU ?_
  exact ⟨_, _, rfl, rfl⟩
theorem rgc2 (m : Nat) (h : m ≤ 100000) : RgC 0 ((2 * m : Nat) : Int) 2 m := by
  have e : Builtin.Range.rangeSize 0 ((2 * m : Nat) : Int) 2 = (m : Int) := by
    unfold Builtin.Range.rangeSize
    rw [if_pos (by decide)]
    split <;> omega
  refine ⟨by decide, by decide, ?_, e⟩
  have f : ∀ i : Int, 0 ≤ i → i ≤ 1000000 → Builtin.Range.rangeFitsLong i = true := fun i h1 h2 => by
    unfold Builtin.Range.rangeFitsLong
    rw [decide_eq_true (by omega), decide_eq_true (by omega)]; rfl
  unfold Builtin.Range.small
  rw [e]
  simp only [f 0 (by decide) (by decide), f 2 (by decide) (by decide), f (m : Int) (by omega) (by omega), f ((2 * m : Nat) : Int) (by omega) (by omega), Bool.true_and]
  rw [if_pos (by decide), f _ (by omega) (by omega), Bool.or_true]
theorem rngC_at {m i : Nat} {d : D} (h : (rngC 0 2 m)[i]? = some d) : d = .int ((2 * i : Nat) : Int) ∧ i < m := by
  unfold rngC at h
  obtain ⟨k, hk, rfl⟩ := get_map h
  obtain ⟨a, b⟩ := List.getElem?_eq_some_iff.mp hk
  rw [List.getElem_range] at b
  subst b
  rw [List.length_range] at a
  refine ⟨?_, a⟩
  congr 1
  omega
/-- the octet of two signs -/
def byteAt (L : List Nat) (d : D) : D := match d with
  | .int a => nI (16 * (L[a.toNat]?.getD 0) + L[a.toNat + 1]?.getD 0)
  | _ => .none
theorem unh_map : ∀ (m : Nat) (l : List Nat), l.length = 2 * m → (List.range m).map (fun k => 16 * (((l.map hv)[2 * k]?).getD 0) + ((l.map hv)[2 * k + 1]?).getD 0) = unhL l
  | 0, l, h => by rw [List.length_eq_zero_iff.mp h]; rfl
  | m + 1, a :: b :: r, h => by
    have ih := unh_map m r (by simp at h; omega)
    rw [List.range_succ_eq_map, List.map_cons, List.map_map]
    show _ :: _ = (16 * hv a + hv b) :: unhL r
    rw [← ih]
    congr 1
  | m + 1, [], h => by simp at h
  | m + 1, [a], h => by simp at h; omega
theorem byte_map (m : Nat) (l : List Nat) (h : l.length = 2 * m) : (rngC 0 2 m).map (byteAt (l.map hv)) = ocL (unhL l) := by
  rw [← unh_map m l h]
  unfold rngC ocL
  rw [List.map_map, List.map_map]
  refine List.map_congr_left fun k _ => ?_
  show byteAt (l.map hv) (.int (0 + (k : Nat) * 2)) = nI _
  unfold byteAt
  have e : (0 + (k : Int) * 2).toNat = 2 * k := by omega
  dsimp only
  rw [e]
theorem hex_par {l : List Nat} : hexOk l = true ↔ (∃ m, l.length = 2 * m) ∧ ∀ c, c ∈ l → isHx c = true := by
  unfold hexOk
  rw [Bool.and_eq_true, decide_eq_true_iff, List.all_eq_true]
  exact ⟨fun h => ⟨⟨l.length / 2, by omega⟩, h.2⟩, fun ⟨⟨m, h⟩, k⟩ => ⟨by omega, k⟩⟩
def fdD (d : D) : D := match d with
  | .str c => .int (Txt.find HX c)
  | _ => .none
open TL in
theorem fd_map {x : Str} (h : ∀ c, c ∈ tl x → isHx c = true) : (chD x).map fdD = ocL ((tl x).map hv) := by
  unfold chD ocL
  rw [List.map_map, List.map_map]
  refine List.map_congr_left fun c hc => ?_
  show PyData.int (Txt.find HX ⟨#[c]⟩) = nI (hv c)
  rw [hx_find (h c hc)]
theorem chD_len (x : Str) : (chD x).length = x.length := by rw [TL.len_tl]; exact List.length_map _
theorem atI_nat {l : List Nat} {i x : Nat} (h : l[i]? = some x) : atI (ocL l) (i : Int) = some (nI x) := by
  have hi := (List.getElem?_eq_some_iff.mp h).1
  unfold atI ixN
  rw [if_pos (by omega), ocL_len, if_pos (by omega)]
  show (ocL l)[(i : Int).toNat]? = _
  unfold ocL
  rw [Int.toNat_natCast, List.getElem?_map, h]
  rfl
open TL in
theorem hwunhexed (A : Ad) : ∀ pr R E, Sunhexed A pr R E → wunhexed A (bxOf 1 R E) (pr ++ List.replicate 3 .no) := by
  rintro pr R E ⟨x, rfl, hx, h1, h2⟩
  have hl := len_tl x
  have hz : x.length ≤ sizeLine := by rw [sizeLine_eq]; omega
  have ef : (x.length : Int).fmod 2 = ((x.length % 2 : Nat) : Int) := fmod_nat _ 2
  unfold wunhexed
  walk_at "st"
  walk_at "w"
  refine ⟨hz, ?_⟩
  walk_at "w"
  rw [ef]
  refine s_ifd (fun h3 => ?_) fun h3 => ?_
  · walk_at "w"
    refine h1 ?_
    unfold hexOk
    rw [decide_eq_false (by omega), Bool.false_and]
  · obtain ⟨m, hm⟩ : ∃ m, x.length = 2 * m := ⟨x.length / 2, by omega⟩
    walk_at "w"
    · refine ⟨hz, ?_⟩
      walk_at "w"
      · refine s_ifd (fun z => absurd z (by omega)) fun _ => ?_
        walk_at "w"
        refine ⟨hx, ?_⟩
        walk_at "w"
        cases hh : (tl x).all isHx with
        | false =>
          walk_at "w"
          refine h1 ?_
          unfold hexOk
          rw [hh, Bool.and_false]
        | true =>
          have hall := List.all_eq_true.mp hh
          have hok : hexOk (tl x) = true := hex_par.mpr ⟨⟨m, by omega⟩, hall⟩
          walk_at "w"
          refine s_lcm fdD (by rw [chD_len, sizeLine_eq]; omega) ?_ ?_
          · intro i d acc hd hacc hae
            have hd' := hd
            obtain ⟨c, hc, rfl⟩ := get_map hd'
            refine ⟨⟨trivial, trivial⟩, ?_⟩
            walk_at "w"
            exact ⟨hacc, ⟨trivial, trivial⟩, rfl, lcm_fin hd hae rfl⟩
          · rw [fd_map hall]
            walk_at "w"
            rw [ocL_len, List.length_map, ← hl, hm]
            refine ⟨_, _, _, _, rfl, rgc2 m (by omega), ?_⟩
            refine s_lcm (byteAt ((tl x).map hv)) (by unfold rngC; rw [List.length_map, List.length_range, sizeLine_eq]; omega) ?_ ?_
            · intro i d acc hd hacc hae
              have hd' := hd
              obtain ⟨rfl, hi⟩ := rngC_at hd'
              obtain ⟨a, ha⟩ : ∃ a, (tl x)[2 * i]? = some a := ⟨_, List.getElem?_eq_getElem (by omega)⟩
              obtain ⟨b, hb⟩ : ∃ b, (tl x)[2 * i + 1]? = some b := ⟨_, List.getElem?_eq_getElem (by omega)⟩
              have ha2 : ((tl x).map hv)[2 * i]? = some (hv a) := by rw [List.getElem?_map, ha]; rfl
              have hb2 : ((tl x).map hv)[2 * i + 1]? = some (hv b) := by rw [List.getElem?_map, hb]; rfl
              have la := hv_lt (hall a (List.mem_of_getElem? ha))
              have lb := hv_lt (hall b (List.mem_of_getElem? hb))
              have hsh : CShl ((hv a : Nat) : Int) 4 := shl_ok (n := 10) (j := 4) (by omega) (by decide)
              refine ⟨⟨trivial, trivial⟩, ?_⟩
              walk_at "w"
              refine s_ixl _ (atI_nat ha2) ?_
              walk_at "w"
              rw [show ((2 * i : Nat) : Int) + 1 = ((2 * i + 1 : Nat) : Int) by omega]
              refine s_ixl _ (atI_nat hb2) ?_
              walk_at "w"
              refine ⟨hacc, ⟨trivial, trivial⟩, rfl, lcm_fin hd hae ?_⟩
              have e1 : (2 : Int) ^ (4 : Int).toNat = 2 ^ 4 := rfl
              rw [e1, Bits.bitOr_join' (k := 4) (by omega) (by omega) (by omega)]
              unfold byteAt
              dsimp only
              rw [Int.toNat_natCast, ha2, hb2]
              show PyData.int _ = PyData.int _
              congr 1
              show _ = ((16 * hv a + hv b : Nat) : Int)
              omega
            · rw [byte_map m _ (by omega)]
              walk_at "w"
              exact h2 hok
      · exact mulx_ok (a := 20) (b := 20) (by decide) (by decide) (by decide)
def ordD (d : D) : D := match d with
  | .str c => .int (c.cps.getD 0 0 : Nat)
  | _ => .none
open TL in
theorem ord_map {x : Str} : (chD x).map ordD = ocL (tl x) := by
  unfold chD ocL
  rw [List.map_map]
  refine List.map_congr_left fun c hc => ?_
  rfl
open TL in
theorem hwof_text (A : Ad) : ∀ pr R E, Sof_text A pr R E → wof_text A (bxOf 1 R E) (pr ++ List.replicate 3 .no) := by
  rintro pr R E ⟨x, rfl, hx, hc, h⟩
  unfold wof_text
  walk_at "st"
  walk_at "w"
  refine s_lcm ordD (by rw [chD_len, sizeLine_eq]; omega) ?_ ?_
  · intro i d acc hd hacc hae
    have hd' := hd
    obtain ⟨c, _, rfl⟩ := get_map hd'
    refine ⟨⟨trivial, trivial⟩, ?_⟩
    walk_at "w"
    exact ⟨hacc, ⟨trivial, trivial⟩, rfl, lcm_fin hd hae rfl⟩
  · rw [ord_map]
    walk_at "w"
    refine ⟨fun i ρ' => ∃ s0 s1 s2 s3, ρ' = [s0, s1, s2, s3] ∧ nio (some s3) = true, ⟨_, _, _, .no, rfl, rfl⟩, ?_, ?_⟩
    · rintro i d ρ' hd ⟨s0, s1, s2, s3, rfl, n3⟩
      obtain ⟨c, hcm, rfl⟩ := ocL_at hd
      have := hc c (List.mem_of_getElem? hcm)
      walk_at "w"
      refine s_ifd (fun z => absurd z (by omega)) fun _ => ?_
      exact ⟨_, _, _, _, rfl, rfl⟩
    · rintro ρ' ⟨s0, s1, s2, s3, rfl, n3⟩
      walk_at "w"
      exact h
theorem sh_strs {ws : List Str} (h : ∀ w, w ∈ ws → loT w) : SeqAt.shaped (.list (ws.map PyData.str)) = true := strs_sh h
theorem ne_emp {ws : List Str} {k : D → Prop} (h : ∀ w, w ∈ ws → loT w) (hk : k (.bool (!ws.isEmpty))) : fNe (.list (ws.map PyData.str)) (.list []) k := by
  refine ⟨strs_sh h, by decide, ?_⟩
  cases ws with
  | nil => exact hk
  | cons w ws => exact hk
open TL in
theorem hw_law_unhex (A : Ad) : ∀ pr R E, S_law_unhex A pr R E → w_law_unhex A (bxOf 1 R E) (pr ++ List.replicate 3 .no) := by
  rintro pr R E ⟨x, rfl, hx, hlo, h⟩
  have hl := len_tl x
  have hz : x.length ≤ sizeLine := by rw [sizeLine_eq]; omega
  have ed : (x.length : Int).fdiv 2 = ((x.length / 2 : Nat) : Int) := fdiv_nat _ 2
  have hdv : CDivA (x.length : Int) 2 := divS (by decide) (by decide)
  have hmu : CMulX ((x.length : Int).fdiv 2) 2 := by rw [ed]; exact mulx_ok (a := 20) (b := 20) (by omega) (by decide) (by decide)
  unfold w_law_unhex
  walk_at "st"
  walk_at "w"
  refine ⟨hz, ?_⟩
  walk_at "w"
  refine ⟨hz, ?_⟩
  walk_at "w"
  rw [ed]
  refine s_ifn (fun h3 => ?_) fun h3 => ?_
  · have e : unhD (tl x) = .str "Malformed" := by
      unfold unhD hexOk
      rw [decide_eq_false (by omega), Bool.false_and, if_neg (by decide)]
    rw [e] at h
    walk_at "w"
    exact h
  · obtain ⟨m, hm⟩ : ∃ m, x.length = 2 * m := ⟨x.length / 2, by omega⟩
    walk_at "w"
    refine ⟨fun i acc ρ' => ρ' = [Sl.va (.str x), Sl.va (.str HX), .no, .no] ∧ acc = ((((tl x).take i).filter fun c => !isHx c).map fun c => (⟨#[c]⟩ : Str)).map PyData.str ∧ i ≤ (chD x).length, ⟨rfl, rfl, Nat.zero_le _⟩, ?_, ?_⟩
    · rintro i d acc ρ' hd ⟨rfl, rfl, hi⟩
      obtain ⟨c, hc, rfl⟩ := get_map hd
      have hc : (tl x)[i]? = some c := hc
      have hlt := (List.getElem?_eq_some_iff.mp hd).1
      refine ⟨⟨trivial, trivial⟩, ?_⟩
      walk_at "w"
      rw [occ_in, hx_in]
      have ht : (tl x).take (i + 1) = (tl x).take i ++ [c] := by rw [List.take_add_one, hc]; rfl
      cases hx2 : isHx c with
      | false =>
        walk_at "w"
        refine ⟨?_, ⟨trivial, trivial⟩, rfl, ?_, hlt⟩
        · rw [List.length_map, List.length_map, sizeLine_eq]
          have := List.length_filter_le (fun c => !isHx c) ((tl x).take i)
          rw [List.length_take] at this
          omega
        · rw [ht, List.filter_append, List.map_append, List.map_append]
          simp [hx2]
      | true =>
        walk_at "w"
        refine ⟨rfl, ?_, hlt⟩
        rw [ht, List.filter_append]
        simp [hx2]
    · rintro acc ρ' ⟨rfl, rfl, _⟩
      rw [chD_len, hl, List.take_length]
      walk_at "w"
      refine ne_emp (fun w hw => ?_) ?_
      · obtain ⟨c, hc, rfl⟩ := List.mem_map.mp hw
        exact lo_one (hlo c (List.mem_filter.mp hc).1)
      · cases hh : (tl x).all isHx with
        | false =>
          obtain ⟨c, hc, hf⟩ := List.all_eq_false.mp hh
          have e : ((((tl x).filter fun c => !isHx c).map fun c => (⟨#[c]⟩ : Str)).isEmpty) = false := by
            cases hq : ((tl x).filter fun c => !isHx c) with
            | nil =>
              have : c ∈ (tl x).filter fun c => !isHx c := List.mem_filter.mpr ⟨hc, by simp [hf]⟩
              rw [hq] at this
              cases this
            | cons a r => rfl
          rw [e]
          have e2 : unhD (tl x) = .str "Malformed" := by
            unfold unhD hexOk
            rw [hh, Bool.and_false, if_neg (by decide)]
          rw [e2] at h
          walk_at "w"
          exact h
        | true =>
          have hall := List.all_eq_true.mp hh
          have e : ((((tl x).filter fun c => !isHx c).map fun c => (⟨#[c]⟩ : Str)).isEmpty) = true := by
            have : (tl x).filter (fun c => !isHx c) = [] := by
              rw [List.filter_eq_nil_iff]
              intro c hc
              rw [hall c hc]
              decide
            rw [this]
            rfl
          rw [e]
          have hok : hexOk (tl x) = true := hex_par.mpr ⟨⟨m, by omega⟩, hall⟩
          have e2 : unhD (tl x) = ocD (unhL (tl x)) := if_pos hok
          rw [e2] at h
          walk_at "w"
          refine ⟨hz, ?_⟩
          walk_at "w"
          rw [hm]
          refine ⟨_, _, _, _, rfl, rgc2 m (by omega), ?_⟩
          refine s_lcm (byteAt ((tl x).map hv)) (by unfold rngC; rw [List.length_map, List.length_range, sizeLine_eq]; omega) ?_ ?_
          · intro i d acc hd hacc hae
            have hd' := hd
            obtain ⟨rfl, hi⟩ := rngC_at hd'
            obtain ⟨a, ha⟩ : ∃ a, (tl x)[2 * i]? = some a := ⟨_, List.getElem?_eq_getElem (by omega)⟩
            obtain ⟨b, hb⟩ : ∃ b, (tl x)[2 * i + 1]? = some b := ⟨_, List.getElem?_eq_getElem (by omega)⟩
            have ha2 : ((tl x).map hv)[2 * i]? = some (hv a) := by rw [List.getElem?_map, ha]; rfl
            have hb2 : ((tl x).map hv)[2 * i + 1]? = some (hv b) := by rw [List.getElem?_map, hb]; rfl
            have oa := hx_occ (hall a (List.mem_of_getElem? ha))
            have ob := hx_occ (hall b (List.mem_of_getElem? hb))
            have at1 : ∀ {j c : Nat}, (tl x)[j]? = some c → atI x.cps.toList (j : Int) = some c := fun {j c} q => by
              have hj := (List.getElem?_eq_some_iff.mp q).1
              unfold atI ixN
              rw [if_pos (by omega), if_pos (by show (j : Int) < ((tl x).length : Int); omega)]
              show (tl x)[(j : Int).toNat]? = _
              rw [Int.toNat_natCast]; exact q
            have lb := hv_lt (hall b (List.mem_of_getElem? hb))
            obtain ⟨ra, oa⟩ := oa
            obtain ⟨rb, ob⟩ := ob
            have la := hv_lt (hall a (List.mem_of_getElem? ha))
            have hm16 : CMulX 16 ((hv a : Nat) : Int) := mulx_ok (a := 20) (b := 20) (by decide) (by omega) (by decide)
            refine ⟨⟨trivial, trivial⟩, ?_⟩
            walk_at "w"
            refine ⟨hz, a, at1 ha, ?_⟩
            walk_at "w"
            refine ⟨_, ra, oa, ?_⟩
            walk_at "w"
            rw [show ((2 * i : Nat) : Int) + 1 = ((2 * i + 1 : Nat) : Int) by omega]
            refine ⟨hz, b, at1 hb, ?_⟩
            walk_at "w"
            refine ⟨_, rb, ob, ?_⟩
            walk_at "w"
            refine ⟨hacc, ⟨trivial, trivial⟩, rfl, lcm_fin hd hae ?_⟩
            unfold byteAt
            dsimp only
            rw [Int.toNat_natCast, ha2, hb2]
            rfl
          · rw [byte_map m _ (by omega)]
            walk_at "w"
            exact h
theorem hw_law_bent (A : Ad) : ∀ pr R E, S_law_bent A pr R E → w_law_bent A (bxOf 2 R E) (pr ++ List.replicate 2 .no) := by
  rintro pr R E ⟨ms, x, rfl, hx, hlo, h⟩
  have hz : x.length ≤ sizeLine := by rw [sizeLine_eq]; omega
  have hx' : x.length ≤ 1000 := by omega
  unfold w_law_bent
  walk_at "st"
  walk_at "w"
  refine ⟨hz, ?_⟩
  walk_at "w"
  refine ⟨ms, _, rfl, by omega, hi100 (by omega), fun r1 ms1 a1 b1 => ?_⟩
  obtain ⟨k, rfl⟩ : ∃ k : Nat, r1 = k := ⟨r1.toNat, by omega⟩
  walk_at "w"
  refine ⟨ms1, 9, rfl, by decide, by decide, fun r2 ms2 a2 b2 => ?_⟩
  walk_at "w"
  have hlen : (Str.ofString "0f9aG gA-").cps.toList.length = 9 := by decide +kernel
  obtain ⟨c, hcm, hca⟩ := atI_anym (l := (Str.ofString "0f9aG gA-").cps.toList) (i := r2) a2 (by rw [hlen]; omega)
  have hc8 := all_lo (Str.ofString "0f9aG gA-") (by decide +kernel) c hcm
  have hcl := len_cutS x k
  have ho := len_one c
  have lc : ∀ lo hi, (cutS x lo hi).length ≤ x.length := fun lo hi => cutS_length x lo hi
  have l1 := lc none (some (k : Int))
  have l2 := lc (some (k : Int)) none
  have l3 := lc (some ((k : Int) + 1)) none
  have l4 : (cutS x none (some (k : Int))).length + (cutS x (some ((k : Int) + 1)) none).length ≤ x.length := by
    rw [TL.len_tl, TL.len_tl, cut_to, show (k : Int) + 1 = ((k + 1 : Nat) : Int) by omega, cut_from, List.length_take, List.length_drop, TL.len_tl]
    omega
  refine ⟨by rw [sizeLine_eq]; decide +kernel, c, hca, ?_⟩
  repeat (first | (refine ⟨_, _, rfl, slv hx', ?_⟩) | walk_at "w1")
  · refine ⟨ms2, 4, rfl, by decide, by decide, fun r3 ms3 a3 b3 => ?_⟩
    walk_at "w"
    have hall : ∃ y : Str, atI [PyData.str (cutS x none (some (k : Int)) ++ ⟨#[c]⟩ ++ cutS x (some (k : Int)) none), PyData.str (cutS x none (some (k : Int)) ++ cutS x (some ((k : Int) + 1)) none), PyData.str (cutS x none (some (k : Int)) ++ ⟨#[c]⟩ ++ cutS x (some ((k : Int) + 1)) none), PyData.str x] r3 = some (.str y) ∧ y.length ≤ x.length + 1 ∧ loT y := by
      obtain rfl | rfl | rfl | rfl : r3 = 0 ∨ r3 = 1 ∨ r3 = 2 ∨ r3 = 3 := by omega
      · exact ⟨_, rfl, by rw [len_app, len_app]; omega, loT_app (loT_app (loT_cut hlo _ _) (lo_one hc8)) (loT_cut hlo _ _)⟩
      · exact ⟨_, rfl, by rw [len_app]; omega, loT_app (loT_cut hlo _ _) (loT_cut hlo _ _)⟩
      · exact ⟨_, rfl, by rw [len_app, len_app]; omega, loT_app (loT_app (loT_cut hlo _ _) (lo_one hc8)) (loT_cut hlo _ _)⟩
      · exact ⟨_, rfl, by omega, hlo⟩
    obtain ⟨y, hya, hyl, hyo⟩ := hall
    refine s_ixl _ hya ?_
    exact h y ms3 hyl hyo
  all_goals (simp only [len_app, sizeLine_eq]; omega)

theorem s_while {t : WT} {wb : WS} {nx rt rf bk ct rs} {ρ : En} (Inv : Nat → En → Prop) (h0 : ∃ m, Inv m ρ) (h : ∀ m ρ', Inv m ρ' → t ρ' (fun c ρ1 => if c = true then wb ⟨fun ρ2 => ∃ m', m' < m ∧ Inv m' ρ2, rt, rf, nx, fun ρ2 => ∃ m', m' < m ∧ Inv m' ρ2, rs⟩ ρ1 else nx ρ1) rs) : wWhile t wb ⟨nx, rt, rf, bk, ct, rs⟩ ρ := ⟨Inv, h0, h⟩
theorem ocL_app (a b : List Nat) : ocL (a ++ b) = ocL a ++ ocL b := List.map_append
theorem ocsL_at {ls : List (List Nat)} {i : Nat} {d : D} (h : (ocsL ls)[i]? = some d) : ∃ x, ls[i]? = some x ∧ d = ocD x := by
  obtain ⟨x, h1, h2⟩ := get_map h
  exact ⟨x, h1, h2.symm⟩
theorem ocsL_len (ls : List (List Nat)) : (ocsL ls).length = ls.length := List.length_map _
theorem fits4 {n : Nat} (h : n ≤ 300) : fits (n : Int) 4 = true := by
  unfold fits isNum
  rw [Bool.and_eq_true, Bool.and_eq_true, Bool.and_eq_true, decide_eq_true_iff, decide_eq_true_iff, decide_eq_true_iff, decide_eq_true_iff]
  refine ⟨by decide, by omega, ?_⟩
  show (n : Int) < 256 ^ 4
  omega
theorem take_snoc {α : Type} {l : List α} {i : Nat} {x : α} (h : l[i]? = some x) : l.take (i + 1) = l.take i ++ [x] := by
  rw [List.take_add_one, h]; rfl
theorem Ocs.take {ls : List (List Nat)} (h : Ocs ls) (i : Nat) : Ocs (ls.take i) := ⟨by rw [List.length_take]; have := h.1; omega, fun l hl => h.2 l (List.mem_of_mem_take hl)⟩
theorem pack_le {ls : List (List Nat)} (h : Ocs ls) : (packL ls).length ≤ 1824 := by
  have a := pack_len h.2
  have b := h.1
  omega
theorem hwpacked (A : Ad) : ∀ pr R E, Spacked A pr R E → wpacked A (bxOf 1 R E) (pr ++ List.replicate 2 .no) := by
  rintro pr R E ⟨ls, rfl, ho, h⟩
  unfold wpacked
  walk_at "st"
  walk_at "w"
  refine s_inv (fun i ρ' => ∃ s2, ρ' = [Sl.va (ocsD ls), Sl.ow (ocL (packL (ls.take i))), s2] ∧ Pl s2) ⟨.no, rfl, .no⟩ ?_ ?_
  · rintro i d ρ' hd ⟨s2, rfl, p2⟩
    have n2 := p2.nio
    obtain ⟨l, hl, rfl⟩ := ocsL_at hd
    have hlm := List.mem_of_getElem? hl
    obtain ⟨o1, o2⟩ := ho.2 l hlm
    have b1 := pack_le (ho.take i)
    walk_at "w"
    rw [ocL_len]
    refine ⟨(l.length : Int), 4, rfl, (fun z => by rw [fits4 o2] at z; cases z), fun _ => ?_⟩
    have hB := beN_len 4 l.length
    rw [show (4 : Int).toNat = 4 from rfl, Int.toNat_natCast]
    have hP : packL (ls.take (i + 1)) = packL (ls.take i) ++ (beN 4 l.length ++ l) := by rw [take_snoc hl, pack_snoc]
    generalize beN 4 l.length = B at hB hP ⊢
    walk_at "w"
    refine ⟨by rw [ocL_len, ocL_len, hB, sizeLine_eq]; omega, ?_⟩
    walk_at "w"
    refine ⟨by rw [List.length_append, ocL_len, ocL_len, ocL_len, hB, sizeLine_eq]; omega, Sl.va (ocD l), ?_, .va⟩
    rw [hP, ocL_app, ocL_app, List.append_assoc]
    rfl
  · rintro ρ' ⟨s2, rfl, p2⟩
    rw [ocsL_len, List.take_length]
    walk_at "w"
    exact h
theorem hw_law_pack (A : Ad) : ∀ pr R E, S_law_pack A pr R E → w_law_pack A (bxOf 1 R E) (pr ++ List.replicate 2 .no) := by
  rintro pr R E ⟨ls, rfl, ho, h⟩
  unfold w_law_pack
  walk_at "st"
  walk_at "w"
  refine s_inv (fun i ρ' => ∃ s2, ρ' = [Sl.va (ocsD ls), Sl.va (ocD (packL (ls.take i))), s2] ∧ Pl s2) ⟨.no, rfl, .no⟩ ?_ ?_
  · rintro i d ρ' hd ⟨s2, rfl, p2⟩
    have n2 := p2.nio
    obtain ⟨l, hl, rfl⟩ := ocsL_at hd
    have hlm := List.mem_of_getElem? hl
    obtain ⟨o1, o2⟩ := ho.2 l hlm
    have b1 := pack_le (ho.take i)
    have hdv : CDivA (l.length : Int) 256 := divS (by decide) (by decide)
    have e1 : (l.length : Int).fdiv 256 = ((l.length / 256 : Nat) : Int) := fdiv_nat _ 256
    have hmu : CMulX ((l.length : Int).fdiv 256) 256 := by rw [e1]; exact mulx_ok (a := 20) (b := 20) (by omega) (by decide) (by decide)
    have e2 : (l.length : Int) - ((l.length / 256 : Nat) : Int) * 256 = ((l.length % 256 : Nat) : Int) := by omega
    have el := ocL_len l
    rw [← el] at hdv hmu e1 e2
    walk_at "w"
    rw [e1, e2, el]
    refine ⟨by rw [ocL_len, sizeLine_eq]; show _ + 4 ≤ _; omega, ?_⟩
    walk_at "w"
    refine ⟨by rw [List.length_append, ocL_len, ocL_len, sizeLine_eq]; show _ + 4 + _ ≤ _; omega, ?_⟩
    refine ⟨Sl.va (ocD l), ?_, .va⟩
    rw [take_snoc hl, pack_snoc, beN4 (by omega)]
    show [Sl.va _, Sl.va (PyData.tuple _), Sl.va _] = [Sl.va _, Sl.va (PyData.tuple _), Sl.va _]
    rw [ocL_app, ocL_app, List.append_assoc]
    rfl
  · rintro ρ' ⟨s2, rfl, p2⟩
    rw [ocsL_len, List.take_length]
    walk_at "w"
    exact h
theorem ocsL_snoc (ls : List (List Nat)) (l : List Nat) : ocsL ls ++ [ocD l] = ocsL (ls ++ [l]) := by
  unfold ocsL
  rw [List.map_append]
  rfl
theorem num4 {l : List Nat} (h : Oc l) : numN (l.take 4) < 2 ^ 32 := by
  have a := numN_lt (h.take 4)
  refine Nat.lt_of_lt_of_le a ?_
  exact Nat.le_trans (Nat.pow_le_pow_right (n := 256) (by decide) (show (l.take 4).length ≤ 4 by rw [List.length_take]; omega)) (by decide)
theorem hwunpacked (A : Ad) : ∀ pr R E, Sunpacked A pr R E → wunpacked A (bxOf 1 R E) (pr ++ List.replicate 3 .no) := by
  rintro pr R E ⟨l, rfl, ho, hl, h1, h2⟩
  unfold wunpacked
  walk_at "st"
  walk_at "w"
  refine s_while (fun m ρ' => ∃ (a : Nat) (ls : List (List Nat)) (s3 : Sl), ρ' = [Sl.va (ocD l), Sl.ow (ocsL ls), Sl.va (nI a), s3] ∧ Pl s3 ∧ a ≤ l.length ∧ m = l.length - a ∧ ls.length ≤ a ∧ unpA l = (unpA (l.drop a)).map (ls ++ ·)) ⟨_, 0, [], .no, rfl, .no, Nat.zero_le _, rfl, Nat.le_refl _, by rw [List.drop_zero]; cases unpA l <;> rfl⟩ ?_
  rintro m ρ' ⟨a, ls, s3, rfl, p3, ha, hm, hls, hu⟩
  have n3 := p3.nio
  walk_at "w"
  rw [ocL_len]
  have hod := ho.drop a
  have hld : (l.drop a).length = l.length - a := List.length_drop
  have hn4 := num4 hod
  refine s_ifd (fun h3 => ?_) fun h3 => ?_
  · walk_at "w"
    rw [show (a : Int) + 4 = ((a + 4 : Nat) : Int) by omega, ocD_cut, show a + 4 - a = 4 by omega]
    walk_at "w"
    refine ⟨hod.take 4, by rw [List.length_take]; omega, ?_⟩
    walk_at "w"
    rw [ocL_len]
    refine s_ifd (fun h4 => ?_) fun h4 => ?_
    · walk_at "w"
      refine h1 ?_
      rw [hu, unpA_short (fun z => by rw [z] at hld; simp at hld; omega) (by omega)]
      rfl
    · walk_at "w"
      rw [show ((a + 4 : Nat) : Int) + ((numN ((l.drop a).take 4) : Nat) : Int) = ((a + 4 + numN ((l.drop a).take 4) : Nat) : Int) by omega, ocD_cut, show a + 4 + numN ((l.drop a).take 4) - (a + 4) = numN ((l.drop a).take 4) by omega]
      walk_at "w"
      refine ⟨by rw [ocsL_len, sizeLine_eq]; omega, l.length - (a + 4 + numN ((l.drop a).take 4)), by omega, a + 4 + numN ((l.drop a).take 4), ls ++ [((l.drop (a + 4)).take (numN ((l.drop a).take 4)))], Sl.va (nI (a + 4)), ?_, .va, by omega, rfl, by rw [List.length_append, List.length_singleton]; omega, ?_⟩
      · rw [← ocsL_snoc]
        rfl
      · rw [hu, unpA_step (by omega), List.drop_drop, List.drop_drop, ← Nat.add_assoc]
        cases unpA (l.drop (a + 4 + numN ((l.drop a).take 4))) with
        | none => rfl
        | some q => simp
  · walk_at "w"
    refine h2 ls ?_
    rw [hu, List.drop_of_length_le (by omega), unpA_nil]
    show some (ls ++ []) = some ls
    rw [List.append_nil]
theorem sh_int (l : List Nat) : SeqAt.shaped (ocD l) = true := by
  have h1 : PyData.canLayAll0 (ocL l) = true := by
    induction l with
    | nil => rfl
    | cons d ds ih =>
      show ((nI d).canLay0 && PyData.canLayAll0 (ocL ds)) = true
      rw [ih]
      rfl
  have h2 : PyData.depthAll (ocL l) ≤ 0 := by
    clear h1
    induction l with
    | nil => exact Nat.zero_le _
    | cons d ds ih =>
      show max (nI d).depth (PyData.depthAll (ocL ds)) ≤ 0
      have : (nI d).depth = 0 := rfl
      omega
  show (PyData.canLayAll0 (ocL l) && decide ((ocD l).depth ≤ 64)) = true
  rw [h1]
  refine decide_eq_true ?_
  show PyData.depthAll (ocL l) + 1 ≤ 64
  omega
theorem eq_emp {l : List Nat} {k : D → Prop} (h : k (.bool l.isEmpty)) : fEq (ocD l) (.tuple []) k := by
  refine ⟨sh_int l, by decide, ?_⟩
  cases l with
  | nil => exact h
  | cons x l => exact h
theorem hw_law_unpack (A : Ad) : ∀ pr R E, S_law_unpack A pr R E → w_law_unpack A (bxOf 1 R E) (pr ++ List.replicate 4 .no) := by
  rintro pr R E ⟨l, rfl, ho, hl, h⟩
  unfold w_law_unpack
  walk_at "st"
  walk_at "w"
  rw [ocL_len]
  refine ⟨by omega, s_inv (fun i ρ' => ∃ (a : Nat) (ls : List (List Nat)) (s3 s4 : Sl), ρ' = [Sl.va (ocD l), Sl.ow (ocsL ls), Sl.va (ocD (l.drop a)), s3, s4] ∧ Pl s3 ∧ Pl s4 ∧ a ≤ l.length ∧ i ≤ a ∧ ls.length ≤ a ∧ unpA l = (unpA (l.drop a)).map (ls ++ ·)) ⟨0, [], .no, .no, by rw [List.drop_zero]; rfl, .no, .no, Nat.zero_le _, Nat.le_refl _, Nat.le_refl _, by rw [List.drop_zero]; cases unpA l <;> rfl⟩ ?_ ?_⟩
  · rintro i d ρ' hd ⟨a, ls, s3, s4, rfl, p3, p4, ha, hia, hls, hu⟩
    have n3 := p3.nio
    have n4 := p4.nio
    have hod := ho.drop a
    have hld : (l.drop a).length = l.length - a := List.length_drop
    have hn4 := num4 hod
    walk_at "w"
    refine eq_emp ?_
    cases he : (l.drop a).isEmpty with
    | true =>
      have e : l.drop a = [] := List.isEmpty_iff.mp he
      have e2 : unpD l = ocsD ls := by
        unfold unpD
        rw [hu, e, unpA_nil]
        show ocsD (ls ++ []) = _
        rw [List.append_nil]
      rw [e2] at h
      walk_at "w"
      exact h
    | false =>
      have hne : l.drop a ≠ [] := fun z => by rw [z] at he; cases he
      walk_at "w"
      rw [show (4 : Int) = ((4 : Nat) : Int) from rfl, ocD_to]
      walk_at "w"
      refine ⟨hod.take 4, by rw [List.length_take]; omega, ?_⟩
      have ed : (l.drop a).drop (4 + numN ((l.drop a).take 4)) = l.drop (a + (4 + numN ((l.drop a).take 4))) := List.drop_drop
      have bad : (l.drop a).length < 4 + numN ((l.drop a).take 4) → unpD l = .str "Malformed" := fun z => by
        unfold unpD
        rw [hu, unpA_short hne z]
        rfl
      walk_at "w"
      rw [ocL_len]
      refine s_ifd (fun h3 => ?_) fun h3 => ?_
      · rw [bad (by omega)] at h
        walk_at "w"
        exact h
      · walk_at "w"
        rw [ocL_len]
        refine s_ifd (fun h4 => ?_) fun h4 => ?_
        · rw [bad (by omega)] at h
          walk_at "w"
          exact h
        · walk_at "w"
          rw [show (4 : Int) = ((4 : Nat) : Int) from rfl, show ((4 : Nat) : Int) + ((numN ((l.drop a).take 4) : Nat) : Int) = ((4 + numN ((l.drop a).take 4) : Nat) : Int) by omega, ocD_cut, show 4 + numN ((l.drop a).take 4) - 4 = numN ((l.drop a).take 4) by omega]
          walk_at "w"
          refine ⟨by rw [ocsL_len, sizeLine_eq]; omega, ?_⟩
          walk_at "w"
          rw [show ((4 : Nat) : Int) + ((numN ((l.drop a).take 4) : Nat) : Int) = ((4 + numN ((l.drop a).take 4) : Nat) : Int) by omega, ocD_from]
          walk_at "w"
          refine ⟨a + (4 + numN ((l.drop a).take 4)), ls ++ [(((l.drop a).drop 4).take (numN ((l.drop a).take 4)))], Sl.va d, Sl.va (nI (numN ((l.drop a).take 4))), ?_, .va, .va, by omega, by omega, by rw [List.length_append, List.length_singleton]; omega, ?_⟩
          · rw [← ocsL_snoc, ← ed]
          · rw [hu, unpA_step (by omega), ed]
            cases unpA (l.drop (a + (4 + numN ((l.drop a).take 4)))) with
            | none => rfl
            | some q => simp
  · rintro ρ' ⟨a, ls, s3, s4, rfl, p3, p4, ha, hia, hls, hu⟩
    rw [rng_len] at hia
    omega

theorem ne_OM {K : PySem.W.Frag} {mg : Str → Option Value} {A : Ad} (T : Txt K mg A) : A.cOutOfRange ≠ A.cMalformed := fun e => by
  have a := T.iOutOfRange_Malformed
  rw [← e, T.iOutOfRange_OutOfRange] at a
  cases a
theorem nmO {A : Ad} (h : A.cOutOfRange ≠ A.cMalformed) : nm A A.cOutOfRange = some (Str.ofString "OutOfRange") := by unfold nm; rw [if_neg h, if_pos rfl]
theorem ctO {A : Ad} (h : A.cOutOfRange ≠ A.cMalformed) : catOf (nm A) A.cOutOfRange = some true := by unfold catOf; rw [nmO h]; rfl
theorem hw_law_told_OutOfRange (a : Addr) : w_law_told a true false false false false true { nx := fun _ => False, rt := fun d _ => d = .str "OutOfRange" } (.ex a :: ["kinds", "kind"].map fun _ => .no) := by
  unfold w_law_told
  simp only [List.map]
  walk_at "w"
  refine s_lr ?_
  walk_at "w"
  refine ⟨_, 0, _, rfl, rfl, rfl, rfl, rfl, fun m z' h _ => absurd h (Nat.not_lt_zero m), ?_⟩
  walk_at "w"
  rfl
theorem hw_law_told_Malformed (a : Addr) : w_law_told a false true false false false true { nx := fun _ => False, rt := fun d _ => d = .str "Malformed" } (.ex a :: ["kinds", "kind"].map fun _ => .no) := by
  unfold w_law_told
  simp only [List.map]
  walk_at "w"
  refine s_lr ?_
  walk_at "w"
  refine ⟨_, 1, _, rfl, rfl, rfl, rfl, rfl, fun m z' h hz => ?_, ?_⟩
  · match m, h, hz with
    | 0, _, hz => cases hz; rfl
  walk_at "w"
  rfl
theorem hw_law_try (A : Ad) (hne : A.cOutOfRange ≠ A.cMalformed) : ∀ pr R E, S_law_try A pr R E → w_law_try A (bxOf 3 R E) (pr ++ List.replicate 1 .no) := by
  rintro pr R E (⟨n, s, rfl, h⟩ | ⟨x, z, rfl, hx, hc, h⟩ | ⟨x, z, rfl, hx, h⟩ | ⟨l, z, rfl, ho, hl, h⟩)
  · unfold w_law_try
    walk_at "st"
    walk_at "w"
    refine ⟨n, s, rfl, fun hf => ?_, fun hf => ?_⟩
    · have e : numR n s = .str "OutOfRange" := if_neg (by rw [hf]; decide)
      rw [e] at h
      clear hf e
      refine catK_t (ctO hne) fun a => ?_
      walk_at "w"
      refine s_suite (nmO hne) ?_
      walk_at "w"
      exact h
    · have e : numR n s = ocD (beN s.toNat n.toNat) := if_pos hf
      rw [e] at h
      exact h
  · unfold w_law_try
    walk_at "st"
    walk_at "w"
    refine ⟨hx, hc, ?_⟩
    exact h
  · unfold w_law_try
    walk_at "st"
    walk_at "w"
    refine ⟨hx, fun hf => ?_, fun hf => ?_⟩
    · have e : unhD (TL.tl x) = .str "Malformed" := if_neg (by rw [hf]; decide)
      rw [e] at h
      refine catK_t (ctM A) fun a => ?_
      walk_at "w"
      refine s_suite (nmM A) ?_
      walk_at "w"
      exact h
    · have e : unhD (TL.tl x) = ocD (unhL (TL.tl x)) := if_pos hf
      rw [e] at h
      exact h
  · unfold w_law_try
    walk_at "st"
    walk_at "w"
    refine ⟨ho, hl, fun hf => ?_, fun ls hf => ?_⟩
    · have e : unpD l = .str "Malformed" := by unfold unpD; rw [hf]
      rw [e] at h
      refine catK_t (ctM A) fun a => ?_
      walk_at "w"
      refine s_suite (nmM A) ?_
      walk_at "w"
      exact h
    · have e : unpD l = ocsD ls := by unfold unpD; rw [hf]
      rw [e] at h
      exact h
theorem odd_at {r : Int} (h0 : 0 ≤ r) (h1 : r < 7) : ∃ o : D, atI [PyData.int (-1), .int 256, .bool true, .none, .str "a", .tuple [.int 1], .int 1] r = some o ∧ isNum o 0 255 = sameI o 1 ∧ okS 1 o := by
  obtain rfl | rfl | rfl | rfl | rfl | rfl | rfl : r = 0 ∨ r = 1 ∨ r = 2 ∨ r = 3 ∨ r = 4 ∨ r = 5 ∨ r = 6 := by omega
  · exact ⟨_, rfl, rfl, trivial⟩
  · exact ⟨_, rfl, rfl, trivial⟩
  · exact ⟨_, rfl, rfl, trivial⟩
  · exact ⟨_, rfl, rfl, trivial⟩
  · exact ⟨_, rfl, rfl, trivial⟩
  · exact ⟨_, rfl, rfl, by show 1 ≤ 100000; decide, fun y hy => by rw [List.mem_singleton.mp hy]; trivial⟩
  · exact ⟨_, rfl, rfl, trivial⟩
theorem ocL_num {l : List Nat} (h : Oc l) : (ocL l).all (fun x => isNum x 0 255) = true := by
  rw [List.all_eq_true]
  intro d hd
  obtain ⟨x, hx, rfl⟩ := List.mem_map.mp hd
  have := h x hx
  show (decide ((0 : Int) ≤ (x : Int)) && decide ((x : Int) ≤ 255)) = true
  rw [decide_eq_true (by omega), decide_eq_true (by omega)]
  rfl
theorem ocB_oc {l : List Nat} (h : Oc l) (hl : l.length ≤ 1000) : ocB (ocD l) (l.length : Int) = true ∧ ocB (ocD l) ((l.length : Int) - 1) = false := by
  refine ⟨?_, ?_⟩
  · show (decide (((ocL l).length : Int) ≤ (l.length : Int)) && (decide ((ocL l).length ≤ 100000) && (ocL l).all fun x => isNum x 0 255)) = true
    rw [ocL_num h, ocL_len, decide_eq_true (by omega), decide_eq_true (by omega)]
    rfl
  · show (decide (((ocL l).length : Int) ≤ (l.length : Int) - 1) && (decide ((ocL l).length ≤ 100000) && (ocL l).all fun x => isNum x 0 255)) = false
    rw [ocL_len, decide_eq_false (by omega), Bool.false_and]
theorem cutD_len (xs : List D) (lo hi : Option Int) : (cutG xs lo hi).length ≤ xs.length := by
  unfold cutG
  rw [List.length_take, List.length_drop]
  omega
theorem ocB_more {l : List Nat} (h : Oc l) (hl : l.length ≤ 1000) (o : D) (k : Int) : ocB (.tuple (cutG (ocL l) none (some k) ++ [o] ++ cutG (ocL l) (some k) none)) 100000 = isNum o 0 255 := by
  have a1 := cutD_len (ocL l) none (some k)
  have a2 := cutD_len (ocL l) (some k) none
  rw [ocL_len] at a1 a2
  have m : ∀ lo hi, (cutG (ocL l) lo hi).all (fun x => isNum x 0 255) = true := fun lo hi => by
    rw [List.all_eq_true]
    intro d hd
    exact List.all_eq_true.mp (ocL_num h) d (List.mem_of_mem_drop (List.mem_of_mem_take hd))
  have hlen : (cutG (ocL l) none (some k) ++ [o] ++ cutG (ocL l) (some k) none).length ≤ 2001 := by
    rw [List.length_append, List.length_append, List.length_singleton]; omega
  show (decide (((cutG (ocL l) none (some k) ++ [o] ++ cutG (ocL l) (some k) none).length : Int) ≤ 100000) && (decide ((cutG (ocL l) none (some k) ++ [o] ++ cutG (ocL l) (some k) none).length ≤ 100000) && (cutG (ocL l) none (some k) ++ [o] ++ cutG (ocL l) (some k) none).all fun x => isNum x 0 255)) = _
  rw [decide_eq_true (by omega), decide_eq_true (by omega), List.all_append, List.all_append, m, m]
  simp
theorem hw_law_are_judged (A : Ad) : ∀ pr R E, S_law_are_judged A pr R E → w_law_are_judged A (bxOf 2 R E) (pr ++ List.replicate 5 .no) := by
  rintro pr R E ⟨ms, l, rfl, ho, hl, h⟩
  obtain ⟨b1, b2⟩ := ocB_oc ho hl
  unfold w_law_are_judged
  walk_at "st"
  walk_at "w"
  refine ⟨ms, 7, rfl, by decide, by decide, fun r1 ms1 c1 d1 => ?_⟩
  walk_at "w"
  obtain ⟨o, hoa, hon, hok⟩ := odd_at c1 d1
  refine s_ixl _ hoa ?_
  walk_at "w"
  rw [ocL_len]
  refine ⟨ms1, _, rfl, by omega, hi100 (by omega), fun r2 ms2 c2 d2 => ?_⟩
  walk_at "w"
  have hb3 := (ocB_more ho hl o r2).trans hon
  have a1 := cutD_len (ocL l) none (some r2)
  have a2 := cutD_len (ocL l) (some r2) none
  rw [ocL_len] at a1 a2
  refine ⟨by rw [List.length_singleton, sizeLine_eq]; omega, ?_⟩
  walk_at "w"
  refine ⟨by rw [List.length_append, List.length_singleton, sizeLine_eq]; omega, ?_⟩
  walk_at "w"
  rw [ocL_len]
  walk_at "w"
  refine .inr ⟨o, 1, rfl, hok, ?_⟩
  walk_at "w"
  have hall : ∀ d, d ∈ [PyData.tuple [ocD l, .int (l.length : Int), .bool true], .tuple [ocD l, .int ((l.length : Int) - 1), .bool false], .tuple [.tuple (cutG (ocL l) none (some r2) ++ [o] ++ cutG (ocL l) (some r2) none), .int 100000, .bool (sameI o 1)], .tuple [.list (ocL l), .int 100, .bool false], .tuple [.none, .int 100, .bool false], .tuple [.tuple [], .int 0, .bool true], .tuple [.str "", .int 5, .bool false], .tuple [.int 7, .int 9, .bool false]] → ∃ (v : D) (m : Int) (b : Bool), d = .tuple [v, .int m, .bool b] ∧ ocB v m = b := by
    intro d hd
    rcases List.mem_cons.mp hd with rfl | hd
    · exact ⟨_, _, _, rfl, b1⟩
    rcases List.mem_cons.mp hd with rfl | hd
    · exact ⟨_, _, _, rfl, b2⟩
    rcases List.mem_cons.mp hd with rfl | hd
    · exact ⟨_, _, _, rfl, hb3⟩
    rcases List.mem_cons.mp hd with rfl | hd
    · exact ⟨_, _, _, rfl, rfl⟩
    rcases List.mem_cons.mp hd with rfl | hd
    · exact ⟨_, _, _, rfl, rfl⟩
    rcases List.mem_cons.mp hd with rfl | hd
    · exact ⟨_, _, _, rfl, rfl⟩
    rcases List.mem_cons.mp hd with rfl | hd
    · exact ⟨_, _, _, rfl, rfl⟩
    rw [List.mem_singleton.mp hd]
    exact ⟨_, _, _, rfl, rfl⟩
  generalize [PyData.tuple [ocD l, .int (l.length : Int), .bool true], .tuple [ocD l, .int ((l.length : Int) - 1), .bool false], .tuple [.tuple (cutG (ocL l) none (some r2) ++ [o] ++ cutG (ocL l) (some r2) none), .int 100000, .bool (sameI o 1)], .tuple [.list (ocL l), .int 100, .bool false], .tuple [.none, .int 100, .bool false], .tuple [.tuple [], .int 0, .bool true], .tuple [.str "", .int 5, .bool false], .tuple [.int 7, .int 9, .bool false]] = L at hall ⊢
  dsimp only
  refine ⟨fun i acc ρ' => ρ' = [Sl.io (ms2.map PyData.int), Sl.va (ocD l), Sl.va o, Sl.va (.int r2), Sl.va (.tuple (cutG (ocL l) none (some r2) ++ [o] ++ cutG (ocL l) (some r2) none)), Sl.va (.list L), .no] ∧ acc = [], ⟨rfl, rfl⟩, ?_, ?_⟩
  · rintro i d acc ρ' hd ⟨rfl, rfl⟩
    obtain ⟨v, m, b, rfl, hb⟩ := hall d (List.mem_of_getElem? hd)
    refine ⟨⟨trivial, trivial⟩, ?_⟩
    walk_at "w"
    refine ⟨v, m, rfl, ?_⟩
    rw [hb]
    walk_at "w"
    refine .inl ⟨.bool b, rfl, trivial, ?_⟩
    walk_at "w"
    first | exact ⟨rfl, rfl⟩ | trivial
  · rintro acc ρ' ⟨rfl, rfl⟩
    walk_at "w"
    refine eq_l (by decide) ?_
    exact h _

theorem unp_sizes : ∀ (f : Nat) (l : List Nat) (ls : List (List Nat)), unp f l = some ls → ls.length ≤ l.length ∧ ∀ x, x ∈ ls → x.length ≤ l.length
  | 0, _, _, h => by cases h
  | f + 1, l, ls, h => by
    unfold unp at h
    split at h
    · cases h
      exact ⟨Nat.zero_le _, fun x hx => absurd hx List.not_mem_nil⟩
    · split at h
      · cases h
      · rename_i h1 h2
        obtain ⟨q, hq, rfl⟩ := Option.map_eq_some_iff.mp h
        obtain ⟨i1, i2⟩ := unp_sizes f _ q hq
        rw [List.length_drop] at i1 i2
        refine ⟨by rw [List.length_cons]; omega, fun x hx => ?_⟩
        rcases List.mem_cons.mp hx with rfl | hx
        · rw [List.length_take, List.length_drop]; omega
        · have := i2 x hx
          omega
theorem okS_oc (d : Nat) {l : List Nat} (h : l.length ≤ 100000) : okS (d + 1) (ocD l) := ⟨by rw [ocL_len]; exact h, fun y hy => by
  obtain ⟨x, _, rfl⟩ := List.mem_map.mp hy
  cases d <;> trivial⟩
theorem okS_ocs (d : Nat) {ls : List (List Nat)} (h : ls.length ≤ 100000) (h2 : ∀ x, x ∈ ls → x.length ≤ 100000) : okS (d + 2) (ocsD ls) := ⟨by unfold ocsL; rw [List.length_map]; exact h, fun y hy => by
  obtain ⟨x, hx, rfl⟩ := List.mem_map.mp hy
  exact okS_oc d (h2 x hx)⟩
theorem okS_unp {l : List Nat} (h : l.length ≤ 5000) : okS 7 (unpD l) := by
  unfold unpD
  cases e : unpA l with
  | none => trivial
  | some ls =>
    obtain ⟨a, b⟩ := unp_sizes _ l ls e
    exact okS_ocs 5 (by omega) fun x hx => by have := b x hx; omega
theorem unhL_len : ∀ l : List Nat, (unhL l).length ≤ l.length
  | [] => Nat.le_refl _
  | [_] => Nat.zero_le _
  | a :: b :: r => by
    have := unhL_len r
    show (unhL r).length + 1 ≤ r.length + 1 + 1
    omega
theorem okS_unh {l : List Nat} (h : l.length ≤ 5000) : okS 7 (unhD l) := by
  unfold unhD
  split
  · exact okS_oc 6 (by have := unhL_len l; omega)
  · trivial
theorem cut_map {α β : Type} (f : α → β) (xs : List α) (lo hi : Option Int) : cutG (xs.map f) lo hi = (cutG xs lo hi).map f := by
  unfold cutG
  rw [List.length_map, List.map_take, List.map_drop]
theorem cut_oc (l : List Nat) (lo hi : Option Int) : cutG (ocL l) lo hi = ocL (cutG l lo hi) := cut_map _ l lo hi
theorem cutN_len (xs : List Nat) (lo hi : Option Int) : (cutG xs lo hi).length ≤ xs.length := by
  unfold cutG
  rw [List.length_take, List.length_drop]
  omega
theorem Oc.cut {a : List Nat} (h : Oc a) (lo hi : Option Int) : Oc (cutG a lo hi) := fun x hx => h x (List.mem_of_mem_drop (List.mem_of_mem_take hx))
theorem oc_app (a b : List Nat) : ocL a ++ ocL b = ocL (a ++ b) := List.map_append.symm
theorem oc_one (x : Nat) : [nI x] = ocL [x] := rfl

theorem law_t7 (A : Ad) {nx : En → Prop} {rt : D → En → Prop} {rf : List D → En → Prop} {bk ct : En → Prop} {rs : Addr → En → Prop} (sc : D) (ms : List Int) {l : List Nat} (ho : Oc l) (hl : l.length ≤ 40) {w : List Nat} (hw : Oc w) (hwl : w.length ≤ 1900) (k : Int) {s3 s4 s5 s6 s7 s8 s11 s12 s13 s14 s15 : Sl} (p3 : Pl s3) (p4 : Pl s4) (p5 : Pl s5) (p6 : Pl s6) (p7 : Pl s7) (p8 : Pl s8) (p11 : Pl s11) (p12 : Pl s12) (p13 : Pl s13) (p14 : Pl s14) (p15 : Pl s15) (h : ∀ s, rt (.bool true) (Sl.va sc :: s)) :
    wlaw_t7 A ⟨nx, rt, rf, bk, ct, rs⟩ [Sl.va sc, Sl.ow (List.map PyData.int ms), Sl.va (ocD l), s3, s4, s5, s6, s7, s8, Sl.va (ocD w), Sl.va (.int k), s11, s12, s13, s14, s15] := by

  have n11 := p11.nio
  have cl : ∀ lo hi, (cutG w lo hi).length ≤ 1900 := fun lo hi => Nat.le_trans (cutN_len w lo hi) hwl
  have hz : ∀ n : Nat, n ≤ 4000 → n ≤ sizeLine := fun n z => by rw [sizeLine_eq]; omega
  have l1 := cl none (some k)
  have l2 := cl (some (k + 1)) none
  have l3 := cl (some k) none
  unfold wlaw_t7
  walk_at "w"
  refine ⟨ms, 256, rfl, by decide, by decide, fun r1 ms1 a1 b1 => ?_⟩
  obtain ⟨x1, rfl⟩ : ∃ k : Nat, r1 = k := ⟨r1.toNat, by omega⟩
  walk_at "w"
  refine ⟨hz _ (by rw [ocL_len, List.length_singleton]; omega), ?_⟩
  walk_at "w"
  refine ⟨hz _ (by rw [cut_oc, cut_oc, ocL_len, ocL_len]; omega), ?_⟩
  walk_at "w"
  refine ⟨ms1, 3, rfl, by decide, by decide, fun r2 ms2 a2 b2 => ?_⟩
  obtain ⟨x2, rfl⟩ : ∃ k : Nat, r2 = k := ⟨r2.toNat, by omega⟩
  walk_at "w"
  refine ⟨hz _ (by rw [cut_oc, ocL_len, List.length_singleton]; omega), ?_⟩
  walk_at "w"
  refine ⟨hz _ (by rw [cut_oc, cut_oc, List.length_append, ocL_len, ocL_len, List.length_singleton]; omega), ?_⟩
  walk_at "w"
  have hall : ∀ d, d ∈ [PyData.tuple (cutG (ocL w) none (some k)), PyData.tuple (ocL w ++ [.int (x1 : Int)]), PyData.tuple (cutG (ocL w) none (some k) ++ cutG (ocL w) (some (k + 1)) none), PyData.tuple (cutG (ocL w) none (some k) ++ [.int (x2 : Int)] ++ cutG (ocL w) (some k) none)] → ∃ q : List Nat, d = ocD q ∧ Oc q ∧ q.length ≤ 5000 := by
    intro d hd
    rcases List.mem_cons.mp hd with rfl | hd
    · exact ⟨cutG w none (some k), congrArg PyData.tuple (cut_oc ..), hw.cut _ _, by omega⟩
    rcases List.mem_cons.mp hd with rfl | hd
    · exact ⟨w ++ [x1], congrArg PyData.tuple (by rw [← oc_app]; rfl), hw.app (Oc.one (by omega)), by rw [List.length_append, List.length_singleton]; omega⟩
    rcases List.mem_cons.mp hd with rfl | hd
    · exact ⟨cutG w none (some k) ++ cutG w (some (k + 1)) none, congrArg PyData.tuple (by rw [← oc_app, cut_oc, cut_oc]), (hw.cut _ _).app (hw.cut _ _), by rw [List.length_append]; omega⟩
    rw [List.mem_singleton.mp hd]
    exact ⟨cutG w none (some k) ++ [x2] ++ cutG w (some k) none, congrArg PyData.tuple (by rw [← oc_app, ← oc_app, cut_oc, cut_oc]; rfl), ((hw.cut _ _).app (Oc.one (by omega))).app (hw.cut _ _), by rw [List.length_append, List.length_append, List.length_singleton]; omega⟩
  generalize [PyData.tuple (cutG (ocL w) none (some k)), PyData.tuple (ocL w ++ [.int (x1 : Int)]), PyData.tuple (cutG (ocL w) none (some k) ++ cutG (ocL w) (some (k + 1)) none), PyData.tuple (cutG (ocL w) none (some k) ++ [.int (x2 : Int)] ++ cutG (ocL w) (some k) none)] = L at hall ⊢
  refine s_inv (fun i ρ' => ∃ s11, ρ' = [Sl.va sc, Sl.ow (List.map PyData.int ms2), Sl.va (ocD l), s3, s4, s5, s6, s7, s8, Sl.va (ocD w), Sl.va (.int k), s11, s12, s13, s14, s15] ∧ Pl s11) ⟨s11, rfl, p11⟩ ?_ ?_
  · rintro i d ρ' hd ⟨s11, rfl, p11⟩
    have n11 := p11.nio
    obtain ⟨q, rfl, hq, hql⟩ := hall d (List.mem_of_getElem? hd)
    walk_at "w"
    refine .inr (.inr (.inr ⟨q, .int 0, rfl, hq, hql, ?_⟩))
    walk_at "w"
    refine ⟨hq, hql, ?_⟩
    walk_at "w"
    refine .inl ⟨unpD q, rfl, okS_unp hql, ?_⟩
    walk_at "w"
    exact .va
  · rintro ρ' ⟨s11, rfl, p11⟩
    walk_at "w"
    exact h _

theorem sh_oc (l : List Nat) : PyData.canLay0 (ocD l) = true ∧ (ocD l).depth ≤ 1 := by
  have h1 : PyData.canLayAll0 (ocL l) = true := by
    induction l with
    | nil => rfl
    | cons d ds ih =>
      show ((nI d).canLay0 && PyData.canLayAll0 (ocL ds)) = true
      rw [ih]
      rfl
  have h2 : PyData.depthAll (ocL l) ≤ 0 := by
    clear h1
    induction l with
    | nil => exact Nat.zero_le _
    | cons d ds ih =>
      show max (nI d).depth (PyData.depthAll (ocL ds)) ≤ 0
      have : (nI d).depth = 0 := rfl
      omega
  refine ⟨h1, ?_⟩
  show PyData.depthAll (ocL l) + 1 ≤ 1
  omega
theorem sh_ocs (ls : List (List Nat)) : SeqAt.shaped (ocsD ls) = true := by
  have h1 : PyData.canLayAll0 (ocsL ls) = true := by
    induction ls with
    | nil => rfl
    | cons d ds ih =>
      show ((ocD d).canLay0 && PyData.canLayAll0 (ocsL ds)) = true
      rw [ih, (sh_oc d).1]
      rfl
  have h2 : PyData.depthAll (ocsL ls) ≤ 1 := by
    clear h1
    induction ls with
    | nil => exact Nat.zero_le _
    | cons d ds ih =>
      show max (ocD d).depth (PyData.depthAll (ocsL ds)) ≤ 1
      have := (sh_oc d).2
      omega
  show (PyData.canLayAll0 (ocsL ls) && decide ((ocsD ls).depth ≤ 64)) = true
  rw [h1]
  refine decide_eq_true ?_
  show PyData.depthAll (ocsL ls) + 1 ≤ 64
  omega

theorem law_t8 (A : Ad) {nx : En → Prop} {rt : D → En → Prop} {rf : List D → En → Prop} {bk ct : En → Prop} {rs : Addr → En → Prop} (sc : D) (ms : List Int) {l : List Nat} (ho : Oc l) (hl : l.length ≤ 40) {ls : List (List Nat)} (hs : Ocs ls) {s3 s4 s5 s6 s10 s11 s12 s13 s14 s15 : Sl} (p3 : Pl s3) (p4 : Pl s4) (p5 : Pl s5) (p6 : Pl s6) (p10 : Pl s10) (p11 : Pl s11) (p12 : Pl s12) (p13 : Pl s13) (p14 : Pl s14) (p15 : Pl s15) (h : ∀ s, rt (.bool true) (Sl.va sc :: s)) :
    wlaw_t8 A ⟨nx, rt, rf, bk, ct, rs⟩ [Sl.va sc, Sl.ow (List.map PyData.int ms), Sl.va (ocD l), s3, s4, s5, s6, Sl.va (ocsD ls), Sl.va (ocsD ls), Sl.va (ocD (packL ls)), s10, s11, s12, s13, s14, s15] := by

  have n10 := p10.nio
  have hpl : (packL ls).length ≤ 1824 := by
    have a := pack_len hs.2
    have b := hs.1
    omega
  have hpo := pack_oc hs.2
  have e : unpD (packL ls) = ocsD ls := by unfold unpD; rw [unp_pack ls hs.2]
  unfold wlaw_t8
  generalize hw7 : wlaw_t7 A = w7
  walk_at "w"
  refine ⟨hs, ?_⟩
  walk_at "w"
  refine .inl ⟨_, rfl, okS_oc 6 (by omega), ?_⟩
  walk_at "w"
  refine ne_l (sh_ocs ls) ?_
  walk_at "w"
  refine .inr (.inr (.inr ⟨packL ls, .int 0, rfl, hpo, by omega, ?_⟩))
  rw [e]
  walk_at "w"
  refine .inl ⟨_, rfl, okS_ocs 5 (by have := hs.1; omega) (fun x hx => by have := (hs.2 x hx).2; omega), ?_⟩
  walk_at "w"
  rw [ocL_len]
  refine ⟨ms, _, rfl, by omega, hi100 (by omega), fun r1 ms1 a1 b1 => ?_⟩
  walk_at "w"
  subst hw7
  exact law_t7 A sc ms1 ho hl hpo (by omega) r1 p3 p4 p5 p6 .va .va p11 p12 p13 p14 p15 h

theorem most_at {c : Bool} : ∃ m : Nat, m ≤ 300 ∧ atI [PyData.int 9, .int 300] (if c = true then 1 else 0) = some (nI m) := by
  cases c
  · exact ⟨9, by decide, rfl⟩
  · exact ⟨300, by decide, rfl⟩
theorem lcm_id (xs : List D) : xs.map (fun d => d) = xs := List.map_id' xs

theorem law_t9 (A : Ad) {nx : En → Prop} {rt : D → En → Prop} {rf : List D → En → Prop} {bk ct : En → Prop} {rs : Addr → En → Prop} (sc : D) (ms : List Int) {l : List Nat} (ho : Oc l) (hl : l.length ≤ 40)  {s3 s4 s5 s6 s7 s8 s9 s10 s11 s12 s13 s14 s15 : Sl} (p3 : Pl s3) (p4 : Pl s4) (p5 : Pl s5) (p6 : Pl s6) (p7 : Pl s7) (p8 : Pl s8) (p9 : Pl s9) (p10 : Pl s10) (p11 : Pl s11) (p12 : Pl s12) (p13 : Pl s13) (p14 : Pl s14) (p15 : Pl s15) (h : ∀ s, rt (.bool true) (Sl.va sc :: s)) :
    wlaw_t9 A ⟨nx, rt, rf, bk, ct, rs⟩ [Sl.va sc, Sl.ow (List.map PyData.int ms), Sl.va (ocD l), s3, s4, s5, s6, s7, s8, s9, s10, s11, s12, s13, s14, s15] := by

  have n7 := p7.nio
  have n8 := p8.nio
  have n9 := p9.nio
  unfold wlaw_t9
  generalize hw8 : wlaw_t8 A = w8
  walk_at "w"
  refine ⟨ms, 7, rfl, by decide, by decide, fun r1 ms1 a1 b1 => ?_⟩
  obtain ⟨k, rfl⟩ : ∃ k : Nat, r1 = k := ⟨r1.toNat, by omega⟩
  walk_at "w"
  refine ⟨by omega, ?_⟩
  rcases p13 with rfl | ⟨d13, rfl⟩
  all_goals
    refine ⟨fun i acc ρ' => ∃ (ms : List Int) (ls : List (List Nat)), ρ' = [Sl.va sc, Sl.ow (List.map PyData.int ms), Sl.va (ocD l), s3, s4, s5, s6, s7, s8, s9, s10, s11, s12, _, s14, s15] ∧ acc = ocsL ls ∧ ls.length = i ∧ (∀ x, x ∈ ls → Oc x ∧ x.length ≤ 300), ⟨ms1, [], rfl, rfl, rfl, fun x hx => absurd hx List.not_mem_nil⟩, ?_, ?_⟩
    · rintro i d acc ρ' hd ⟨ms, ls, rfl, rfl, hls, hx⟩
      have hi := rng_lt hd
      refine ⟨⟨trivial, trivial⟩, ?_⟩
      walk_at "w"
      refine ⟨ms, 9, rfl, by decide, by decide, fun r2 ms2 a2 b2 => ?_⟩
      walk_at "w"
      obtain ⟨m, hm, hma⟩ := most_at (c := decide (r2 = 0))
      refine s_ixl _ hma ?_
      walk_at "w"
      refine ⟨ms2, m, rfl, by omega, fun q ms3 hq hql => ?_⟩
      refine ⟨by unfold ocsL; rw [List.length_map, sizeLine_eq]; omega, ⟨trivial, trivial⟩, ms3, ls ++ [q], rfl, by unfold ocsL; rw [List.map_append]; rfl, by rw [List.length_append, hls]; rfl, fun x hx' => ?_⟩
      rcases List.mem_append.mp hx' with z | z
      · exact hx x z
      · rw [List.mem_singleton.mp z]; exact ⟨hq, by omega⟩
    · rintro acc ρ' ⟨ms2, ls, rfl, rfl, hls, hx⟩
      rw [rng_len] at hls
      have hs : Ocs ls := ⟨by omega, hx⟩
      walk_at "w"
      rcases p14 with rfl | ⟨d14, rfl⟩
      all_goals
        refine s_lcm (fun d => d) (by unfold ocsL; rw [List.length_map, sizeLine_eq]; omega) ?_ ?_
        · intro i d acc hd hacc hae
          refine ⟨⟨trivial, trivial⟩, ?_⟩
          walk_at "w"
          exact ⟨hacc, ⟨trivial, trivial⟩, rfl, lcm_fin hd hae rfl⟩
        · rw [lcm_id]
          walk_at "w"
          refine ⟨hs, ?_⟩
          walk_at "w"
          subst hw8
          exact law_t8 A sc ms2 ho hl hs p3 p4 p5 p6 p10 p11 p12 (by first | exact .no | exact .va) (by first | exact .no | exact .va) p15 h

theorem lo_hex (l : List Nat) (h : Oc l) : loT (hexS l) := fun c hc => by
  have hc : c ∈ hxL l := hc
  obtain ⟨o, ho, hc⟩ := List.mem_flatMap.mp hc
  have := h o ho
  rcases List.mem_cons.mp hc with rfl | hc
  · unfold hd16; split <;> omega
  · rw [List.mem_singleton.mp hc]
    unfold hd16; split <;> omega
theorem hexS_len' (l : List Nat) : (hexS l).length = 2 * l.length := by
  rw [TL.len_tl]
  show (hxL l).length = _
  unfold hxL
  induction l with
  | nil => rfl
  | cons x l ih =>
    rw [List.flatMap_cons, List.length_append, ih]
    show 2 + _ = _
    rw [List.length_cons]; omega

theorem law_t10 (A : Ad) {nx : En → Prop} {rt : D → En → Prop} {rf : List D → En → Prop} {bk ct : En → Prop} {rs : Addr → En → Prop} (sc : D) (ms : List Int) {l : List Nat} (ho : Oc l) (hl : l.length ≤ 40)  {s3 s4 s5 s6 s7 s8 s9 s10 s11 s12 s13 s14 s15 : Sl} (p3 : Pl s3) (p4 : Pl s4) (p5 : Pl s5) (p6 : Pl s6) (p7 : Pl s7) (p8 : Pl s8) (p9 : Pl s9) (p10 : Pl s10) (p11 : Pl s11) (p12 : Pl s12) (p13 : Pl s13) (p14 : Pl s14) (p15 : Pl s15) (h : ∀ s, rt (.bool true) (Sl.va sc :: s)) :
    wlaw_t10 A ⟨nx, rt, rf, bk, ct, rs⟩ [Sl.va sc, Sl.ow (List.map PyData.int ms), Sl.va (ocD l), s3, s4, s5, s6, s7, s8, s9, s10, s11, s12, s13, s14, s15] := by

  have hhl := hexS_len' l
  have hho := lo_hex l ho
  unfold wlaw_t10
  generalize hw9 : wlaw_t9 A = w9
  walk_at "w"
  refine s_inv (fun i ρ' => ∃ (ms : List Int) (s6 s11 : Sl), ρ' = [Sl.va sc, Sl.ow (List.map PyData.int ms), Sl.va (ocD l), s3, s4, s5, s6, s7, s8, s9, s10, s11, s12, s13, s14, s15] ∧ Pl s6 ∧ Pl s11) ⟨ms, s6, s11, rfl, p6, p11⟩ ?_ ?_
  · rintro i d ρ' hd ⟨ms, s6, s11, rfl, p6, p11⟩
    have n6 := p6.nio
    have n11 := p11.nio
    walk_at "w"
    refine ⟨ho, by omega, ?_⟩
    walk_at "w"
    refine ⟨ms, hexS l, rfl, by omega, hho, fun y ms1 hy hyo => ?_⟩
    walk_at "w"
    refine .inr (.inr (.inl ⟨y, .int 0, rfl, by omega, ?_⟩))
    walk_at "w"
    refine ⟨by omega, hyo, ?_⟩
    walk_at "w"
    have := TL.len_tl y
    refine .inl ⟨_, rfl, okS_unh (by omega), ?_⟩
    walk_at "w"
    exact ⟨_, _, _, rfl, .va, .va⟩
  · rintro ρ' ⟨ms, s6, s11, rfl, p6, p11⟩
    subst hw9
    exact law_t9 A sc ms ho hl p3 p4 p5 p6 p7 p8 p9 p10 p11 p12 p13 p14 p15 h

theorem law_t11 (A : Ad) {nx : En → Prop} {rt : D → En → Prop} {rf : List D → En → Prop} {bk ct : En → Prop} {rs : Addr → En → Prop} (sc : D) (ms : List Int) {l : List Nat} (ho : Oc l) (hl : l.length ≤ 40)  {s3 s4 s5 s6 s7 s8 s9 s10 s11 s12 s13 s14 s15 : Sl} (p3 : Pl s3) (p4 : Pl s4) (p5 : Pl s5) (p6 : Pl s6) (p7 : Pl s7) (p8 : Pl s8) (p9 : Pl s9) (p10 : Pl s10) (p11 : Pl s11) (p12 : Pl s12) (p13 : Pl s13) (p14 : Pl s14) (p15 : Pl s15) (h : ∀ s, rt (.bool true) (Sl.va sc :: s)) :
    wlaw_t11 A ⟨nx, rt, rf, bk, ct, rs⟩ [Sl.va sc, Sl.ow (List.map PyData.int ms), Sl.va (ocD l), s3, s4, s5, s6, s7, s8, s9, s10, s11, s12, s13, s14, s15] := by

  unfold wlaw_t11
  generalize hw10 : wlaw_t10 A = w10
  walk_at "w"
  refine ⟨ho, by omega, ?_⟩
  walk_at "w"
  refine ⟨ho, by omega, ?_⟩
  walk_at "w"
  refine .inl ⟨_, rfl, trivial, ?_⟩
  walk_at "w"
  subst hw10
  exact law_t10 A sc ms ho hl p3 p4 p5 p6 p7 p8 p9 p10 p11 p12 p13 p14 p15 h

theorem sign_at {r : Int} (h0 : 0 ≤ r) (h1 : r < 9) : ∃ c, atI (Str.ofString "azAZ 09-~").cps.toList r = some c ∧ c < 128 := by
  have hlen : (Str.ofString "azAZ 09-~").cps.toList.length = 9 := by decide +kernel
  obtain ⟨c, hcm, hca⟩ := atI_anym (l := (Str.ofString "azAZ 09-~").cps.toList) (i := r) h0 (by rw [hlen]; omega)
  refine ⟨c, hca, ?_⟩
  have e : (Str.ofString "azAZ 09-~").cps.toList.all (fun c => decide (c < 128)) = true := by decide +kernel
  exact of_decide_eq_true (List.all_eq_true.mp e c hcm)
theorem join_ones (cs : List Nat) : TL.tl (Txt.join (Str.ofString "") (cs.map fun c => (⟨#[c]⟩ : Str))) = cs := by
  rw [join0, List.map_map]
  induction cs with
  | nil => rfl
  | cons c cs ih =>
    rw [List.map_cons, List.flatten_cons, ih]
    rfl
theorem sum_ones (cs : List Nat) : ((cs.map fun c => (⟨#[c]⟩ : Str)).map (·.length)).sum = cs.length := by
  induction cs with
  | nil => rfl
  | cons c cs ih =>
    rw [List.map_cons, List.map_cons, List.sum_cons, ih, List.length_cons]
    show 1 + _ = _
    omega
theorem emp_len : (Str.ofString "").length = 0 := by decide +kernel

theorem law_t13 (A : Ad) {nx : En → Prop} {rt : D → En → Prop} {rf : List D → En → Prop} {bk ct : En → Prop} {rs : Addr → En → Prop} (sc : D) (ms : List Int) {l : List Nat} (ho : Oc l) (hl : l.length ≤ 40)  {s3 s4 s5 s6 s7 s8 s9 s10 s11 s12 s13 s14 s15 : Sl} (p3 : Pl s3) (p4 : Pl s4) (p5 : Pl s5) (p6 : Pl s6) (p7 : Pl s7) (p8 : Pl s8) (p9 : Pl s9) (p10 : Pl s10) (p11 : Pl s11) (p12 : Pl s12) (p13 : Pl s13) (p14 : Pl s14) (p15 : Pl s15) (h : ∀ s, rt (.bool true) (Sl.va sc :: s)) :
    wlaw_t13 A ⟨nx, rt, rf, bk, ct, rs⟩ [Sl.va sc, Sl.ow (List.map PyData.int ms), Sl.va (ocD l), s3, s4, s5, s6, s7, s8, s9, s10, s11, s12, s13, s14, s15] := by

  have n5 := p5.nio
  unfold wlaw_t13 wlaw_t12
  generalize hw11 : wlaw_t11 A = w11
  walk_at "w"
  refine ⟨ms, 12, rfl, by decide, by decide, fun r1 ms1 a1 b1 => ?_⟩
  obtain ⟨k, rfl⟩ : ∃ k : Nat, r1 = k := ⟨r1.toNat, by omega⟩
  walk_at "w"
  refine ⟨by omega, ?_⟩
  rcases p13 with rfl | ⟨d13, rfl⟩
  all_goals
    refine ⟨fun i acc ρ' => ∃ (ms : List Int) (cs : List Nat), ρ' = [Sl.va sc, Sl.ow (List.map PyData.int ms), Sl.va (ocD l), s3, s4, s5, s6, s7, s8, s9, s10, s11, s12, _, s14, s15] ∧ acc = (cs.map fun c => (⟨#[c]⟩ : Str)).map PyData.str ∧ cs.length = i ∧ (∀ c, c ∈ cs → c < 128), ⟨ms1, [], rfl, rfl, rfl, fun x hx => absurd hx List.not_mem_nil⟩, ?_, ?_⟩
    · rintro i d acc ρ' hd ⟨ms, cs, rfl, rfl, hls, hx⟩
      have hi := rng_lt hd
      refine ⟨⟨trivial, trivial⟩, ?_⟩
      walk_at "w"
      refine ⟨ms, 9, rfl, by decide, by decide, fun r2 ms2 a2 b2 => ?_⟩
      walk_at "w"
      obtain ⟨c, hca, hc⟩ := sign_at a2 b2
      refine ⟨by rw [sizeLine_eq]; decide +kernel, c, hca, ?_⟩
      refine ⟨by rw [List.length_map, List.length_map, sizeLine_eq]; omega, ⟨trivial, trivial⟩, ms2, cs ++ [c], rfl, by rw [List.map_append, List.map_append]; rfl, by rw [List.length_append, hls]; rfl, fun x hx' => ?_⟩
      rcases List.mem_append.mp hx' with z | z
      · exact hx x z
      · rw [List.mem_singleton.mp z]; exact hc
    · rintro acc ρ' ⟨ms2, cs, rfl, rfl, hls, hx⟩
      rw [rng_len] at hls
      have hj := join_ones cs
      have hjl := TL.len_tl (Txt.join (Str.ofString "") (cs.map fun c => (⟨#[c]⟩ : Str)))
      rw [hj] at hjl
      walk_at "w"
      refine ⟨by rw [sum_ones, emp_len]; omega, ?_⟩
      generalize Txt.join (Str.ofString "") (cs.map fun c => (⟨#[c]⟩ : Str)) = x at hj hjl ⊢
      walk_at "w"
      refine .inr (.inl ⟨x, .int 0, rfl, by omega, by rw [hj]; exact hx, ?_⟩)
      walk_at "w"
      rcases p15 with rfl | ⟨d15, rfl⟩
      all_goals
        refine s_lcm ordD (by rw [chD_len, sizeLine_eq]; omega) ?_ ?_
        · intro i d acc hd hacc hae
          have hd' := hd
          obtain ⟨c, _, rfl⟩ := get_map hd'
          refine ⟨⟨trivial, trivial⟩, ?_⟩
          walk_at "w"
          exact ⟨hacc, ⟨trivial, trivial⟩, rfl, lcm_fin hd hae rfl⟩
        · rw [ord_map, hj]
          walk_at "w"
          refine .inl ⟨_, rfl, okS_oc 6 (by omega), ?_⟩
          walk_at "w"
          subst hw11
          exact law_t11 A sc ms2 ho hl p3 p4 .va p6 p7 p8 p9 p10 p11 p12 (by first | exact .no | exact .va) p14 (by first | exact .no | exact .va) h

theorem numR_no {n s : Int} (h : ¬ fits n s = true) : numR n s = .str "OutOfRange" := if_neg h
theorem numR_yes {n s : Int} (h : fits n s = true) : numR n s = ocD (beN s.toNat n.toNat) := if_pos h
def in3 (n s : Int) : Bool := !([PyData.tuple [.int 0, .int 1], PyData.tuple [.int 255, .int 1]].any fun z => PyData.eqv z (.tuple [.int n, .int s]))
def ne01 (n s : Int) : Bool := !(PyData.eqv (.tuple [.int n, .int s]) (.tuple [.int 0, .int 1]))
theorem sh_pair (n s : Int) : SeqAt.shaped (.tuple [.int n, .int s]) = true := rfl
theorem seven : ∀ d, d ∈ [PyData.tuple [.int (-1), .int 4], .tuple [.int 5, .int (-1)], .tuple [.int 5, .int 65], .tuple [.int 256, .int 1], .tuple [.int 0, .int 1], .tuple [.int 255, .int 1], .tuple [.int 1, .int 0]] → ∃ n s : Int, d = .tuple [.int n, .int s] ∧ ∃ due : D, atI [PyData.tuple [.int 0], .tuple [.int 255], .str "OutOfRange"] ((if ne01 n s = true then 1 else 0) + (if in3 n s = true then 1 else 0)) = some due ∧ numR n s = due ∧ okS 7 due := by
  intro d hd
  rcases List.mem_cons.mp hd with rfl | hd
  · exact ⟨_, _, rfl, _, rfl, numR_no (by decide +kernel), trivial⟩
  rcases List.mem_cons.mp hd with rfl | hd
  · exact ⟨_, _, rfl, _, rfl, numR_no (by decide +kernel), trivial⟩
  rcases List.mem_cons.mp hd with rfl | hd
  · exact ⟨_, _, rfl, _, rfl, numR_no (by decide +kernel), trivial⟩
  rcases List.mem_cons.mp hd with rfl | hd
  · exact ⟨_, _, rfl, _, rfl, numR_no (by decide +kernel), trivial⟩
  rcases List.mem_cons.mp hd with rfl | hd
  · exact ⟨_, _, rfl, _, rfl, (numR_yes (by decide +kernel)).trans rfl, okS_oc 6 (l := [0]) (by decide)⟩
  rcases List.mem_cons.mp hd with rfl | hd
  · exact ⟨_, _, rfl, _, rfl, (numR_yes (by decide +kernel)).trans rfl, okS_oc 6 (l := [255]) (by decide)⟩
  rw [List.mem_singleton.mp hd]
  exact ⟨_, _, rfl, _, rfl, numR_no (by decide +kernel), trivial⟩

theorem law_t4 (A : Ad) {nx : En → Prop} {rt : D → En → Prop} {rf : List D → En → Prop} {bk ct : En → Prop} {rs : Addr → En → Prop} (sc : D) (ms : List Int) {l : List Nat} (n s : Int) {s5 s6 s7 s8 s9 s10 s11 s12 s13 s14 s15 : Sl} (p12 : Pl s12) (due : D) (h1 : atI [PyData.tuple [.int 0], .tuple [.int 255], .str "OutOfRange"] ((if ne01 n s = true then 1 else 0) + (if in3 n s = true then 1 else 0)) = some due) (h2 : numR n s = due) (h3 : okS 7 due)
    (h : ∀ s12, Pl s12 → nx [Sl.va sc, Sl.ow (List.map PyData.int ms), Sl.va (ocD l), Sl.va (.int n), Sl.va (.int s), s5, s6, s7, s8, s9, s10, s11, s12, s13, s14, s15]) : wlaw_t4 A ⟨nx, rt, rf, bk, ct, rs⟩ [Sl.va sc, Sl.ow (List.map PyData.int ms), Sl.va (ocD l), Sl.va (.int n), Sl.va (.int s), s5, s6, s7, s8, s9, s10, s11, s12, s13, s14, s15] := by

  have n12 := p12.nio
  unfold wlaw_t4
  walk_at "w"
  refine ⟨sh_pair _ _, sh_pair _ _, ?_⟩
  walk_at "w"
  refine ⟨sh_pair _ _, by decide, ?_⟩
  walk_at "w"
  refine s_ixl _ h1 ?_
  walk_at "w"
  refine .inl ⟨n, s, rfl, ?_⟩
  rw [h2]
  walk_at "w"
  refine .inl ⟨due, rfl, h3, ?_⟩
  walk_at "w"
  exact h _ .va

theorem law_t14 (A : Ad) {nx : En → Prop} {rt : D → En → Prop} {rf : List D → En → Prop} {bk ct : En → Prop} {rs : Addr → En → Prop} (sc : D) (ms : List Int) {l : List Nat} (ho : Oc l) (hl : l.length ≤ 40)  {s3 s4 s5 s6 s7 s8 s9 s10 s11 s12 s13 s14 s15 : Sl} (p3 : Pl s3) (p4 : Pl s4) (p5 : Pl s5) (p6 : Pl s6) (p7 : Pl s7) (p8 : Pl s8) (p9 : Pl s9) (p10 : Pl s10) (p11 : Pl s11) (p12 : Pl s12) (p13 : Pl s13) (p14 : Pl s14) (p15 : Pl s15) (h : ∀ s, rt (.bool true) (Sl.va sc :: s)) :
    wlaw_t14 A ⟨nx, rt, rf, bk, ct, rs⟩ [Sl.va sc, Sl.ow (List.map PyData.int ms), Sl.va (ocD l), s3, s4, s5, s6, s7, s8, s9, s10, s11, s12, s13, s14, s15] := by

  unfold wlaw_t14
  generalize hw13 : wlaw_t13 A = w13
  generalize hw4 : wlaw_t4 A = w4
  walk_at "w"
  have hall := seven
  generalize [PyData.tuple [.int (-1), .int 4], .tuple [.int 5, .int (-1)], .tuple [.int 5, .int 65], .tuple [.int 256, .int 1], .tuple [.int 0, .int 1], .tuple [.int 255, .int 1], .tuple [.int 1, .int 0]] = L at hall ⊢
  refine s_inv (fun i ρ' => ∃ s3 s4 s12, ρ' = [Sl.va sc, Sl.ow (List.map PyData.int ms), Sl.va (ocD l), s3, s4, s5, s6, s7, s8, s9, s10, s11, s12, s13, s14, s15] ∧ Pl s3 ∧ Pl s4 ∧ Pl s12) ⟨s3, s4, s12, rfl, p3, p4, p12⟩ ?_ ?_
  · rintro i d ρ' hd ⟨s3, s4, s12, rfl, p3, p4, p12⟩
    have n3 := p3.nio
    have n4 := p4.nio
    obtain ⟨n, s, rfl, due, q1, q2, q3⟩ := hall d (List.mem_of_getElem? hd)
    walk_at "w"
    subst hw4
    refine law_t4 A sc ms n s p12 due q1 q2 q3 ?_
    intro s12 p12
    exact ⟨_, _, _, rfl, .va, .va, p12⟩
  · rintro ρ' ⟨s3, s4, s12, rfl, p3, p4, p12⟩
    subst hw13
    exact law_t13 A sc ms ho hl p3 p4 p5 p6 p7 p8 p9 p10 p11 p12 p13 p14 p15 h

theorem fits_nat {a k : Nat} (hk : k ≤ 64) : fits (a : Int) (k : Int) = true ↔ a < 256 ^ k := by
  unfold fits isNum
  rw [Bool.and_eq_true, Bool.and_eq_true, Bool.and_eq_true, decide_eq_true_iff, decide_eq_true_iff, decide_eq_true_iff, decide_eq_true_iff, Int.toNat_natCast]
  have e : ((256 ^ k : Nat) : Int) = 256 ^ k := by simp
  constructor
  · intro h
    have := h.2.2
    omega
  · intro h
    exact ⟨⟨by omega, by omega⟩, by omega, by omega⟩
theorem rep0 (k : Nat) : (List.replicate ((k : Int)).toNat [PyData.int 0]).flatten = ocL (List.replicate k 0) := by
  rw [Int.toNat_natCast]
  unfold ocL
  rw [List.map_replicate]
  induction k with
  | zero => rfl
  | succ k ih => rw [List.replicate_succ, List.flatten_cons, ih]; rfl

theorem ocL_app2 (a b : List Nat) : ocL (a ++ b) = ocL a ++ ocL b := List.map_append

theorem law_t2 (A : Ad) {nx : En → Prop} {rt : D → En → Prop} {rf : List D → En → Prop} {bk ct : En → Prop} {rs : Addr → En → Prop} (sc : D) (ms : List Int) {l : List Nat} (ho : Oc l) (hl : l.length ≤ 40) (k : Nat) (hk : k ≤ 64) {s5 s6 s7 s8 s9 s10 s11 s13 s14 s15 : Sl}
    (h : ∀ s12, Pl s12 → nx [Sl.va sc, Sl.ow (List.map PyData.int ms), Sl.va (ocD l), Sl.va (nI (numN l)), Sl.va (nI k), s5, s6, s7, s8, s9, s10, s11, s12, s13, s14, s15]) : wlaw_t2 A ⟨nx, rt, rf, bk, ct, rs⟩ [Sl.va sc, Sl.ow (List.map PyData.int ms), Sl.va (ocD l), Sl.va (nI (numN l)), Sl.va (nI k), s5, s6, s7, s8, s9, s10, s11, Sl.va (.str "OutOfRange"), s13, s14, s15] := by

  have fin : ∀ due : D, numR ((numN l : Nat) : Int) (k : Int) = due → okS 7 due → wlaw_t1 A ⟨nx, rt, rf, bk, ct, rs⟩ [Sl.va sc, Sl.ow (List.map PyData.int ms), Sl.va (ocD l), Sl.va (nI (numN l)), Sl.va (nI k), s5, s6, s7, s8, s9, s10, s11, Sl.va due, s13, s14, s15] := fun due h2 h3 => by
    unfold wlaw_t1
    walk_at "w"
    refine .inl ⟨_, _, rfl, ?_⟩
    rw [h2]
    walk_at "w"
    refine .inl ⟨due, rfl, h3, ?_⟩
    walk_at "w"
    exact h _ .va
  unfold wlaw_t2
  generalize hw1 : wlaw_t1 A = w1 at fin ⊢
  walk_at "w"
  refine ⟨hk, ?_⟩
  walk_at "w"
  refine s_ifd (fun h1 => ?_) fun h1 => ?_
  · have h1 : numN l < 256 ^ k := by omega
    have hr : numR ((numN l : Nat) : Int) (k : Int) = ocD (beN k (numN l)) := by
      rw [numR_yes ((fits_nat hk).mpr h1), Int.toNat_natCast, Int.toNat_natCast]
    have hbl := beN_len k (numN l)
    walk_at "w"
    refine ⟨by simp, by omega, by omega, by decide, ?_⟩
    rw [rep0]
    walk_at "w"
    rw [ocL_len]
    refine s_ifd (fun h4 => ?_) fun h4 => ?_
    · walk_at "w"
      refine ⟨by rw [ocL_len, ocL_len, List.length_replicate, sizeLine_eq]; omega, ?_⟩
      rw [← ocL_app2]
      walk_at "w"
      rw [ocL_len, ocD_from, ← beN_pad ho (by omega)]
      walk_at "w"
      exact fin _ hr (okS_oc 6 (by omega))
    · walk_at "w"
      rw [ocL_len]
      walk_at "w"
      rw [show (l.length : Int) - (k : Int) = ((l.length - k : Nat) : Int) by omega, ocD_from, ← beN_cut ho (by omega) h1]
      walk_at "w"
      exact fin _ hr (okS_oc 6 (by omega))
  · walk_at "w"
    have hr : numR ((numN l : Nat) : Int) (k : Int) = .str "OutOfRange" := numR_no fun z => absurd ((fits_nat hk).mp z) (by omega)
    exact fin _ hr trivial

theorem hwlaw (A : Ad) : ∀ pr R E, Slaw A pr R E → wlaw A (bxOf 1 R E) (pr ++ List.replicate 15 .no) := by
  rintro pr R E ⟨ns, hl, hb, rfl, h⟩
  unfold wlaw wlaw_t16 wlaw_t15
  walk_at "st"
  generalize hw14 : wlaw_t14 A = w14
  generalize hw2 : wlaw_t2 A = w2
  walk_at "w"
  refine ⟨hl, hb, fun ms => ?_⟩
  walk_at "w"
  refine ⟨ms, 40, rfl, by decide, fun l ms1 ho hl40 => ?_⟩
  walk_at "w"
  refine ⟨ms1, l, rfl, ho, by omega, fun ms2 => ?_⟩
  walk_at "w"
  refine ⟨ho, by omega, ?_⟩
  walk_at "w"
  refine ⟨ho, by omega, ?_⟩
  walk_at "w"
  refine s_ifn (fun z => absurd rfl z) fun _ => ?_
  walk_at "w"
  refine ⟨ho, by omega, ?_⟩
  walk_at "w"
  rw [ocL_len]
  refine ⟨ms2, 20, rfl, by decide, by decide, fun r1 ms3 a1 b1 => ?_⟩
  walk_at "w"
  refine ⟨ms3, 65, rfl, by decide, by decide, fun r2 ms4 a2 b2 => ?_⟩
  walk_at "w"
  have hall : ∀ d, d ∈ [nI l.length, .int ((l.length : Int) + r1), .int r2] → ∃ k : Nat, d = nI k ∧ k ≤ 64 := by
    intro d hd
    rcases List.mem_cons.mp hd with rfl | hd
    · exact ⟨_, rfl, by omega⟩
    rcases List.mem_cons.mp hd with rfl | hd
    · exact ⟨(((l.length : Int) + r1)).toNat, congrArg PyData.int (by omega), by omega⟩
    rw [List.mem_singleton.mp hd]
    exact ⟨r2.toNat, congrArg PyData.int (by omega), by omega⟩
  generalize [nI l.length, PyData.int ((l.length : Int) + r1), PyData.int r2] = L at hall ⊢
  refine s_inv (fun i ρ' => ∃ s4 s12, ρ' = [Sl.va (.list (ns.map PyData.int)), Sl.ow (List.map PyData.int ms4), Sl.va (ocD l), Sl.va (nI (numN l)), s4, .no, .no, .no, .no, .no, .no, .no, s12, .no, .no, .no] ∧ Pl s4 ∧ Pl s12) ⟨.no, .no, rfl, .no, .no⟩ ?_ ?_
  · rintro i d ρ' hd ⟨s4, s12, rfl, p4, p12⟩
    have n4 := p4.nio
    have n12 := p12.nio
    obtain ⟨k, rfl, hk⟩ := hall d (List.mem_of_getElem? hd)
    walk_at "w"
    subst hw2
    refine law_t2 A _ ms4 ho hl40 k hk ?_
    intro s12 p12
    exact ⟨_, _, rfl, .va, p12⟩
  · rintro ρ' ⟨s4, s12, rfl, p4, p12⟩
    subst hw14
    exact law_t14 A _ ms4 ho hl40 .va p4 .no .no .no .no .no .no .no p12 .no .no .no fun s => h

end Lw
namespace Lw
open PySem L2 Den Evl PySem.Spec PyProof.Rows Zn
variable [Tbs]
section
variable {P : Program} {w : World} {K : PySem.W.Frag} {mg : Str → Option Value} {base : Heap} {A : Ad}
theorem okis_number (T : Txt K mg A) (B : Bs base mg A) : FnOk P w K mg base (L2N.CX P w) 1 A.fis_number A.dis_number Pis_number (toSp K 3 (Sis_number A)) := fnS T.Fis_number scis_number (fun cdv Ar outer s H E hr => denis_number T B  cdv Ar outer s H E hr) (hwis_number A)
theorem ok_law_draws (T : Txt K mg A) (B : Bs base mg A) : FnOk P w K mg base (L2N.CX P w) 1 A.f_law_draws A.d_law_draws P_law_draws (toSpF K 1 (S_law_draws A)) := fnF T.F_law_draws sc_law_draws (fun cdv Ar outer s H E hr => den_law_draws T B  cdv Ar outer s H E hr) (hw_law_draws A)
theorem ok_law_take (T : Txt K mg A) (B : Bs base mg A) : FnOk P w K mg base (L2N.CX P w) 1 A.f_law_take A.d_law_take P_law_take (toSp K 2 (S_law_take A)) := fnS T.F_law_take sc_law_take (fun cdv Ar outer s H E hr => den_law_take T B  cdv Ar outer s H E hr) (hw_law_take A)
theorem ok_law_power (T : Txt K mg A) (B : Bs base mg A) : FnOk P w K mg base (L2N.CX P w) 1 A.f_law_power A.d_law_power P_law_power (toSp K 2 (S_law_power A)) := fnS T.F_law_power sc_law_power (fun cdv Ar outer s H E hr => den_law_power T B  cdv Ar outer s H E hr) (hw_law_power A)
theorem ok_law_told_Malformed (T : Txt K mg A) : FnT P w K mg base 1 A.f_law_told A.d_law_told P_law_told A.cMalformed "Malformed" := fnT T.F_law_told sc_law_told (fun cdv Ar outer s H p ho hr hz => den_law_told T T.XMalformed T.iMalformed_OutOfRange T.iMalformed_Malformed T.iMalformed_NotThere T.iMalformed_Refused T.iMalformed_TooMuch T.iMalformed_ValueError cdv Ar outer s H p ho hr hz) (fun a => hw_law_told_Malformed a)
theorem ok_law_told_OutOfRange (T : Txt K mg A) : FnT P w K mg base 1 A.f_law_told A.d_law_told P_law_told A.cOutOfRange "OutOfRange" := fnT T.F_law_told sc_law_told (fun cdv Ar outer s H p ho hr hz => den_law_told T T.XOutOfRange T.iOutOfRange_OutOfRange T.iOutOfRange_Malformed T.iOutOfRange_NotThere T.iOutOfRange_Refused T.iOutOfRange_TooMuch T.iOutOfRange_ValueError cdv Ar outer s H p ho hr hz) (fun a => hw_law_told_OutOfRange a)
theorem ok_law_told (T : Txt K mg A) : ∀ c t, nm A c = some t → FnT P w K mg base 1 A.f_law_told A.d_law_told P_law_told c t := fun c t h => by
  unfold nm at h
  by_cases eMalformed : c = A.cMalformed
  · rw [if_pos eMalformed] at h; cases h; rw [eMalformed]; exact ok_law_told_Malformed T
  rw [if_neg eMalformed] at h
  by_cases eOutOfRange : c = A.cOutOfRange
  · rw [if_pos eOutOfRange] at h; cases h; rw [eOutOfRange]; exact ok_law_told_OutOfRange T
  rw [if_neg eOutOfRange] at h
  cases h
theorem ok_law_number (T : Txt K mg A) (B : Bs base mg A) : FnOk P w K mg base (L2N.CX P w) 1 A.f_law_number A.d_law_number P_law_number (toSp K 1 (S_law_number A)) := fnS T.F_law_number sc_law_number (fun cdv Ar outer s H E hr => den_law_number T B  cdv Ar outer s H E hr) (hw_law_number A)
theorem ok_law_hex (T : Txt K mg A) (B : Bs base mg A) : FnOk P w K mg base (L2N.CX P w) 1 A.f_law_hex A.d_law_hex P_law_hex (toSp K 1 (S_law_hex A)) := fnS T.F_law_hex sc_law_hex (fun cdv Ar outer s H E hr => den_law_hex T B  cdv Ar outer s H E hr) (hw_law_hex A)
theorem ok_law_unhex (T : Txt K mg A) (B : Bs base mg A) : FnOk P w K mg base (L2N.CX P w) 1 A.f_law_unhex A.d_law_unhex P_law_unhex (toSp K 1 (S_law_unhex A)) := fnS T.F_law_unhex sc_law_unhex (fun cdv Ar outer s H E hr => den_law_unhex T B  cdv Ar outer s H E hr) (hw_law_unhex A)
theorem ok_law_pack (T : Txt K mg A) (B : Bs base mg A) : FnOk P w K mg base (L2N.CX P w) 1 A.f_law_pack A.d_law_pack P_law_pack (toSp K 1 (S_law_pack A)) := fnS T.F_law_pack sc_law_pack (fun cdv Ar outer s H E hr => den_law_pack T B  cdv Ar outer s H E hr) (hw_law_pack A)
theorem okof_number (T : Txt K mg A) (B : Bs base mg A) : FnOk P w K mg base (L2N.CX P w) 2 A.fof_number A.dof_number Pof_number (toSp K 2 (Sof_number A)) := fnS T.Fof_number scof_number (fun cdv Ar outer s H E hr => denof_number T B (okis_number T B) cdv Ar outer s H E hr) (hwof_number A)
theorem oknumber_of (T : Txt K mg A) (B : Bs base mg A) : ∀ d, FnOk P w K mg base (L2N.CX P w) (1 + d) A.fnumber_of A.dnumber_of Pnumber_of (toSp K 1 (Snumber_of d A))
  | 0 => fn_none fun _ _ _ h => h
  | d + 1 => fnS T.Fnumber_of scnumber_of (fun cdv Ar outer s H E hr => dennumber_of T B d (oknumber_of T B d) cdv Ar outer s H E hr) (hwnumber_of d A)
theorem okof_text (T : Txt K mg A) (B : Bs base mg A) : FnOk P w K mg base (L2N.CX P w) 2 A.fof_text A.dof_text Pof_text (toSp K 1 (Sof_text A)) := fnSC T.Fof_text scof_text (fun Ar outer s H E hr => denof_text T B  Ar outer s H E hr) (hwof_text A)
theorem okhexed (T : Txt K mg A) (B : Bs base mg A) : FnOk P w K mg base (L2N.CX P w) 2 A.fhexed A.dhexed Phexed (toSp K 1 (Shexed A)) := fnSC T.Fhexed schexed (fun Ar outer s H E hr => denhexed T B  Ar outer s H E hr) (hwhexed A)
theorem okis_hex (T : Txt K mg A) (B : Bs base mg A) : FnOk P w K mg base (L2N.CX P w) 2 A.fis_hex A.dis_hex Pis_hex (toSp K 1 (Sis_hex A)) := fnSC T.Fis_hex scis_hex (fun Ar outer s H E hr => denis_hex T B  Ar outer s H E hr) (hwis_hex A)
theorem ok_law_octets (T : Txt K mg A) (B : Bs base mg A) : FnOk P w K mg base (L2N.CX P w) 2 A.f_law_octets A.d_law_octets P_law_octets (toSp K 2 (S_law_octets A)) := fnS T.F_law_octets sc_law_octets (fun cdv Ar outer s H E hr => den_law_octets T B (ok_law_take T B) cdv Ar outer s H E hr) (hw_law_octets A)
theorem ok_law_unpack (T : Txt K mg A) (B : Bs base mg A) : FnOk P w K mg base (L2N.CX P w) 2 A.f_law_unpack A.d_law_unpack P_law_unpack (toSp K 1 (S_law_unpack A)) := fnS T.F_law_unpack sc_law_unpack (fun cdv Ar outer s H E hr => den_law_unpack T B (ok_law_number T B) cdv Ar outer s H E hr) (hw_law_unpack A)
theorem ok_law_bent (T : Txt K mg A) (B : Bs base mg A) : FnOk P w K mg base (L2N.CX P w) 2 A.f_law_bent A.d_law_bent P_law_bent (toSp K 2 (S_law_bent A)) := fnS T.F_law_bent sc_law_bent (fun cdv Ar outer s H E hr => den_law_bent T B (ok_law_take T B) cdv Ar outer s H E hr) (hw_law_bent A)
theorem okis_octets (T : Txt K mg A) (B : Bs base mg A) : FnOk P w K mg base (L2N.CX P w) 3 A.fis_octets A.dis_octets Pis_octets (toSp K 2 (Sis_octets A)) := fnSC T.Fis_octets scis_octets (fun Ar outer s H E hr => denis_octets T B (okis_number T B) Ar outer s H E hr) (hwis_octets A)
theorem okunhexed (T : Txt K mg A) (B : Bs base mg A) : FnOk P w K mg base (L2N.CX P w) 3 A.funhexed A.dunhexed Punhexed (toSp K 1 (Sunhexed A)) := fnS T.Funhexed scunhexed (fun cdv Ar outer s H E hr => denunhexed T B (okis_hex T B) cdv Ar outer s H E hr) (hwunhexed A)
theorem okpacked (T : Txt K mg A) (B : Bs base mg A) : FnOk P w K mg base (L2N.CX P w) 3 A.fpacked A.dpacked Ppacked (toSp K 1 (Spacked A)) := fnS T.Fpacked scpacked (fun cdv Ar outer s H E hr => denpacked T B (okof_number T B) cdv Ar outer s H E hr) (hwpacked A)
theorem okunpacked (T : Txt K mg A) (B : Bs base mg A) : FnOk P w K mg base (L2N.CX P w) 3 A.funpacked A.dunpacked Punpacked (toSp K 1 (Sunpacked A)) := fnS T.Funpacked scunpacked (fun cdv Ar outer s H E hr => denunpacked T B (oknumber_of T B 1) cdv Ar outer s H E hr) (hwunpacked A)
theorem ok_law_try (T : Txt K mg A) (B : Bs base mg A) : FnOk P w K mg base (L2N.CX P w) 4 A.f_law_try A.d_law_try P_law_try (toSp K 3 (S_law_try A)) := fnS T.F_law_try sc_law_try (fun cdv Ar outer s H E hr => den_law_try T B (ok_law_told T) (okof_number T B) (okof_text T B) (okunhexed T B) (okunpacked T B) cdv Ar outer s H E hr) (hw_law_try A (ne_OM T))
theorem ok_law_same (T : Txt K mg A) (B : Bs base mg A) : ∀ d, FnOk P w K mg base (L2N.CX P w) (1 + d) A.f_law_same A.d_law_same P_law_same (toSp K 2 (S_law_same d A))
  | 0 => fn_none fun _ _ _ h => h
  | d + 1 => fnS T.F_law_same sc_law_same (fun cdv Ar outer s H E hr => den_law_same T B d (ok_law_same T B d) cdv Ar outer s H E hr) (hw_law_same d A)
theorem ok_law_are_judged (T : Txt K mg A) (B : Bs base mg A) : FnOk P w K mg base (L2N.CX P w) 10 A.f_law_are_judged A.d_law_are_judged P_law_are_judged (toSp K 2 (S_law_are_judged A)) := fnS T.F_law_are_judged sc_law_are_judged (fun cdv Ar outer s H E hr => den_law_are_judged T B (ok_law_take T B) (okis_octets T B) (ok_law_same T B 8) cdv Ar outer s H E hr) (hw_law_are_judged A)
theorem oklaw (T : Txt K mg A) (B : Bs base mg A) : FnOk P w K mg base (L2N.CX P w) 11 A.flaw A.dlaw Plaw (toSp K 1 (Slaw A)) := fnS T.Flaw sclaw (fun cdv Ar outer s H E hr => denlaw T B (ok_law_draws T B) (ok_law_take T B) (ok_law_power T B) (ok_law_number T B) (ok_law_hex T B) (ok_law_unhex T B) (ok_law_pack T B) (oknumber_of T B 1) (okhexed T B) (ok_law_octets T B) (ok_law_unpack T B) (ok_law_bent T B) (okpacked T B) (ok_law_try T B) (ok_law_same T B 8) (ok_law_are_judged T B) cdv Ar outer s H E hr) (hwlaw A)
omit [Tbs] in
theorem all_mk {l : PySem.W.OpenLaw} {w : World} {K : PySem.W.Frag} {h : Heap} {mg : Str → Option Value} {q : Program} {fa f0 f1 f2 f3 f4 f5 f6 f7 f8 f9 f10 f11 f12 f13 f14 f15 f16 f17 f18 f19 f20 f21 f22 f23 f24 cLotError cOutOfRange cMalformed cNotThere cRefused cTooMuch : Addr} (X : K.In h) (G : h.Ns mainGlobals mg) (hfa : mg "law" = some (.ref fa)) (T0 : ∃ loose mean mb, Top q loose mean mg mb h)
    {od0 an0 : Option Addr} {sl0 : Array (Option Value)} {oc0 kV0 dc0 pm0 cd0 ct0 : Value} {od1 an1 : Option Addr} {sl1 : Array (Option Value)} {oc1 kV1 dc1 pm1 cd1 ct1 : Value} {od2 an2 : Option Addr} {sl2 : Array (Option Value)} {oc2 kV2 dc2 pm2 cd2 ct2 : Value} {od3 an3 : Option Addr} {sl3 : Array (Option Value)} {oc3 kV3 dc3 pm3 cd3 ct3 : Value} {od4 an4 : Option Addr} {sl4 : Array (Option Value)} {oc4 kV4 dc4 pm4 cd4 ct4 : Value} {od5 an5 : Option Addr} {sl5 : Array (Option Value)} {oc5 kV5 dc5 pm5 cd5 ct5 : Value} {od6 an6 : Option Addr} {sl6 : Array (Option Value)} {oc6 kV6 dc6 pm6 cd6 ct6 : Value} {od7 an7 : Option Addr} {sl7 : Array (Option Value)} {oc7 kV7 dc7 pm7 cd7 ct7 : Value} {od8 an8 : Option Addr} {sl8 : Array (Option Value)} {oc8 kV8 dc8 pm8 cd8 ct8 : Value} {od9 an9 : Option Addr} {sl9 : Array (Option Value)} {oc9 kV9 dc9 pm9 cd9 ct9 : Value} {od10 an10 : Option Addr} {sl10 : Array (Option Value)} {oc10 kV10 dc10 pm10 cd10 ct10 : Value} {od11 an11 : Option Addr} {sl11 : Array (Option Value)} {oc11 kV11 dc11 pm11 cd11 ct11 : Value} {od12 an12 : Option Addr} {sl12 : Array (Option Value)} {oc12 kV12 dc12 pm12 cd12 ct12 : Value} {od13 an13 : Option Addr} {sl13 : Array (Option Value)} {oc13 kV13 dc13 pm13 cd13 ct13 : Value} {od14 an14 : Option Addr} {sl14 : Array (Option Value)} {oc14 kV14 dc14 pm14 cd14 ct14 : Value} {od15 an15 : Option Addr} {sl15 : Array (Option Value)} {oc15 kV15 dc15 pm15 cd15 ct15 : Value} {od16 an16 : Option Addr} {sl16 : Array (Option Value)} {oc16 kV16 dc16 pm16 cd16 ct16 : Value} {od17 an17 : Option Addr} {sl17 : Array (Option Value)} {oc17 kV17 dc17 pm17 cd17 ct17 : Value} {od18 an18 : Option Addr} {sl18 : Array (Option Value)} {oc18 kV18 dc18 pm18 cd18 ct18 : Value} {od19 an19 : Option Addr} {sl19 : Array (Option Value)} {oc19 kV19 dc19 pm19 cd19 ct19 : Value} {od20 an20 : Option Addr} {sl20 : Array (Option Value)} {oc20 kV20 dc20 pm20 cd20 ct20 : Value} {od21 an21 : Option Addr} {sl21 : Array (Option Value)} {oc21 kV21 dc21 pm21 cd21 ct21 : Value} {od22 an22 : Option Addr} {sl22 : Array (Option Value)} {oc22 kV22 dc22 pm22 cd22 ct22 : Value} {od23 an23 : Option Addr} {sl23 : Array (Option Value)} {oc23 kV23 dc23 pm23 cd23 ct23 : Value} {od24 an24 : Option Addr} {sl24 : Array (Option Value)} {oc24 kV24 dc24 pm24 cd24 ct24 : Value} {t_HEX_SIGNS : Tok} {t_LENGTH_SIZE : Tok} {t_MOST : Tok} {t_MOST_SIZE : Tok} {dr11 : DefRec} {dr12 : DefRec} {dr13 : DefRec} {dr17 : DefRec}
    (a0 : PySem.W.nsIn K mainGlobals "is_number" = some (some (.ref f0)))
    (l0 : K.lookup f0 = some ⟨oc0, od0, .func (PySem.W.fnOf "is_number" "is_number" (defArgs sis_number) (defBody sis_number) (defScope sis_number) .none kV0 dc0 pm0 an0 cd0 ct0), sl0⟩)
    (e0 : PySem.W.codeIn K cd0 "is_number" = true)
    (k0 : PySem.W.keepIn K (.ref f0) = true)
    (a1 : PySem.W.nsIn K mainGlobals "_law_draws" = some (some (.ref f1)))
    (l1 : K.lookup f1 = some ⟨oc1, od1, .func (PySem.W.fnOf "_law_draws" "_law_draws" (defArgs s_law_draws) (defBody s_law_draws) (defScope s_law_draws) .none kV1 dc1 pm1 an1 cd1 ct1), sl1⟩)
    (e1 : PySem.W.codeIn K cd1 "_law_draws" = true)
    (k1 : PySem.W.keepIn K (.ref f1) = true)
    (a2 : PySem.W.nsIn K mainGlobals "_law_take" = some (some (.ref f2)))
    (l2 : K.lookup f2 = some ⟨oc2, od2, .func (PySem.W.fnOf "_law_take" "_law_take" (defArgs s_law_take) (defBody s_law_take) (defScope s_law_take) .none kV2 dc2 pm2 an2 cd2 ct2), sl2⟩)
    (e2 : PySem.W.codeIn K cd2 "_law_take" = true)
    (k2 : PySem.W.keepIn K (.ref f2) = true)
    (a3 : PySem.W.nsIn K mainGlobals "_law_power" = some (some (.ref f3)))
    (l3 : K.lookup f3 = some ⟨oc3, od3, .func (PySem.W.fnOf "_law_power" "_law_power" (defArgs s_law_power) (defBody s_law_power) (defScope s_law_power) .none kV3 dc3 pm3 an3 cd3 ct3), sl3⟩)
    (e3 : PySem.W.codeIn K cd3 "_law_power" = true)
    (k3 : PySem.W.keepIn K (.ref f3) = true)
    (a4 : PySem.W.nsIn K mainGlobals "_law_told" = some (some (.ref f4)))
    (l4 : K.lookup f4 = some ⟨oc4, od4, .func (PySem.W.fnOf "_law_told" "_law_told" (defArgs s_law_told) (defBody s_law_told) (defScope s_law_told) .none kV4 dc4 pm4 an4 cd4 ct4), sl4⟩)
    (e4 : PySem.W.codeIn K cd4 "_law_told" = true)
    (k4 : PySem.W.keepIn K (.ref f4) = true)
    (a5 : PySem.W.nsIn K mainGlobals "_law_number" = some (some (.ref f5)))
    (l5 : K.lookup f5 = some ⟨oc5, od5, .func (PySem.W.fnOf "_law_number" "_law_number" (defArgs s_law_number) (defBody s_law_number) (defScope s_law_number) .none kV5 dc5 pm5 an5 cd5 ct5), sl5⟩)
    (e5 : PySem.W.codeIn K cd5 "_law_number" = true)
    (k5 : PySem.W.keepIn K (.ref f5) = true)
    (a6 : PySem.W.nsIn K mainGlobals "_law_hex" = some (some (.ref f6)))
    (l6 : K.lookup f6 = some ⟨oc6, od6, .func (PySem.W.fnOf "_law_hex" "_law_hex" (defArgs s_law_hex) (defBody s_law_hex) (defScope s_law_hex) .none kV6 dc6 pm6 an6 cd6 ct6), sl6⟩)
    (e6 : PySem.W.codeIn K cd6 "_law_hex" = true)
    (k6 : PySem.W.keepIn K (.ref f6) = true)
    (a7 : PySem.W.nsIn K mainGlobals "_law_unhex" = some (some (.ref f7)))
    (l7 : K.lookup f7 = some ⟨oc7, od7, .func (PySem.W.fnOf "_law_unhex" "_law_unhex" (defArgs s_law_unhex) (defBody s_law_unhex) (defScope s_law_unhex) .none kV7 dc7 pm7 an7 cd7 ct7), sl7⟩)
    (e7 : PySem.W.codeIn K cd7 "_law_unhex" = true)
    (k7 : PySem.W.keepIn K (.ref f7) = true)
    (a8 : PySem.W.nsIn K mainGlobals "_law_pack" = some (some (.ref f8)))
    (l8 : K.lookup f8 = some ⟨oc8, od8, .func (PySem.W.fnOf "_law_pack" "_law_pack" (defArgs s_law_pack) (defBody s_law_pack) (defScope s_law_pack) .none kV8 dc8 pm8 an8 cd8 ct8), sl8⟩)
    (e8 : PySem.W.codeIn K cd8 "_law_pack" = true)
    (k8 : PySem.W.keepIn K (.ref f8) = true)
    (a9 : PySem.W.nsIn K mainGlobals "of_number" = some (some (.ref f9)))
    (l9 : K.lookup f9 = some ⟨oc9, od9, .func (PySem.W.fnOf "of_number" "of_number" (defArgs sof_number) (defBody sof_number) (defScope sof_number) .none kV9 dc9 pm9 an9 cd9 ct9), sl9⟩)
    (e9 : PySem.W.codeIn K cd9 "of_number" = true)
    (k9 : PySem.W.keepIn K (.ref f9) = true)
    (a10 : PySem.W.nsIn K mainGlobals "number_of" = some (some (.ref f10)))
    (l10 : K.lookup f10 = some ⟨oc10, od10, .func (PySem.W.fnOf "number_of" "number_of" (defArgs snumber_of) (defBody snumber_of) (defScope snumber_of) .none kV10 dc10 pm10 an10 cd10 ct10), sl10⟩)
    (e10 : PySem.W.codeIn K cd10 "number_of" = true)
    (k10 : PySem.W.keepIn K (.ref f10) = true)
    (a11 : PySem.W.nsIn K mainGlobals "of_text" = some (some (.ref f11)))
    (l11 : K.lookup f11 = some ⟨oc11, od11, .func (PySem.W.fnOf "of_text" "of_text" (defArgs sof_text) (defBody sof_text) (defScope sof_text) .none kV11 dc11 pm11 an11 cd11 ct11), sl11⟩)
    (e11 : PySem.W.codeIn K cd11 "of_text" = true)
    (k11 : PySem.W.keepIn K (.ref f11) = true)
    (a12 : PySem.W.nsIn K mainGlobals "hexed" = some (some (.ref f12)))
    (l12 : K.lookup f12 = some ⟨oc12, od12, .func (PySem.W.fnOf "hexed" "hexed" (defArgs shexed) (defBody shexed) (defScope shexed) .none kV12 dc12 pm12 an12 cd12 ct12), sl12⟩)
    (e12 : PySem.W.codeIn K cd12 "hexed" = true)
    (k12 : PySem.W.keepIn K (.ref f12) = true)
    (a13 : PySem.W.nsIn K mainGlobals "is_hex" = some (some (.ref f13)))
    (l13 : K.lookup f13 = some ⟨oc13, od13, .func (PySem.W.fnOf "is_hex" "is_hex" (defArgs sis_hex) (defBody sis_hex) (defScope sis_hex) .none kV13 dc13 pm13 an13 cd13 ct13), sl13⟩)
    (e13 : PySem.W.codeIn K cd13 "is_hex" = true)
    (k13 : PySem.W.keepIn K (.ref f13) = true)
    (a14 : PySem.W.nsIn K mainGlobals "_law_octets" = some (some (.ref f14)))
    (l14 : K.lookup f14 = some ⟨oc14, od14, .func (PySem.W.fnOf "_law_octets" "_law_octets" (defArgs s_law_octets) (defBody s_law_octets) (defScope s_law_octets) .none kV14 dc14 pm14 an14 cd14 ct14), sl14⟩)
    (e14 : PySem.W.codeIn K cd14 "_law_octets" = true)
    (k14 : PySem.W.keepIn K (.ref f14) = true)
    (a15 : PySem.W.nsIn K mainGlobals "_law_unpack" = some (some (.ref f15)))
    (l15 : K.lookup f15 = some ⟨oc15, od15, .func (PySem.W.fnOf "_law_unpack" "_law_unpack" (defArgs s_law_unpack) (defBody s_law_unpack) (defScope s_law_unpack) .none kV15 dc15 pm15 an15 cd15 ct15), sl15⟩)
    (e15 : PySem.W.codeIn K cd15 "_law_unpack" = true)
    (k15 : PySem.W.keepIn K (.ref f15) = true)
    (a16 : PySem.W.nsIn K mainGlobals "_law_bent" = some (some (.ref f16)))
    (l16 : K.lookup f16 = some ⟨oc16, od16, .func (PySem.W.fnOf "_law_bent" "_law_bent" (defArgs s_law_bent) (defBody s_law_bent) (defScope s_law_bent) .none kV16 dc16 pm16 an16 cd16 ct16), sl16⟩)
    (e16 : PySem.W.codeIn K cd16 "_law_bent" = true)
    (k16 : PySem.W.keepIn K (.ref f16) = true)
    (a17 : PySem.W.nsIn K mainGlobals "is_octets" = some (some (.ref f17)))
    (l17 : K.lookup f17 = some ⟨oc17, od17, .func (PySem.W.fnOf "is_octets" "is_octets" (defArgs sis_octets) (defBody sis_octets) (defScope sis_octets) .none kV17 dc17 pm17 an17 cd17 ct17), sl17⟩)
    (e17 : PySem.W.codeIn K cd17 "is_octets" = true)
    (k17 : PySem.W.keepIn K (.ref f17) = true)
    (a18 : PySem.W.nsIn K mainGlobals "unhexed" = some (some (.ref f18)))
    (l18 : K.lookup f18 = some ⟨oc18, od18, .func (PySem.W.fnOf "unhexed" "unhexed" (defArgs sunhexed) (defBody sunhexed) (defScope sunhexed) .none kV18 dc18 pm18 an18 cd18 ct18), sl18⟩)
    (e18 : PySem.W.codeIn K cd18 "unhexed" = true)
    (k18 : PySem.W.keepIn K (.ref f18) = true)
    (a19 : PySem.W.nsIn K mainGlobals "packed" = some (some (.ref f19)))
    (l19 : K.lookup f19 = some ⟨oc19, od19, .func (PySem.W.fnOf "packed" "packed" (defArgs spacked) (defBody spacked) (defScope spacked) .none kV19 dc19 pm19 an19 cd19 ct19), sl19⟩)
    (e19 : PySem.W.codeIn K cd19 "packed" = true)
    (k19 : PySem.W.keepIn K (.ref f19) = true)
    (a20 : PySem.W.nsIn K mainGlobals "unpacked" = some (some (.ref f20)))
    (l20 : K.lookup f20 = some ⟨oc20, od20, .func (PySem.W.fnOf "unpacked" "unpacked" (defArgs sunpacked) (defBody sunpacked) (defScope sunpacked) .none kV20 dc20 pm20 an20 cd20 ct20), sl20⟩)
    (e20 : PySem.W.codeIn K cd20 "unpacked" = true)
    (k20 : PySem.W.keepIn K (.ref f20) = true)
    (a21 : PySem.W.nsIn K mainGlobals "_law_try" = some (some (.ref f21)))
    (l21 : K.lookup f21 = some ⟨oc21, od21, .func (PySem.W.fnOf "_law_try" "_law_try" (defArgs s_law_try) (defBody s_law_try) (defScope s_law_try) .none kV21 dc21 pm21 an21 cd21 ct21), sl21⟩)
    (e21 : PySem.W.codeIn K cd21 "_law_try" = true)
    (k21 : PySem.W.keepIn K (.ref f21) = true)
    (a22 : PySem.W.nsIn K mainGlobals "_law_same" = some (some (.ref f22)))
    (l22 : K.lookup f22 = some ⟨oc22, od22, .func (PySem.W.fnOf "_law_same" "_law_same" (defArgs s_law_same) (defBody s_law_same) (defScope s_law_same) .none kV22 dc22 pm22 an22 cd22 ct22), sl22⟩)
    (e22 : PySem.W.codeIn K cd22 "_law_same" = true)
    (k22 : PySem.W.keepIn K (.ref f22) = true)
    (a23 : PySem.W.nsIn K mainGlobals "_law_are_judged" = some (some (.ref f23)))
    (l23 : K.lookup f23 = some ⟨oc23, od23, .func (PySem.W.fnOf "_law_are_judged" "_law_are_judged" (defArgs s_law_are_judged) (defBody s_law_are_judged) (defScope s_law_are_judged) .none kV23 dc23 pm23 an23 cd23 ct23), sl23⟩)
    (e23 : PySem.W.codeIn K cd23 "_law_are_judged" = true)
    (k23 : PySem.W.keepIn K (.ref f23) = true)
    (a24 : PySem.W.nsIn K mainGlobals "law" = some (some (.ref f24)))
    (l24 : K.lookup f24 = some ⟨oc24, od24, .func (PySem.W.fnOf "law" "law" (defArgs slaw) (defBody slaw) (defScope slaw) .none kV24 dc24 pm24 an24 cd24 ct24), sl24⟩)
    (e24 : PySem.W.codeIn K cd24 "law" = true)
    (k24 : PySem.W.keepIn K (.ref f24) = true)
    (acLotError : PySem.W.nsIn K mainGlobals "LotError" = some (some (.ref cLotError)))
    (acOutOfRange : PySem.W.nsIn K mainGlobals "OutOfRange" = some (some (.ref cOutOfRange)))
    (acMalformed : PySem.W.nsIn K mainGlobals "Malformed" = some (some (.ref cMalformed)))
    (acNotThere : PySem.W.nsIn K mainGlobals "NotThere" = some (some (.ref cNotThere)))
    (acRefused : PySem.W.nsIn K mainGlobals "Refused" = some (some (.ref cRefused)))
    (acTooMuch : PySem.W.nsIn K mainGlobals "TooMuch" = some (some (.ref cTooMuch)))
    (z_ValueError : PySem.W.nsIn K mainGlobals "ValueError" = some none)
    (z_abs : PySem.W.nsIn K mainGlobals "abs" = some none)
    (z_all : PySem.W.nsIn K mainGlobals "all" = some none)
    (z_any : PySem.W.nsIn K mainGlobals "any" = some none)
    (z_bool : PySem.W.nsIn K mainGlobals "bool" = some none)
    (z_int : PySem.W.nsIn K mainGlobals "int" = some none)
    (z_isinstance : PySem.W.nsIn K mainGlobals "isinstance" = some none)
    (z_len : PySem.W.nsIn K mainGlobals "len" = some none)
    (z_list : PySem.W.nsIn K mainGlobals "list" = some none)
    (z_min : PySem.W.nsIn K mainGlobals "min" = some none)
    (z_ord : PySem.W.nsIn K mainGlobals "ord" = some none)
    (z_range : PySem.W.nsIn K mainGlobals "range" = some none)
    (z_reversed : PySem.W.nsIn K mainGlobals "reversed" = some none)
    (z_str : PySem.W.nsIn K mainGlobals "str" = some none)
    (z_tuple : PySem.W.nsIn K mainGlobals "tuple" = some none)
    (kk_HEX_SIGNS : PySem.W.nsIn K mainGlobals "_HEX_SIGNS" = some (some (.str "0123456789abcdef" t_HEX_SIGNS)))
    (kk_LENGTH_SIZE : PySem.W.nsIn K mainGlobals "_LENGTH_SIZE" = some (some (.int 4 t_LENGTH_SIZE)))
    (kk_MOST : PySem.W.nsIn K mainGlobals "_MOST" = some (some (.int 100000 t_MOST)))
    (kk_MOST_SIZE : PySem.W.nsIn K mainGlobals "_MOST_SIZE" = some (some (.int 64 t_MOST_SIZE)))
    (xMalformed : PySem.W.excIn K cMalformed [.type "ValueError", .type "Exception", .type "BaseException", .type "object"] "ValueError.__new__" = true)
    (qMalformed : PySem.W.keepIn K (.ref cMalformed) = true)
    (uMalformed : PySem.W.subIn K (.ref cMalformed) (.type "BaseException") = some true)
    (tMalformed : PySem.W.typeIn K (.ref cMalformed) = some (.type "type"))
    (sMalformed : PySem.W.subIn K (.ref cMalformed) (.ref cLotError) = some true)
    (XaMalformed : PySem.W.findIn K (.ref cMalformed) "__getattribute__" = some (some (.builtin "BaseException.__getattribute__")))
    (XbMalformed : PySem.W.findIn K (.ref cMalformed) "__getattr__" = some none)
    (XdMalformed : PySem.W.hasDictIn K cMalformed = true)
    (XeMalformed : PySem.W.findIn K (.ref cMalformed) "__class__" = some (some (.builtin "object.__class__")))
    (XhMalformed : PySem.W.mroIn K cMalformed (.type "object") = some true)
    (iMalformed_OutOfRange : PySem.W.kitOne K (.ref cMalformed) (.ref cOutOfRange) = some false)
    (iMalformed_Malformed : PySem.W.kitOne K (.ref cMalformed) (.ref cMalformed) = some true)
    (iMalformed_NotThere : PySem.W.kitOne K (.ref cMalformed) (.ref cNotThere) = some false)
    (iMalformed_Refused : PySem.W.kitOne K (.ref cMalformed) (.ref cRefused) = some false)
    (iMalformed_TooMuch : PySem.W.kitOne K (.ref cMalformed) (.ref cTooMuch) = some false)
    (iMalformed_ValueError : PySem.W.kitOne K (.ref cMalformed) (.type "ValueError") = some true)
    (xOutOfRange : PySem.W.excIn K cOutOfRange [.type "ValueError", .type "Exception", .type "BaseException", .type "object"] "ValueError.__new__" = true)
    (qOutOfRange : PySem.W.keepIn K (.ref cOutOfRange) = true)
    (uOutOfRange : PySem.W.subIn K (.ref cOutOfRange) (.type "BaseException") = some true)
    (tOutOfRange : PySem.W.typeIn K (.ref cOutOfRange) = some (.type "type"))
    (sOutOfRange : PySem.W.subIn K (.ref cOutOfRange) (.ref cLotError) = some true)
    (XaOutOfRange : PySem.W.findIn K (.ref cOutOfRange) "__getattribute__" = some (some (.builtin "BaseException.__getattribute__")))
    (XbOutOfRange : PySem.W.findIn K (.ref cOutOfRange) "__getattr__" = some none)
    (XdOutOfRange : PySem.W.hasDictIn K cOutOfRange = true)
    (XeOutOfRange : PySem.W.findIn K (.ref cOutOfRange) "__class__" = some (some (.builtin "object.__class__")))
    (XhOutOfRange : PySem.W.mroIn K cOutOfRange (.type "object") = some true)
    (iOutOfRange_OutOfRange : PySem.W.kitOne K (.ref cOutOfRange) (.ref cOutOfRange) = some true)
    (iOutOfRange_Malformed : PySem.W.kitOne K (.ref cOutOfRange) (.ref cMalformed) = some false)
    (iOutOfRange_NotThere : PySem.W.kitOne K (.ref cOutOfRange) (.ref cNotThere) = some false)
    (iOutOfRange_Refused : PySem.W.kitOne K (.ref cOutOfRange) (.ref cRefused) = some false)
    (iOutOfRange_TooMuch : PySem.W.kitOne K (.ref cOutOfRange) (.ref cTooMuch) = some false)
    (iOutOfRange_ValueError : PySem.W.kitOne K (.ref cOutOfRange) (.type "ValueError") = some true)
    (Lu : PySem.W.subIn K (.ref cLotError) (.type "BaseException") = some true)
    (Ld : PySem.W.hasDictIn K cLotError = true)
    (Lt : PySem.W.typeIn K (.ref cLotError) = some (.type "type"))
    (On : PySem.W.specialIn K (.builtin "object.__class__") "__get__" = some (some (.builtin "getset_descriptor.__get__")))
    (Ot : PySem.W.takesIn K (.builtin "object.__class__") = some true)
    (tb11 : (PySem.W.tabIn K "of_text").isSome = true)
    (rc11 : (recsOf q).find? (fun e => e.name == ("of_text" : Str)) = some dr11)
    (tb12 : (PySem.W.tabIn K "hexed").isSome = true)
    (rc12 : (recsOf q).find? (fun e => e.name == ("hexed" : Str)) = some dr12)
    (tb13 : (PySem.W.tabIn K "is_hex").isSome = true)
    (rc13 : (recsOf q).find? (fun e => e.name == ("is_hex" : Str)) = some dr13)
    (tb17 : (PySem.W.tabIn K "is_octets").isSome = true)
    (rc17 : (recsOf q).find? (fun e => e.name == ("is_octets" : Str)) = some dr17)
    (nt : PySem.W.noTabs K = true)
    : LamX.LawAtS l w K (L2N.CX l.prog w) 11 63 "script" mg fa h := by
  obtain ⟨_, _, _, T0⟩ := T0
  have e := hfa.symm.trans (PySem.W.mg_of X G a24)
  cases e
  have F0 := fun_mk (st := sis_number) l0 e0 k0
  have B0 := F0.binds (ps := Pis_number) fun _ _ _ _ _ _ us hl => match us, hl with | [_, _, _], _ => rfl
  have F1 := fun_mk (st := s_law_draws) l1 e1 k1
  have B1 := F1.binds (ps := P_law_draws) fun _ _ _ _ _ _ us hl => match us, hl with | [_], _ => rfl
  have F2 := fun_mk (st := s_law_take) l2 e2 k2
  have B2 := F2.binds (ps := P_law_take) fun _ _ _ _ _ _ us hl => match us, hl with | [_, _], _ => rfl
  have F3 := fun_mk (st := s_law_power) l3 e3 k3
  have B3 := F3.binds (ps := P_law_power) fun _ _ _ _ _ _ us hl => match us, hl with | [_, _], _ => rfl
  have F4 := fun_mk (st := s_law_told) l4 e4 k4
  have B4 := F4.binds (ps := P_law_told) fun _ _ _ _ _ _ us hl => match us, hl with | [_], _ => rfl
  have F5 := fun_mk (st := s_law_number) l5 e5 k5
  have B5 := F5.binds (ps := P_law_number) fun _ _ _ _ _ _ us hl => match us, hl with | [_], _ => rfl
  have F6 := fun_mk (st := s_law_hex) l6 e6 k6
  have B6 := F6.binds (ps := P_law_hex) fun _ _ _ _ _ _ us hl => match us, hl with | [_], _ => rfl
  have F7 := fun_mk (st := s_law_unhex) l7 e7 k7
  have B7 := F7.binds (ps := P_law_unhex) fun _ _ _ _ _ _ us hl => match us, hl with | [_], _ => rfl
  have F8 := fun_mk (st := s_law_pack) l8 e8 k8
  have B8 := F8.binds (ps := P_law_pack) fun _ _ _ _ _ _ us hl => match us, hl with | [_], _ => rfl
  have F9 := fun_mk (st := sof_number) l9 e9 k9
  have B9 := F9.binds (ps := Pof_number) fun _ _ _ _ _ _ us hl => match us, hl with | [_, _], _ => rfl
  have F10 := fun_mk (st := snumber_of) l10 e10 k10
  have B10 := F10.binds (ps := Pnumber_of) fun _ _ _ _ _ _ us hl => match us, hl with | [_], _ => rfl
  have F11 := fun_mk (st := sof_text) l11 e11 k11
  have B11 := F11.binds (ps := Pof_text) fun _ _ _ _ _ _ us hl => match us, hl with | [_], _ => rfl
  have F12 := fun_mk (st := shexed) l12 e12 k12
  have B12 := F12.binds (ps := Phexed) fun _ _ _ _ _ _ us hl => match us, hl with | [_], _ => rfl
  have F13 := fun_mk (st := sis_hex) l13 e13 k13
  have B13 := F13.binds (ps := Pis_hex) fun _ _ _ _ _ _ us hl => match us, hl with | [_], _ => rfl
  have F14 := fun_mk (st := s_law_octets) l14 e14 k14
  have B14 := F14.binds (ps := P_law_octets) fun _ _ _ _ _ _ us hl => match us, hl with | [_, _], _ => rfl
  have F15 := fun_mk (st := s_law_unpack) l15 e15 k15
  have B15 := F15.binds (ps := P_law_unpack) fun _ _ _ _ _ _ us hl => match us, hl with | [_], _ => rfl
  have F16 := fun_mk (st := s_law_bent) l16 e16 k16
  have B16 := F16.binds (ps := P_law_bent) fun _ _ _ _ _ _ us hl => match us, hl with | [_, _], _ => rfl
  have F17 := fun_mk (st := sis_octets) l17 e17 k17
  have B17 := F17.binds (ps := Pis_octets) fun _ _ _ _ _ _ us hl => match us, hl with | [_, _], _ => rfl
  have F18 := fun_mk (st := sunhexed) l18 e18 k18
  have B18 := F18.binds (ps := Punhexed) fun _ _ _ _ _ _ us hl => match us, hl with | [_], _ => rfl
  have F19 := fun_mk (st := spacked) l19 e19 k19
  have B19 := F19.binds (ps := Ppacked) fun _ _ _ _ _ _ us hl => match us, hl with | [_], _ => rfl
  have F20 := fun_mk (st := sunpacked) l20 e20 k20
  have B20 := F20.binds (ps := Punpacked) fun _ _ _ _ _ _ us hl => match us, hl with | [_], _ => rfl
  have F21 := fun_mk (st := s_law_try) l21 e21 k21
  have B21 := F21.binds (ps := P_law_try) fun _ _ _ _ _ _ us hl => match us, hl with | [_, _, _], _ => rfl
  have F22 := fun_mk (st := s_law_same) l22 e22 k22
  have B22 := F22.binds (ps := P_law_same) fun _ _ _ _ _ _ us hl => match us, hl with | [_, _], _ => rfl
  have F23 := fun_mk (st := s_law_are_judged) l23 e23 k23
  have B23 := F23.binds (ps := P_law_are_judged) fun _ _ _ _ _ _ us hl => match us, hl with | [_, _], _ => rfl
  have F24 := fun_mk (st := slaw) l24 e24 k24
  have B24 := F24.binds (ps := Plaw) fun _ _ _ _ _ _ us hl => match us, hl with | [_], _ => rfl
  obtain ⟨⟨tc11, tp11⟩, ht11⟩ := Option.isSome_iff_exists.mp tb11
  have tq11 := PySem.W.tab_of T0 X rc11 ht11
  have FC11 := fun_mkC (st := sof_text) X G ht11 (PySem.W.mg_of X G a11) l11 e11
  obtain ⟨⟨tc12, tp12⟩, ht12⟩ := Option.isSome_iff_exists.mp tb12
  have tq12 := PySem.W.tab_of T0 X rc12 ht12
  have FC12 := fun_mkC (st := shexed) X G ht12 (PySem.W.mg_of X G a12) l12 e12
  obtain ⟨⟨tc13, tp13⟩, ht13⟩ := Option.isSome_iff_exists.mp tb13
  have tq13 := PySem.W.tab_of T0 X rc13 ht13
  have FC13 := fun_mkC (st := sis_hex) X G ht13 (PySem.W.mg_of X G a13) l13 e13
  obtain ⟨⟨tc17, tp17⟩, ht17⟩ := Option.isSome_iff_exists.mp tb17
  have tq17 := PySem.W.tab_of T0 X rc17 ht17
  have FC17 := fun_mkC (st := sis_octets) X G ht17 (PySem.W.mg_of X G a17) l17 e17
  letI inst : Tbs := ⟨fun b => b ∈ ([(tc11, tp11), (tc12, tp12), (tc13, tp13), (tc17, tp17)] : List (Addr × Addr)).map (·.2)⟩
  have T := Txt.mk (K := K) (mg := mg) (A := Ad.mk cLotError cOutOfRange cMalformed cNotThere cRefused cTooMuch f0 _ f1 _ f2 _ f3 _ f4 _ f5 _ f6 _ f7 _ f8 _ f9 _ f10 _ f11 _ tc11 tp11 f12 _ tc12 tp12 f13 _ tc13 tp13 f14 _ f15 _ f16 _ f17 _ tc17 tp17 f18 _ f19 _ f20 _ f21 _ f22 _ f23 _ fa _)
    (PySem.W.mg_of X G a0)
    k0
    B0
    F0
    (PySem.W.mg_of X G a1)
    k1
    B1
    F1
    (PySem.W.mg_of X G a2)
    k2
    B2
    F2
    (PySem.W.mg_of X G a3)
    k3
    B3
    F3
    (PySem.W.mg_of X G a4)
    k4
    B4
    F4
    (PySem.W.mg_of X G a5)
    k5
    B5
    F5
    (PySem.W.mg_of X G a6)
    k6
    B6
    F6
    (PySem.W.mg_of X G a7)
    k7
    B7
    F7
    (PySem.W.mg_of X G a8)
    k8
    B8
    F8
    (PySem.W.mg_of X G a9)
    k9
    B9
    F9
    (PySem.W.mg_of X G a10)
    k10
    B10
    F10
    (PySem.W.mg_of X G a11)
    k11
    B11
    FC11
    (by show tp11 ∈ _; simp)
    (PySem.W.mg_of X G a12)
    k12
    B12
    FC12
    (by show tp12 ∈ _; simp)
    (PySem.W.mg_of X G a13)
    k13
    B13
    FC13
    (by show tp13 ∈ _; simp)
    (PySem.W.mg_of X G a14)
    k14
    B14
    F14
    (PySem.W.mg_of X G a15)
    k15
    B15
    F15
    (PySem.W.mg_of X G a16)
    k16
    B16
    F16
    (PySem.W.mg_of X G a17)
    k17
    B17
    FC17
    (by show tp17 ∈ _; simp)
    (PySem.W.mg_of X G a18)
    k18
    B18
    F18
    (PySem.W.mg_of X G a19)
    k19
    B19
    F19
    (PySem.W.mg_of X G a20)
    k20
    B20
    F20
    (PySem.W.mg_of X G a21)
    k21
    B21
    F21
    (PySem.W.mg_of X G a22)
    k22
    B22
    F22
    (PySem.W.mg_of X G a23)
    k23
    B23
    F23
    (PySem.W.mg_of X G a24)
    k24
    B24
    F24
    (PySem.W.mg_none_of X G z_ValueError)
    (PySem.W.mg_none_of X G z_abs)
    (PySem.W.mg_none_of X G z_all)
    (PySem.W.mg_none_of X G z_any)
    (PySem.W.mg_none_of X G z_bool)
    (PySem.W.mg_none_of X G z_int)
    (PySem.W.mg_none_of X G z_isinstance)
    (PySem.W.mg_none_of X G z_len)
    (PySem.W.mg_none_of X G z_list)
    (PySem.W.mg_none_of X G z_min)
    (PySem.W.mg_none_of X G z_ord)
    (PySem.W.mg_none_of X G z_range)
    (PySem.W.mg_none_of X G z_reversed)
    (PySem.W.mg_none_of X G z_str)
    (PySem.W.mg_none_of X G z_tuple)
    ⟨_, PySem.W.mg_of X G kk_HEX_SIGNS⟩
    ⟨_, PySem.W.mg_of X G kk_LENGTH_SIZE⟩
    ⟨_, PySem.W.mg_of X G kk_MOST⟩
    ⟨_, PySem.W.mg_of X G kk_MOST_SIZE⟩
    (PySem.W.mg_of X G acLotError)
    (PySem.W.mg_of X G acOutOfRange)
    (PySem.W.mg_of X G acMalformed)
    (PySem.W.mg_of X G acNotThere)
    (PySem.W.mg_of X G acRefused)
    (PySem.W.mg_of X G acTooMuch)
    xMalformed
    qMalformed
    uMalformed
    tMalformed
    ⟨XaMalformed, XbMalformed, uMalformed, XdMalformed, XeMalformed, On, Ot, XhMalformed⟩
    (PySem.W.exm_ref Lu Ld Lt sMalformed)
    xOutOfRange
    qOutOfRange
    uOutOfRange
    tOutOfRange
    ⟨XaOutOfRange, XbOutOfRange, uOutOfRange, XdOutOfRange, XeOutOfRange, On, Ot, XhOutOfRange⟩
    (PySem.W.exm_ref Lu Ld Lt sOutOfRange)
    iMalformed_OutOfRange
    iMalformed_Malformed
    iMalformed_NotThere
    iMalformed_Refused
    iMalformed_TooMuch
    iMalformed_ValueError
    iOutOfRange_OutOfRange
    iOutOfRange_Malformed
    iOutOfRange_NotThere
    iOutOfRange_Refused
    iOutOfRange_TooMuch
    iOutOfRange_ValueError
  exact ⟨_, [(tc11, tp11), (tc12, tp12), (tc13, tp13), (tc17, tp17)], spLaw K, (fun p hp => by
    simp only [List.mem_cons, List.not_mem_nil, or_false] at hp 
    rcases hp with rfl | rfl | rfl | rfl 
    · exact tq11.2 
    · exact tq12.2 
    · exact tq13.2 
    · exact tq17.2), (fun p hp => by
    simp only [List.mem_cons, List.not_mem_nil, or_false] at hp 
    rcases hp with rfl | rfl | rfl | rfl 
    · exact noTab_none X nt tq11.2 
    · exact noTab_none X nt tq12.2 
    · exact noTab_none X nt tq13.2 
    · exact noTab_none X nt tq17.2), (fun p hp => by
    simp only [List.mem_cons, List.not_mem_nil, or_false] at hp 
    rcases hp with rfl | rfl | rfl | rfl 
    · exact tq11.1 
    · exact tq12.1 
    · exact tq13.1 
    · exact tq17.1), fun s v => .of_eq rfl,
    fun H a ns hl hb hH hS => ⟨a, ns, rfl, fun b hb => by
      obtain ⟨p, hp, e⟩ := List.mem_map.mp hb
      subst e
      exact ⟨#[], hH p hp, trivial⟩, hS, hl, hb, fun _ => rfl⟩,
    fun base b1 b2 b3 => (oklaw T ⟨tabB_of (b3 (tc11, tp11) (by simp)), tabB_of (b3 (tc12, tp12) (by simp)), tabB_of (b3 (tc13, tp13) (by simp)), tabB_of (b3 (tc17, tp17) (by simp))⟩).imp fun vs H Q E q => spLaw_imp q⟩
end
omit [Tbs] in
theorem walk {l : PySem.W.OpenLaw} {q : Program} {loose : List Str} {XP : (Str → Option Value) → Heap → Prop} {YP : World → Heap → Prop} {d : DefRec} {K : Params → PySem.W.Frag} (hn : l.most = some 63) (hdf : d.params.defaults = [])
    (hY : ∀ (w : World) (h : Heap), YP w h → (K w.params).In h)
    (F : ∀ (w : World) (mg : Str → Option Value) (fa : Addr) (h : Heap), (K w.params).In h → h.Ns mainGlobals mg → mg d.name = some (.ref fa) → (∃ loose mean mb, Top q loose mean mg mb h) → LamX.LawAtS l w (K w.params) (L2N.CX l.prog w) 11 63 "script" mg fa h) :
    PySem.W.WalkO q loose XP YP l.row.toRowW d [] (fun f vs => PySem.call f vs) :=
  walk_ofTT (n := 63) (k := 11) (x := "script") (CX := fun w => L2N.CX l.prog w) hn (by decide) hdf ⟨rfl, by decide, by decide⟩ hY F (fun w H s e s' z => by obtain ⟨_, _, _, _, _, _, _, _, _, _, _, _, z⟩ := z; exact z)
end Lw
open PySem PySem.W PyProof.Rows in
set_option maxRecDepth 100000 in
set_option maxHeartbeats 0 in
theorem PySem.Challenge.cw_lotshown_k05_octets_and_packings_holds : PySem.Challenge.rw_lotshown_k05_octets_and_packings.Holds := by
  w_on; o_law; k_head; (case hw => w_witness2)
  k_fill
  refine Lw.walk (l := PySem.Challenge.rw_lotshown_k05_octets_and_packings) rfl rfl (fun w h Y => PySem.W.kIn_of Y) ?F
  case F =>
    intro w mg fa h KX G hmg T0
    refine' Lw.all_mk KX G hmg T0 ?a0 ?l0 ?e0 ?k0 ?a1 ?l1 ?e1 ?k1 ?a2 ?l2 ?e2 ?k2 ?a3 ?l3 ?e3 ?k3 ?a4 ?l4 ?e4 ?k4 ?a5 ?l5 ?e5 ?k5 ?a6 ?l6 ?e6 ?k6 ?a7 ?l7 ?e7 ?k7 ?a8 ?l8 ?e8 ?k8 ?a9 ?l9 ?e9 ?k9 ?a10 ?l10 ?e10 ?k10 ?a11 ?l11 ?e11 ?k11 ?a12 ?l12 ?e12 ?k12 ?a13 ?l13 ?e13 ?k13 ?a14 ?l14 ?e14 ?k14 ?a15 ?l15 ?e15 ?k15 ?a16 ?l16 ?e16 ?k16 ?a17 ?l17 ?e17 ?k17 ?a18 ?l18 ?e18 ?k18 ?a19 ?l19 ?e19 ?k19 ?a20 ?l20 ?e20 ?k20 ?a21 ?l21 ?e21 ?k21 ?a22 ?l22 ?e22 ?k22 ?a23 ?l23 ?e23 ?k23 ?a24 ?l24 ?e24 ?k24 ?acLotError ?acOutOfRange ?acMalformed ?acNotThere ?acRefused ?acTooMuch ?z_ValueError ?z_abs ?z_all ?z_any ?z_bool ?z_int ?z_isinstance ?z_len ?z_list ?z_min ?z_ord ?z_range ?z_reversed ?z_str ?z_tuple ?kk_HEX_SIGNS ?kk_LENGTH_SIZE ?kk_MOST ?kk_MOST_SIZE ?xMalformed ?qMalformed ?uMalformed ?tMalformed ?sMalformed ?XaMalformed ?XbMalformed ?XdMalformed ?XeMalformed ?XhMalformed ?iMalformed_OutOfRange ?iMalformed_Malformed ?iMalformed_NotThere ?iMalformed_Refused ?iMalformed_TooMuch ?iMalformed_ValueError ?xOutOfRange ?qOutOfRange ?uOutOfRange ?tOutOfRange ?sOutOfRange ?XaOutOfRange ?XbOutOfRange ?XdOutOfRange ?XeOutOfRange ?XhOutOfRange ?iOutOfRange_OutOfRange ?iOutOfRange_Malformed ?iOutOfRange_NotThere ?iOutOfRange_Refused ?iOutOfRange_TooMuch ?iOutOfRange_ValueError ?Lu ?Ld ?Lt ?On ?Ot ?tb11 ?rc11 ?tb12 ?rc12 ?tb13 ?rc13 ?tb17 ?rc17 ?nt
    (case a0 => k_is)
    (case l0 => k_is)
    (case e0 => k_is)
    (case k0 => k_is)
    (case a1 => k_is)
    (case l1 => k_is)
    (case e1 => k_is)
    (case k1 => k_is)
    (case a2 => k_is)
    (case l2 => k_is)
    (case e2 => k_is)
    (case k2 => k_is)
    (case a3 => k_is)
    (case l3 => k_is)
    (case e3 => k_is)
    (case k3 => k_is)
    (case a4 => k_is)
    (case l4 => k_is)
    (case e4 => k_is)
    (case k4 => k_is)
    (case a5 => k_is)
    (case l5 => k_is)
    (case e5 => k_is)
    (case k5 => k_is)
    (case a6 => k_is)
    (case l6 => k_is)
    (case e6 => k_is)
    (case k6 => k_is)
    (case a7 => k_is)
    (case l7 => k_is)
    (case e7 => k_is)
    (case k7 => k_is)
    (case a8 => k_is)
    (case l8 => k_is)
    (case e8 => k_is)
    (case k8 => k_is)
    (case a9 => k_is)
    (case l9 => k_is)
    (case e9 => k_is)
    (case k9 => k_is)
    (case a10 => k_is)
    (case l10 => k_is)
    (case e10 => k_is)
    (case k10 => k_is)
    (case a11 => k_is)
    (case l11 => k_is)
    (case e11 => k_is)
    (case k11 => k_is)
    (case a12 => k_is)
    (case l12 => k_is)
    (case e12 => k_is)
    (case k12 => k_is)
    (case a13 => k_is)
    (case l13 => k_is)
    (case e13 => k_is)
    (case k13 => k_is)
    (case a14 => k_is)
    (case l14 => k_is)
    (case e14 => k_is)
    (case k14 => k_is)
    (case a15 => k_is)
    (case l15 => k_is)
    (case e15 => k_is)
    (case k15 => k_is)
    (case a16 => k_is)
    (case l16 => k_is)
    (case e16 => k_is)
    (case k16 => k_is)
    (case a17 => k_is)
    (case l17 => k_is)
    (case e17 => k_is)
    (case k17 => k_is)
    (case a18 => k_is)
    (case l18 => k_is)
    (case e18 => k_is)
    (case k18 => k_is)
    (case a19 => k_is)
    (case l19 => k_is)
    (case e19 => k_is)
    (case k19 => k_is)
    (case a20 => k_is)
    (case l20 => k_is)
    (case e20 => k_is)
    (case k20 => k_is)
    (case a21 => k_is)
    (case l21 => k_is)
    (case e21 => k_is)
    (case k21 => k_is)
    (case a22 => k_is)
    (case l22 => k_is)
    (case e22 => k_is)
    (case k22 => k_is)
    (case a23 => k_is)
    (case l23 => k_is)
    (case e23 => k_is)
    (case k23 => k_is)
    (case a24 => k_is)
    (case l24 => k_is)
    (case e24 => k_is)
    (case k24 => k_is)
    (case acLotError => k_is)
    (case acOutOfRange => k_is)
    (case acMalformed => k_is)
    (case acNotThere => k_is)
    (case acRefused => k_is)
    (case acTooMuch => k_is)
    (case z_ValueError => k_is)
    (case z_abs => k_is)
    (case z_all => k_is)
    (case z_any => k_is)
    (case z_bool => k_is)
    (case z_int => k_is)
    (case z_isinstance => k_is)
    (case z_len => k_is)
    (case z_list => k_is)
    (case z_min => k_is)
    (case z_ord => k_is)
    (case z_range => k_is)
    (case z_reversed => k_is)
    (case z_str => k_is)
    (case z_tuple => k_is)
    (case kk_HEX_SIGNS => k_is)
    (case kk_LENGTH_SIZE => k_is)
    (case kk_MOST => k_is)
    (case kk_MOST_SIZE => k_is)
    (case xMalformed => k_exc)
    (case qMalformed => k_is)
    (case uMalformed => k_is)
    (case tMalformed => k_is)
    (case sMalformed => k_is)
    (case XaMalformed => k_is)
    (case XbMalformed => k_is)
    (case XdMalformed => k_is)
    (case XeMalformed => k_is)
    (case XhMalformed => k_is)
    (case iMalformed_OutOfRange => kit_is)
    (case iMalformed_Malformed => kit_is)
    (case iMalformed_NotThere => kit_is)
    (case iMalformed_Refused => kit_is)
    (case iMalformed_TooMuch => kit_is)
    (case iMalformed_ValueError => kit_is)
    (case xOutOfRange => k_exc)
    (case qOutOfRange => k_is)
    (case uOutOfRange => k_is)
    (case tOutOfRange => k_is)
    (case sOutOfRange => k_is)
    (case XaOutOfRange => k_is)
    (case XbOutOfRange => k_is)
    (case XdOutOfRange => k_is)
    (case XeOutOfRange => k_is)
    (case XhOutOfRange => k_is)
    (case iOutOfRange_OutOfRange => kit_is)
    (case iOutOfRange_Malformed => kit_is)
    (case iOutOfRange_NotThere => kit_is)
    (case iOutOfRange_Refused => kit_is)
    (case iOutOfRange_TooMuch => kit_is)
    (case iOutOfRange_ValueError => kit_is)
    (case Lu => k_is)
    (case Ld => k_is)
    (case Lt => k_is)
    (case On => k_is)
    (case Ot => k_is)
    (case tb11 => kernel_rfl)
    (case rc11 => exact rfl)
    (case tb12 => kernel_rfl)
    (case rc12 => exact rfl)
    (case tb13 => kernel_rfl)
    (case rc13 => exact rfl)
    (case tb17 => kernel_rfl)
    (case rc17 => exact rfl)
    (case nt => kernel_rfl)
