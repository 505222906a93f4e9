import PyProof.Rows.All
import HandS.ForMost
import HandS.Gcd
import HandS.Wide
import HandS.WideBits
import HandS.Deep
import HandS.IsInst
import PyProof.ReprRoads
import HandS.EndBits
import HandS.WordsExc
import PyProof.FitsInt
import HandS.ExcIs
import HandS.Conv
import KE.KxField
import KE.SortData
import HandS.Text
import HandS.FStr
import HandS.Style
import HandS.TryOnly
import PySem.Challenge.RW_floodmark_k46_multipliers_checked
set_option Elab.async false
set_option linter.all false
set_option maxRecDepth 100000
/-! DL: defs over data. A def's text is read as a function on data; lists that a def makes and grows are its own. -/
namespace DL
open PySem PySem.Spec L2
open PyProof.Rows hiding St
abbrev Rho := List (Option PyData)
/-- the written part of the text at hand -/
class KF where
  K : PySem.W.Frag
  m : Bool
variable [KF]
/-- a list at a: one of the heap, or one of the module's own -/
def LsK (H : Hp) (a : Addr) (vs : List V) : Prop := H a = some (.lst vs) ∨ (KF.m = true ∧ ((∃ o, H a = some (.frz o (.lst vs))) ∨ (∃ (its : Array Value) (n : Nat), KF.K.lookup a = some { cls := .type "list", data := .seq its n } ∧ its.size ≤ sizeLine ∧ Vals vs its.toList)))
theorem ls_of {H : Hp} {a : Addr} {vs : List V} (h : H a = some (.lst vs)) : LsK H a vs := .inl h
theorem LsK.old {H : Hp} {a : Addr} {vs : List V} (h : LsK H a vs) : Rd H a (.lst vs) ∨ ∃ (its : Array Value) (n : Nat), KF.K.lookup a = some { cls := .type "list", data := .seq its n } ∧ its.size ≤ sizeLine ∧ Vals vs its.toList := by
  rcases h with h | ⟨_, ⟨o, h⟩ | h⟩
  · exact .inl (.inl h)
  · exact .inl (.inr ⟨o, h⟩)
  · exact .inr h
theorem LsK.sq {H : Hp} {a : Addr} {vs : List V} (h : LsK H a vs) : SqL KF.K H a vs := by
  rcases h with h | ⟨_, ⟨o, h⟩ | ⟨its, n, h1, h2, h3⟩⟩
  · exact .inl (.inl h)
  · exact .inl (.inr ⟨o, h⟩)
  · exact .inr ⟨_, its, n, h1, rfl, rfl, rfl, h2, h3⟩
/-! ### data in a heap -/
mutual
inductive R (H : Hp) : V → PyData → Prop
  | non : R H .non .none
  | bl (b : Bool) : R H (.bl b) (.bool b)
  | int (i : Int) : R H (.int i) (.int i)
  | str (x : Str) : R H (.str x) (.str x)
  | lst {a : Addr} {vs : List V} {ds : List PyData} : LsK H a vs → RA H vs ds → R H (.ref a) (.list ds)
  | tup {a : Addr} {vs : List V} {ds : List PyData} : Rd H a (.tup vs) → RA H vs ds → R H (.ref a) (.tuple ds)
inductive RA (H : Hp) : List V → List PyData → Prop
  | nil : RA H [] []
  | cons {v : V} {vs : List V} {d : PyData} {ds : List PyData} : R H v d → RA H vs ds → RA H (v :: vs) (d :: ds)
end
theorem rd_mono {H H' : Hp} {a : Addr} {u : HO} (e : Same H H') (h : Rd H a u) : Rd H' a u := by
  rcases h with h | ⟨o, h⟩
  · exact .inl (e _ _ h)
  · exact .inr ⟨o, e _ _ h⟩
theorem ls_mono {H H' : Hp} {a : Addr} {vs : List V} (e : Same H H') (h : LsK H a vs) : LsK H' a vs := by
  rcases h with h | ⟨m, ⟨o, h⟩ | h⟩
  · exact .inl (e _ _ h)
  · exact .inr ⟨m, .inl ⟨o, e _ _ h⟩⟩
  · exact .inr ⟨m, .inr h⟩
mutual
theorem R.mono {H H' : Hp} (e : Same H H') : ∀ {v : V} {d : PyData}, R H v d → R H' v d
  | _, _, .non => .non
  | _, _, .bl b => .bl b
  | _, _, .int i => .int i
  | _, _, .str x => .str x
  | _, _, .lst h r => .lst (ls_mono e h) (RA.mono e r)
  | _, _, .tup h r => .tup (rd_mono e h) (RA.mono e r)
theorem RA.mono {H H' : Hp} (e : Same H H') : ∀ {vs : List V} {ds : List PyData}, RA H vs ds → RA H' vs ds
  | _, _, .nil => .nil
  | _, _, .cons h r => .cons (R.mono e h) (RA.mono e r)
end
mutual
theorem R.dp {H : Hp} : ∀ {v : V} {d : PyData}, R H v d → Dp KF.K H v d
  | _, _, .non => .non
  | _, _, .bl b => .bl b
  | _, _, .int i => .int i
  | _, _, .str x => .str x
  | _, _, .lst h r => .lst h.sq (RA.dp r)
  | _, _, .tup h r => .tup (.inl h) (RA.dp r)
theorem RA.dp {H : Hp} : ∀ {vs : List V} {ds : List PyData}, RA H vs ds → DpAll KF.K H vs ds
  | _, _, .nil => .nil
  | _, _, .cons h r => .cons (R.dp h) (RA.dp r)
end
theorem RA.length {H : Hp} : ∀ {vs : List V} {ds : List PyData}, RA H vs ds → vs.length = ds.length
  | _, _, .nil => rfl
  | _, _, .cons _ r => by rw [List.length_cons, List.length_cons, RA.length r]
theorem RA.get {H : Hp} : ∀ {vs : List V} {ds : List PyData} {i : Nat} {d : PyData}, RA H vs ds → ds[i]? = some d → ∃ v, vs[i]? = some v ∧ R H v d
  | _, _, _, _, .nil, h => by simp at h
  | _, _, 0, _, .cons h _, e => by
    have e' := Option.some.inj (by simpa using e)
    subst e'
    exact ⟨_, by simp, h⟩
  | _, _, i + 1, d, .cons _ r, e => by
    obtain ⟨v, h1, h2⟩ := RA.get (i := i) (d := d) r (by simpa using e)
    exact ⟨v, by simpa using h1, h2⟩
theorem RA.append {H : Hp} : ∀ {vs ws : List V} {ds es : List PyData}, RA H vs ds → RA H ws es → RA H (vs ++ ws) (ds ++ es)
  | _, _, _, _, .nil, s => s
  | _, _, _, _, .cons h r, s => .cons h (RA.append r s)
theorem RA.take {H : Hp} : ∀ {vs : List V} {ds : List PyData} (n : Nat), RA H vs ds → RA H (vs.take n) (ds.take n)
  | _, _, 0, _ => .nil
  | _, _, _ + 1, .nil => .nil
  | _, _, n + 1, .cons h r => .cons h (RA.take n r)
theorem RA.drop {H : Hp} : ∀ {vs : List V} {ds : List PyData} (n : Nat), RA H vs ds → RA H (vs.drop n) (ds.drop n)
  | _, _, 0, r => r
  | _, _, _ + 1, .nil => .nil
  | _, _, n + 1, .cons _ r => RA.drop n r
theorem RA.set {H : Hp} {v : V} {d : PyData} (h : R H v d) : ∀ {vs : List V} {ds : List PyData} (n : Nat), RA H vs ds → RA H (vs.set n v) (ds.set n d)
  | _, _, _, .nil => .nil
  | _, _, 0, .cons _ r => .cons h r
  | _, _, n + 1, .cons q r => .cons q (RA.set h n r)
theorem RA.ints {H : Hp} : ∀ (ns : List Int), RA H (ns.map V.int) (ns.map PyData.int)
  | [] => .nil
  | n :: r => .cons (.int n) (RA.ints r)
theorem RA.of_ints {H : Hp} : ∀ {vs : List V} {ns : List Int}, RA H vs (ns.map PyData.int) → vs = ns.map V.int
  | [], [], _ => rfl
  | _ :: _, [], h => by cases h
  | [], _ :: _, h => by cases h
  | v :: vs, n :: ns, h => by
    cases h with
    | cons a b =>
      cases a
      rw [RA.of_ints b] <;> rfl
theorem RA.of_bools {H : Hp} : ∀ {vs : List V} {ns : List Bool}, RA H vs (ns.map PyData.bool) → vs = ns.map V.bl
  | [], [], _ => rfl
  | _ :: _, [], h => by cases h
  | [], _ :: _, h => by cases h
  | v :: vs, n :: ns, h => by
    cases h with
    | cons a b =>
      cases a
      rw [RA.of_bools b] <;> rfl
/-! ### a heap and the part of it that stands -/
/-- Hs, within H, grows; what of H was not in it does not come into it -/
structure Gr (Hs H Hs' H' : Hp) : Prop where
  s : Same Hs Hs'
  h : Same H H'
  sub : Same Hs' H'
  non : ∀ a, Hs a = none → H a ≠ none → Hs' a = none
theorem Gr.refl {Hs H : Hp} (e : Same Hs H) : Gr Hs H Hs H := ⟨.refl _, .refl _, e, fun _ h _ => h⟩
theorem Gr.trans {A a B b C c : Hp} (x : Gr A a B b) (y : Gr B b C c) : Gr A a C c :=
  ⟨x.s.trans y.s, x.h.trans y.h, y.sub, fun p h1 h2 => y.non p (x.non p h1 h2) fun z => by
    cases q : a p with
    | none => exact h2 q
    | some o =>
      rw [x.h p o q] at z
      cases z⟩
theorem some_of_ne {H : Hp} {a : Addr} (h : H a ≠ none) : ∃ o, H a = some o := by
  cases q : H a with
  | none => exact absurd q h
  | some o => exact ⟨o, rfl⟩
theorem same_new {H : Hp} {p : Addr} {o : HO} (h : H p = none) : Same H (upd H p o) := fun b u e => by
  rw [upd_ne (ne_of_none e h)]
  exact e
theorem Same.sub_none {Hs H : Hp} (e : Same Hs H) {p : Addr} (h : H p = none) : Hs p = none := Same.free e h
/-- a new object, standing -/
theorem Gr.new {Hs H : Hp} {p : Addr} {o : HO} (e : Same Hs H) (h : H p = none) : Gr Hs H (upd Hs p o) (upd H p o) :=
  ⟨same_new (Same.free e h), same_new h, fun b u q => by
    by_cases hb : b = p
    · subst hb
      rw [upd_same] at q ⊢
      exact q
    · rw [upd_ne hb] at q ⊢
      exact e _ _ q, fun b h1 h2 => by
    rw [upd_ne (show b ≠ p from fun z => h2 (by rw [z]; exact h))]
    exact h1⟩
/-- a new object of one's own -/
theorem Gr.own {Hs H : Hp} {p : Addr} {o : HO} (e : Same Hs H) (h : H p = none) : Gr Hs H Hs (upd H p o) :=
  ⟨.refl _, same_new h, e.trans (same_new h), fun _ h1 _ => h1⟩
/-- a list of one's own: it does not stand, its items do -/
def Own (Hs H : Hp) (v : V) (d : PyData) : Prop := ∃ a vs ds, v = .ref a ∧ d = .list ds ∧ Hs a = none ∧ H a = some (.lst vs) ∧ RA Hs vs ds
theorem Own.mono {Hs H Hs' H' : Hp} {v : V} {d : PyData} (g : Gr Hs H Hs' H') (x : Own Hs H v d) : Own Hs' H' v d := by
  obtain ⟨a, vs, ds, rfl, rfl, h1, h2, h3⟩ := x
  exact ⟨a, vs, ds, rfl, rfl, g.non a h1 (by rw [h2]; simp), g.h _ _ h2, h3.mono g.s⟩
/-! ### the slots of a def -/
structure Slots (O : List Nat) (ρ : Rho) (σ : St) (Hs H : Hp) : Prop where
  sub : Same Hs H
  len : σ.length = ρ.length
  val : ∀ (i : Nat) (d : PyData), ρ[i]? = some (some d) → ∃ v, σ[i]? = some (some v) ∧ (O.contains i = true → Own Hs H v d) ∧ (O.contains i = false → R Hs v d)
  dis : ∀ (i j : Nat) (di dj : PyData) (v : V), i ≠ j → O.contains i = true → O.contains j = true → ρ[i]? = some (some di) → ρ[j]? = some (some dj) → σ[i]? = some (some v) → σ[j]? ≠ some (some v)
theorem Slots.mono {O : List Nat} {ρ : Rho} {σ : St} {Hs H Hs' H' : Hp} (g : Gr Hs H Hs' H') (x : Slots O ρ σ Hs H) : Slots O ρ σ Hs' H' :=
  ⟨g.sub, x.len, fun i d h => by
    obtain ⟨v, h1, h2, h3⟩ := x.val i d h
    exact ⟨v, h1, fun o => (h2 o).mono g, fun o => (h3 o).mono g.s⟩, x.dis⟩
/-- how a value is had: it stands; it may be read; it is a new list of one's own -/
inductive Md where
  | cl | rd | ow
  deriving DecidableEq
def Res (m : Md) (H0 Hs H : Hp) (v : V) (d : PyData) : Prop := match m with
  | .cl => R Hs v d
  | .rd => R Hs v d ∨ Own Hs H v d
  | .ow => Own Hs H v d ∧ ∃ a, v = .ref a ∧ H0 a = none
def Ev (te : TE) (σ : St) (Hs H : Hp) (m : Md) (d : PyData) : Prop := ∀ Q : VK, (∀ v Hs' H', Gr Hs H Hs' H' → Res m H Hs' H' v d → Q v H') → te σ H Q
def EvT (tt : TT) (σ : St) (Hs H : Hp) (b : Bool) : Prop := ∀ Q : Bool → Hp → Prop, (∀ Hs' H', Gr Hs H Hs' H' → Q b H') → tt σ H Q
structure DE (X : Cx) (O : List Nat) (m : Md) (e : Expr) (te : TE) (f : Rho → Option PyData) : Prop where
  pe : PE X e te
  ev : ∀ (ρ : Rho) (σ : St) (Hs H : Hp) (d : PyData), Slots O ρ σ Hs H → f ρ = some d → Ev te σ Hs H m d
structure DT (X : Cx) (O : List Nat) (e : Expr) (tt : TT) (f : Rho → Option Bool) : Prop where
  pt : PT X e tt
  ev : ∀ (ρ : Rho) (σ : St) (Hs H : Hp) (b : Bool), Slots O ρ σ Hs H → f ρ = some b → EvT tt σ Hs H b
theorem own_cl {H0 Hs H : Hp} {v : V} {d : PyData} {a : Addr} (x : Own Hs H v d) (hv : v = .ref a) (hn : H0 a = none) (g : ∀ b, Hs b ≠ none → Hs b ≠ none) :
    ∃ o, H a = some o ∧ R (upd Hs a o) v d ∧ Same Hs (upd Hs a o) := by
  obtain ⟨a', vs, ds, rfl, rfl, h1, h2, h3⟩ := x
  have e : a' = a := V.ref.inj hv
  subst e
  exact ⟨_, h2, .lst (ls_of upd_same) (h3.mono (same_new h1)), same_new h1⟩
/-- a new list of one's own may stand -/
theorem Ev.cl_of {te : TE} {σ : St} {Hs H : Hp} {d : PyData} (h : Ev te σ Hs H .ow d) : Ev te σ Hs H .cl d := fun Q q => h Q fun v Hs' H' g r => by
  obtain ⟨x, a, hv, hn⟩ := r
  obtain ⟨a', vs, ds, rfl, rfl, h1, h2, h3⟩ := x
  have e : a' = a := V.ref.inj hv
  subst e
  refine q _ (upd Hs' a' (.lst vs)) H' ⟨g.s.trans (same_new h1), g.h, fun b u z => ?_, fun b z1 z2 => ?_⟩ (show R _ _ _ from .lst (ls_of upd_same) (h3.mono (same_new h1)))
  · by_cases hb : b = a'
    · subst hb
      rw [upd_same] at z
      rw [h2]
      exact z
    · rw [upd_ne hb] at z
      exact g.sub _ _ z
  · rw [upd_ne (show b ≠ a' from fun z => z2 (by rw [z]; exact hn))]
    exact g.non b z1 z2
theorem Ev.rd_of {te : TE} {σ : St} {Hs H : Hp} {d : PyData} (h : Ev te σ Hs H .cl d) : Ev te σ Hs H .rd d := fun Q q => h Q fun v Hs' H' g r => q v Hs' H' g (.inl r)
section
variable {X : Cx} {O : List Nat} {e : Expr} {te : TE} {f : Rho → Option PyData}
theorem DE.cl_ (h : DE X O .ow e te f) : DE X O .cl e te f := ⟨h.pe, fun ρ σ Hs H d s q => (h.ev ρ σ Hs H d s q).cl_of⟩
theorem DE.rd_ (h : DE X O .cl e te f) : DE X O .rd e te f := ⟨h.pe, fun ρ σ Hs H d s q => (h.ev ρ σ Hs H d s q).rd_of⟩
theorem DE.or_ (h : DE X O .ow e te f) : DE X O .rd e te f := h.cl_.rd_
end
/-- what a list that may be read is -/
theorem rd_list {H0 Hs H : Hp} {v : V} {ds : List PyData} (e : Same Hs H) (h : Res .rd H0 Hs H v (.list ds)) : ∃ a vs, v = .ref a ∧ LsK H a vs ∧ RA Hs vs ds := by
  rcases h with h | ⟨a, vs, ds', rfl, q, _, h2, h3⟩
  · cases h with
    | lst h1 h2 => exact ⟨_, _, rfl, ls_mono e h1, h2⟩
  · cases q
    exact ⟨a, vs, rfl, ls_of h2, h3⟩
theorem rd_tup {H0 Hs H : Hp} {v : V} {ds : List PyData} (e : Same Hs H) (h : Res .rd H0 Hs H v (.tuple ds)) : ∃ a vs, v = .ref a ∧ Rd H a (.tup vs) ∧ RA Hs vs ds := by
  rcases h with h | ⟨a, vs, ds', rfl, q, _, h2, h3⟩
  · cases h with
    | tup h1 h2 => exact ⟨_, _, rfl, rd_mono e h1, h2⟩
  · cases q
theorem rd_R {H0 Hs H : Hp} {v : V} {d : PyData} (e : Same Hs H) (h : Res .rd H0 Hs H v d) : R H v d := by
  rcases h with h | ⟨a, vs, ds', rfl, rfl, _, h2, h3⟩
  · exact h.mono e
  · exact .lst (ls_of h2) (h3.mono e)
theorem rd_int {H0 Hs H : Hp} {v : V} {i : Int} (h : Res .rd H0 Hs H v (.int i)) : v = .int i := by
  rcases h with h | ⟨_, _, _, _, q, _⟩
  · cases h; rfl
  · cases q
theorem rd_bool {H0 Hs H : Hp} {v : V} {i : Bool} (h : Res .rd H0 Hs H v (.bool i)) : v = .bl i := by
  rcases h with h | ⟨_, _, _, _, q, _⟩
  · cases h; rfl
  · cases q
theorem rd_str {H0 Hs H : Hp} {v : V} {i : Str} (h : Res .rd H0 Hs H v (.str i)) : v = .str i := by
  rcases h with h | ⟨_, _, _, _, q, _⟩
  · cases h; rfl
  · cases q
end DL
set_option Elab.async false
set_option linter.all false
set_option maxRecDepth 100000
namespace DL
open PySem PySem.Spec L2
open PyProof.Rows hiding St
variable [KF]
/-! ### what expressions mean -/
abbrev F := Rho → Option PyData
abbrev FT := Rho → Option Bool
abbrev FA := Rho → Option (List PyData)
def fVar (i : Nat) : F := fun ρ => (ρ[i]?).getD none
def fC (d : PyData) : F := fun _ => some d
def fBin (g : PyData → PyData → Option PyData) (a b : F) : F := fun ρ => (a ρ).bind fun x => (b ρ).bind fun y => g x y
def fUn (g : PyData → Option PyData) (a : F) : F := fun ρ => (a ρ).bind g
def fNilA : FA := fun _ => some []
def fConsA (a : F) (r : FA) : FA := fun ρ => (a ρ).bind fun x => (r ρ).bind fun xs => some (x :: xs)
def fFn (g : List PyData → Option PyData) (a : FA) : F := fun ρ => (a ρ).bind g
def fIf (c : FT) (a b : F) : F := fun ρ => (c ρ).bind fun k => if k = true then a ρ else b ρ
def fAnd (a b : F) : F := fun ρ => (a ρ).bind fun x => match x with
  | .bool true => b ρ
  | .bool false => some (.bool false)
  | _ => none
def fOr (a b : F) : F := fun ρ => (a ρ).bind fun x => match x with
  | .bool true => some (.bool true)
  | .bool false => b ρ
  | _ => none
def gNot : PyData → Option PyData
  | .bool b => some (.bool (!b))
  | _ => none
def fChain (g g' : PyData → PyData → Option PyData) (a b c : F) : F := fun ρ => (a ρ).bind fun x => (b ρ).bind fun y => (g x y).bind fun z => match z with
  | .bool true => (c ρ).bind fun w => g' y w
  | .bool false => some (.bool false)
  | _ => none
/-- tests -/
def tV (a : F) : FT := fun ρ => (a ρ).bind fun x => match x with
  | .bool b => some b
  | _ => none
def tTr (a : F) : FT := fun ρ => (a ρ).bind fun x => match x with
  | .none => some false
  | .bool b => some b
  | .int i => some (i != 0)
  | .list xs => some (!xs.isEmpty)
  | .tuple xs => some (!xs.isEmpty)
  | _ => none
def tA (a b : FT) : FT := fun ρ => (a ρ).bind fun k => if k = true then b ρ else some false
def tO (a b : FT) : FT := fun ρ => (a ρ).bind fun k => if k = true then some true else b ρ
def tN (a : FT) : FT := fun ρ => (a ρ).bind fun k => some (!k)
omit [KF] in
theorem bind_some {α β : Type} {a : Option α} {f : α → Option β} {b : β} (h : a.bind f = some b) : ∃ x, a = some x ∧ f x = some b := by
  cases a with
  | none => cases h
  | some x => exact ⟨x, rfl, h⟩
theorem Res.rd_mono {H0 Hs H H1 Hs' H' : Hp} {v : V} {d : PyData} (g : Gr Hs H Hs' H') (x : Res .rd H0 Hs H v d) : Res .rd H1 Hs' H' v d := by
  rcases x with x | x
  · exact .inl (x.mono g.s)
  · exact .inr (x.mono g)
/-- a result had from a later heap -/
theorem Res.back {m : Md} {H0 H1 Hs H : Hp} {v : V} {d : PyData} (e : Same H0 H1) (x : Res m H1 Hs H v d) : Res m H0 Hs H v d := by
  cases m with
  | cl => exact x
  | rd => exact x
  | ow =>
    obtain ⟨x, a, h, n⟩ := x
    exact ⟨x, a, h, Same.free e n⟩
theorem Ev.back {te : TE} {σ : St} {Hs H : Hp} {m : Md} {d : PyData} (h : Ev te σ Hs H m d) {Q : VK} (q : ∀ v Hs' H', Gr Hs H Hs' H' → Res m H Hs' H' v d → Q v H') : te σ H Q := h Q q
/-! ### operations on values -/
abbrev CDivL (_ j : Int) : Prop := j ≠ 0 ∧ j.natAbs.log2 < 9000
theorem op_fdivL {X : Cx} : OpR X (binaryOp .FloorDiv) (rI CDivL fun i j => .int (i.fdiv j)) := opI fun _ _ _ _ _ _ _ hc q => PyProof.Rows.floordiv_int hc.1 q (.inl (PyProof.noPylong_of_log2 hc.2))
abbrev rAddI : R2 := rI0 fun i j => .int (i + j)
abbrev rSubI : R2 := rI0 fun i j => .int (i - j)
abbrev rMulI : R2 := rI CMulX fun i j => .int (i * j)
abbrev rModI : R2 := rI (fun _ j => j ≠ 0) fun i j => .int (i.fmod j)
abbrev rDivI : R2 := rI CDivL fun i j => .int (i.fdiv j)
abbrev rPowI : R2 := rI CPow fun i j => .int (i ^ j.toNat)
abbrev rAndI : R2 := rI0 fun i j => .int (Builtin.bitAnd i j)
abbrev rLtI : R2 := rI0 fun i j => .bl (decide (i < j))
abbrev rLeI : R2 := rI0 fun i j => .bl (decide (i ≤ j))
abbrev rGtI : R2 := rI0 fun i j => .bl (decide (j < i))
abbrev rGeI : R2 := rI0 fun i j => .bl (decide (j ≤ i))
abbrev rIsD : R2 := fun x y H Q => y = .non ∧ Q (.bl (decide (x = .non))) H
abbrev rIsNotD : R2 := fun x y H Q => y = .non ∧ Q (.bl (!decide (x = .non))) H
def OpD (r : R2) (m : Md) (g : PyData → PyData → Option PyData) : Prop := ∀ (Hs H : Hp) (v w : V) (x y z : PyData), Same Hs H → Res .rd H Hs H v x → Res .rd H Hs H w y → g x y = some z →
  ∀ Q : VK, (∀ u Hs' H', Gr Hs H Hs' H' → Res m H Hs' H' u z → Q u H') → r v w H Q
def UnD (r : V → Hp → VK → Prop) (m : Md) (g : PyData → Option PyData) : Prop := ∀ (Hs H : Hp) (v : V) (x z : PyData), Same Hs H → Res .rd H Hs H v x → g x = some z →
  ∀ Q : VK, (∀ u Hs' H', Gr Hs H Hs' H' → Res m H Hs' H' u z → Q u H') → r v H Q
inductive RdA (Hs H : Hp) : List V → List PyData → Prop
  | nil : RdA Hs H [] []
  | cons {v : V} {vs : List V} {d : PyData} {ds : List PyData} : Res .rd H Hs H v d → RdA Hs H vs ds → RdA Hs H (v :: vs) (d :: ds)
theorem RdA.mono {Hs H Hs' H' : Hp} (g : Gr Hs H Hs' H') : ∀ {vs : List V} {ds : List PyData}, RdA Hs H vs ds → RdA Hs' H' vs ds
  | _, _, .nil => .nil
  | _, _, .cons h r => .cons (h.rd_mono g) (RdA.mono g r)
def CallD (r : List V → Hp → VK → Prop) (m : Md) (g : List PyData → Option PyData) : Prop := ∀ (Hs H : Hp) (vs : List V) (xs : List PyData) (z : PyData), Same Hs H → RdA Hs H vs xs → g xs = some z →
  ∀ Q : VK, (∀ u Hs' H', Gr Hs H Hs' H' → Res m H Hs' H' u z → Q u H') → r vs H Q
structure DA (X : Cx) (O : List Nat) (es : List Expr) (ta : TA) (f : FA) : Prop where
  pa : PA X es ta
  ev : ∀ (ρ : Rho) (σ : St) (Hs H : Hp) (ds : List PyData), Slots O ρ σ Hs H → f ρ = some ds → ∀ Q : List V → Hp → Prop, (∀ vs Hs' H', Gr Hs H Hs' H' → RdA Hs' H' vs ds → Q vs H') → ta σ H Q
/-- arguments that stand -/
structure DAc (X : Cx) (O : List Nat) (es : List Expr) (ta : TA) (f : FA) : Prop where
  pa : PA X es ta
  ev : ∀ (ρ : Rho) (σ : St) (Hs H : Hp) (ds : List PyData), Slots O ρ σ Hs H → f ρ = some ds → ∀ Q : List V → Hp → Prop, (∀ vs Hs' H', Gr Hs H Hs' H' → RA Hs' vs ds → Q vs H') → ta σ H Q
section
variable {X : Cx} {O : List Nat} {e a b c : Expr} {es : List Expr} {te ta tb tc : TE} {tA' tB' : TT} {f fa fb fc : F} {ft fu : FT} {m : Md} {pos : Pos}
theorem same_of {O : List Nat} {ρ : Rho} {σ : St} {Hs H : Hp} (s : Slots O ρ σ Hs H) : Same Hs H := s.sub
/-! ### names, constants -/
theorem de_var (i : Nat) {x : Str} {p : Pos} (ho : O.contains i = false) (hN : X.N[i]? = some x := by rfl) (hv : Vis X.env.scope x := by first | exact Or.inl rfl | exact Or.inr (Or.inl rfl) | exact Or.inr (Or.inr rfl)) (hd : (x == ("__debug__" : Str)) = false := by decide)
    (hcd : (x == ("__classdict__" : Str)) = false := by decide) : DE X O .cl (.Name x p) (tVar i) (fVar i) :=
  ⟨pe_var hN hv hd hcd, fun ρ σ Hs H d s h Q q => by
    unfold fVar at h
    cases hr : ρ[i]? with
    | none => rw [hr] at h; cases h
    | some o =>
      rw [hr] at h
      obtain ⟨v, h1, _, h3⟩ := s.val i d (by rw [hr]; exact congrArg some h)
      exact ⟨v, h1, q v Hs H (.refl s.sub) (h3 ho)⟩⟩
/-- a name that may hold a list of one's own -/
theorem de_varR (i : Nat) {x : Str} {p : Pos} (hN : X.N[i]? = some x := by rfl) (hv : Vis X.env.scope x := by first | exact Or.inl rfl | exact Or.inr (Or.inl rfl) | exact Or.inr (Or.inr rfl)) (hd : (x == ("__debug__" : Str)) = false := by decide)
    (hcd : (x == ("__classdict__" : Str)) = false := by decide) : DE X O .rd (.Name x p) (tVar i) (fVar i) :=
  ⟨pe_var hN hv hd hcd, fun ρ σ Hs H d s h Q q => by
    unfold fVar at h
    cases hr : ρ[i]? with
    | none => rw [hr] at h; cases h
    | some o =>
      rw [hr] at h
      obtain ⟨v, h1, h2, h3⟩ := s.val i d (by rw [hr]; exact congrArg some h)
      refine ⟨v, h1, q v Hs H (.refl s.sub) ?_⟩
      cases hc : O.contains i with
      | true => exact .inr (h2 hc)
      | false => exact .inl (h3 hc)⟩
theorem de_c {v : V} {d : PyData} (h : PE X e (tC v)) (r : ∀ H, R H v d) : DE X O .cl e (tC v) (fC d) :=
  ⟨h, fun ρ σ Hs H z s hf Q q => by
    cases hf
    exact q v Hs H (.refl s.sub) (r Hs)⟩
theorem de_int {i : Int} {j : Nat} : DE X O .cl (.Constant (.int i) j pos) (tC (.int i)) (fC (.int i)) := de_c pe_int fun _ => .int i
theorem de_bl {i : Bool} {j : Nat} : DE X O .cl (.Constant (.bool i) j pos) (tC (.bl i)) (fC (.bool i)) := de_c pe_bl fun _ => .bl i
theorem de_non {j : Nat} : DE X O .cl (.Constant .none j pos) (tC .non) (fC .none) := de_c pe_non fun _ => .non
theorem de_str {x : Str} {j : Nat} : DE X O .cl (.Constant (.str x) j pos) (tC (.str x)) (fC (.str x)) := de_c pe_str fun _ => .str x
/-! ### operators -/
theorem ev_op2 {r : R2} {g : PyData → PyData → Option PyData} (hg : OpD r m g) {ρ : Rho} {σ : St} {Hs H : Hp} {d : PyData} (ha : DE X O .rd a ta fa) (hb : DE X O .rd b tb fb) (s : Slots O ρ σ Hs H) (h : fBin g fa fb ρ = some d) : Ev (tOp r ta tb) σ Hs H m d := fun Q q => by
  obtain ⟨x, hx, h⟩ := bind_some h
  obtain ⟨y, hy, h⟩ := bind_some h
  refine ha.ev ρ σ Hs H x s hx _ fun v Hs1 H1 g1 r1 => ?_
  refine hb.ev ρ σ Hs1 H1 y (s.mono g1) hy _ fun w Hs2 H2 g2 r2 => ?_
  exact hg Hs2 H2 v w x y d g2.sub (r1.rd_mono g2) (r2.rd_mono (.refl g2.sub)) h Q fun u Hs3 H3 g3 r3 => q u Hs3 H3 ((g1.trans g2).trans g3) (r3.back (g1.h.trans g2.h))
theorem de_op {op : Operator} {r : R2} {g : PyData → PyData → Option PyData} (ho : OpR X (binaryOp op) r) (hg : OpD r m g) (ha : DE X O .rd a ta fa) (hb : DE X O .rd b tb fb) : DE X O m (.BinOp a op b pos) (tOp r ta tb) (fBin g fa fb) :=
  ⟨pe_op ho ha.pe hb.pe, fun _ _ _ _ _ s h => ev_op2 hg ha hb s h⟩
theorem de_cmp {op : CmpOp} {r : R2} {g : PyData → PyData → Option PyData} (ho : OpR X (compareOp op) r) (hg : OpD r m g) (ha : DE X O .rd a ta fa) (hb : DE X O .rd b tb fb) (hm : behindInMarks op b = false := by rfl) : DE X O m (.Compare a [op] [b] pos) (tOp r ta tb) (fBin g fa fb) :=
  ⟨pe_cmpR ho ha.pe hb.pe hm, fun _ _ _ _ _ s h => ev_op2 hg ha hb s h⟩
theorem de_ixR {r : R2} {g : PyData → PyData → Option PyData} (ho : IxR X r) (hg : OpD r m g) (ha : DE X O .rd a ta fa) (hb : DE X O .rd b tb fb) (hs : PlainIx b := by intro _ _; rfl) : DE X O m (.Subscript a b pos) (tOp r ta tb) (fBin g fa fb) :=
  ⟨pe_ix ho ha.pe hb.pe hs, fun _ _ _ _ _ s h => ev_op2 hg ha hb s h⟩
theorem ev_un1 {r : V → Hp → VK → Prop} {g : PyData → Option PyData} (hg : UnD r m g) {ρ : Rho} {σ : St} {Hs H : Hp} {d : PyData} (ha : DE X O .rd a ta fa) (s : Slots O ρ σ Hs H) (h : fUn g fa ρ = some d) : Ev (tUn r ta) σ Hs H m d := fun Q q => by
  obtain ⟨x, hx, h⟩ := bind_some h
  refine ha.ev ρ σ Hs H x s hx _ fun v Hs1 H1 g1 r1 => ?_
  exact hg Hs1 H1 v x d g1.sub (r1.rd_mono (.refl g1.sub)) h Q fun u Hs3 H3 g3 r3 => q u Hs3 H3 (g1.trans g3) (r3.back g1.h)
theorem de_un {op : UnaryOp} {r : V → Hp → VK → Prop} {g : PyData → Option PyData} (ho : UnR X (unaryOp op) r) (hg : UnD r m g) (ha : DE X O .rd a ta fa) : DE X O m (.UnaryOp op a pos) (tUn r ta) (fUn g fa) :=
  ⟨pe_un ho ha.pe, fun _ _ _ _ _ s h => ev_un1 hg ha s h⟩
theorem OpD.or {r r' : R2} {g g' : PyData → PyData → Option PyData} (h : OpD r m g) (h' : OpD r' m g') : OpD (fun x y H Q => r x y H Q ∨ r' x y H Q) m (fun x y => (g x y).or (g' x y)) := by
  intro Hs H v w x y z e h1 h2 hz Q q
  have hz : (g x y).or (g' x y) = some z := hz
  cases hg : g x y with
  | some z' =>
    rw [hg] at hz
    exact .inl (h Hs H v w x y z e h1 h2 (by rw [hg]; exact hz) Q q)
  | none =>
    rw [hg] at hz
    exact .inr (h' Hs H v w x y z e h1 h2 hz Q q)
theorem res_int {H0 Hs H : Hp} {i : Int} : Res .cl H0 Hs H (.int i) (.int i) := .int i
theorem res_bl {H0 Hs H : Hp} {i : Bool} : Res .cl H0 Hs H (.bl i) (.bool i) := .bl i
/-- two ints -/
def gI (C : Int → Int → Bool) (k : Int → Int → PyData) : PyData → PyData → Option PyData
  | .int i, .int j => if C i j = true then some (k i j) else none
  | _, _ => none
omit [KF] in
theorem gI_some {C : Int → Int → Bool} {k : Int → Int → PyData} {x y z : PyData} (h : gI C k x y = some z) : ∃ i j, x = .int i ∧ y = .int j ∧ C i j = true ∧ k i j = z := by
  cases x <;> cases y <;> try (cases h; done)
  rename_i i j
  refine ⟨i, j, rfl, rfl, ?_⟩
  have h : (if C i j = true then some (k i j) else none) = some z := h
  by_cases hc : C i j = true
  · rw [if_pos hc] at h
    exact ⟨hc, Option.some.inj h⟩
  · rw [if_neg hc] at h
    cases h
theorem opd_I0 {g : Int → Int → Int} : OpD (rI0 fun i j => .int (g i j)) .cl (gI (fun _ _ => true) fun i j => .int (g i j)) := by
  intro Hs H v w x y z e h1 h2 hz Q q
  obtain ⟨i, j, rfl, rfl, _, rfl⟩ := gI_some hz
  exact ⟨i, j, rd_int h1, rd_int h2, q _ Hs H (.refl e) res_int⟩
theorem opd_B0 {g : Int → Int → Bool} : OpD (rI0 fun i j => .bl (g i j)) .cl (gI (fun _ _ => true) fun i j => .bool (g i j)) := by
  intro Hs H v w x y z e h1 h2 hz Q q
  obtain ⟨i, j, rfl, rfl, _, rfl⟩ := gI_some hz
  exact ⟨i, j, rd_int h1, rd_int h2, q _ Hs H (.refl e) res_bl⟩
theorem opd_I {C : Int → Int → Prop} {D : Int → Int → Bool} {g : Int → Int → Int} (hC : ∀ i j, D i j = true → C i j) : OpD (rI C fun i j => .int (g i j)) .cl (gI D fun i j => .int (g i j)) := by
  intro Hs H v w x y z e h1 h2 hz Q q
  obtain ⟨i, j, rfl, rfl, c, rfl⟩ := gI_some hz
  exact ⟨i, j, rd_int h1, rd_int h2, hC i j c, q _ Hs H (.refl e) res_int⟩
def dAdd := gI (fun _ _ => true) fun i j => .int (i + j)
def dSub := gI (fun _ _ => true) fun i j => .int (i - j)
/-- both together below 2 ^ 27 bits -/
def mulC (i j : Int) : Bool := decide ((Builtin.Int.intBits i : Int) + (Builtin.Int.intBits j : Int) ≤ 134217728)
def dMul := gI mulC fun i j => .int (i * j)
def dMod := gI (fun _ j => decide (j ≠ 0)) fun i j => .int (i.fmod j)
def divC (_ j : Int) : Bool := decide (j ≠ 0 ∧ j.natAbs.log2 < 9000)
def dDiv := gI divC fun i j => .int (i.fdiv j)
def powC (i j : Int) : Bool := decide (0 ≤ j ∧ j ≤ 1000000 ∧ i.natAbs < 2 ^ 64)
def dPow := gI powC fun i j => .int (i ^ j.toNat)
omit [KF] in
theorem mulC_of {i j : Int} (h : mulC i j = true) : CMulX i j := of_decide_eq_true (p := (Builtin.Int.intBits i : Int) + (Builtin.Int.intBits j : Int) ≤ 134217728) h
omit [KF] in
theorem divC_of {i j : Int} (h : divC i j = true) : CDivL i j := of_decide_eq_true (p := j ≠ 0 ∧ j.natAbs.log2 < 9000) h
omit [KF] in
theorem powC_of {i j : Int} (h : powC i j = true) : CPow i j := of_decide_eq_true (p := 0 ≤ j ∧ j ≤ 1000000 ∧ i.natAbs < 2 ^ 64) h
def dBand := gI (fun _ _ => true) fun i j => .int (Builtin.bitAnd i j)
def dLt := gI (fun _ _ => true) fun i j => .bool (decide (i < j))
def dLe := gI (fun _ _ => true) fun i j => .bool (decide (i ≤ j))
def dGt := gI (fun _ _ => true) fun i j => .bool (decide (j < i))
def dGe := gI (fun _ _ => true) fun i j => .bool (decide (j ≤ i))
theorem de_addI (ha : DE X O .rd a ta fa) (hb : DE X O .rd b tb fb) : DE X O .cl (.BinOp a .Add b pos) (tOp rAddI ta tb) (fBin dAdd fa fb) := de_op op_add opd_I0 ha hb
theorem de_sub (ha : DE X O .rd a ta fa) (hb : DE X O .rd b tb fb) : DE X O .cl (.BinOp a .Sub b pos) (tOp rSubI ta tb) (fBin dSub fa fb) := de_op op_sub opd_I0 ha hb
theorem de_mulI (ha : DE X O .rd a ta fa) (hb : DE X O .rd b tb fb) : DE X O .cl (.BinOp a .Mult b pos) (tOp rMulI ta tb) (fBin dMul fa fb) := de_op op_mulX (opd_I fun i j h => mulC_of h) ha hb
theorem de_mod (ha : DE X O .rd a ta fa) (hb : DE X O .rd b tb fb) : DE X O .cl (.BinOp a .Mod b pos) (tOp rModI ta tb) (fBin dMod fa fb) := de_op op_modN (opd_I fun i j h => (show _ from of_decide_eq_true h)) ha hb
theorem de_div (ha : DE X O .rd a ta fa) (hb : DE X O .rd b tb fb) : DE X O .cl (.BinOp a .FloorDiv b pos) (tOp rDivI ta tb) (fBin dDiv fa fb) := de_op op_fdivL (opd_I fun i j h => divC_of h) ha hb
theorem de_pow (ha : DE X O .rd a ta fa) (hb : DE X O .rd b tb fb) : DE X O .cl (.BinOp a .Pow b pos) (tOp rPowI ta tb) (fBin dPow fa fb) := de_op op_pow (opd_I fun i j h => powC_of h) ha hb
theorem de_band (ha : DE X O .rd a ta fa) (hb : DE X O .rd b tb fb) : DE X O .cl (.BinOp a .BitAnd b pos) (tOp rAndI ta tb) (fBin dBand fa fb) := de_op op_and opd_I0 ha hb
theorem de_lt (ha : DE X O .rd a ta fa) (hb : DE X O .rd b tb fb) : DE X O .cl (.Compare a [.Lt] [b] pos) (tOp rLtI ta tb) (fBin dLt fa fb) := de_cmp op_lt opd_B0 ha hb (nomark _)
theorem de_le (ha : DE X O .rd a ta fa) (hb : DE X O .rd b tb fb) : DE X O .cl (.Compare a [.LtE] [b] pos) (tOp rLeI ta tb) (fBin dLe fa fb) := de_cmp op_le opd_B0 ha hb (nomark _)
theorem de_gt (ha : DE X O .rd a ta fa) (hb : DE X O .rd b tb fb) : DE X O .cl (.Compare a [.Gt] [b] pos) (tOp rGtI ta tb) (fBin dGt fa fb) := de_cmp op_gt opd_B0 ha hb (nomark _)
theorem de_ge (ha : DE X O .rd a ta fa) (hb : DE X O .rd b tb fb) : DE X O .cl (.Compare a [.GtE] [b] pos) (tOp rGeI ta tb) (fBin dGe fa fb) := de_cmp op_ge opd_B0 ha hb (nomark _)
def dNeg : PyData → Option PyData
  | .int i => some (.int (-i))
  | _ => none
theorem und_neg : UnD (rU fun i => .int (-i)) .cl dNeg := by
  intro Hs H v x z e h1 hz Q q
  cases x <;> try (cases hz; done)
  cases hz
  exact ⟨_, rd_int h1, q _ Hs H (.refl e) res_int⟩
theorem de_neg (ha : DE X O .rd a ta fa) : DE X O .cl (.UnaryOp .USub a pos) (tUn (rU fun i => .int (-i)) ta) (fUn dNeg fa) := de_un un_neg und_neg ha
/-! ### equality -/
def dEq : PyData → PyData → Option PyData := fun x y => if (SeqAt.shaped x && SeqAt.shaped y) = true then some (.bool (PyData.eqv x y)) else none
def dNe : PyData → PyData → Option PyData := fun x y => if (SeqAt.shaped x && SeqAt.shaped y) = true then some (.bool (!PyData.eqv x y)) else none
theorem opd_eq : OpD (rEqD KF.K) .cl dEq := by
  intro Hs H v w x y z e h1 h2 hz Q q
  unfold dEq at hz
  by_cases hc : (SeqAt.shaped x && SeqAt.shaped y) = true
  · rw [if_pos hc] at hz
    cases hz
    rw [Bool.and_eq_true] at hc
    exact ⟨x, y, (rd_R e h1).dp, (rd_R e h2).dp, hc.1, hc.2, q _ Hs H (.refl e) res_bl⟩
  · rw [if_neg hc] at hz
    cases hz
theorem opd_ne : OpD (rNeD KF.K) .cl dNe := by
  intro Hs H v w x y z e h1 h2 hz Q q
  unfold dNe at hz
  by_cases hc : (SeqAt.shaped x && SeqAt.shaped y) = true
  · rw [if_pos hc] at hz
    cases hz
    rw [Bool.and_eq_true] at hc
    exact ⟨x, y, (rd_R e h1).dp, (rd_R e h2).dp, hc.1, hc.2, q _ Hs H (.refl e) res_bl⟩
  · rw [if_neg hc] at hz
    cases hz
theorem de_eq (hu : X.A.units + 64 < cLine) (hK : X.K = KF.K) (ha : DE X O .rd a ta fa) (hb : DE X O .rd b tb fb) : DE X O .cl (.Compare a [.Eq] [b] pos) (tOp (rEqD X.K) ta tb) (fBin dEq fa fb) := de_cmp (op_eqD hu) (by rw [hK]; exact opd_eq) ha hb (nomark _)
theorem de_ne (hu : X.A.units + 64 < cLine) (hK : X.K = KF.K) (ha : DE X O .rd a ta fa) (hb : DE X O .rd b tb fb) : DE X O .cl (.Compare a [.NotEq] [b] pos) (tOp (rNeD X.K) ta tb) (fBin dNe fa fb) := de_cmp (op_neD hu) (by rw [hK]; exact opd_ne) ha hb (nomark _)
def isN : PyData → Bool
  | .none => true
  | _ => false
theorem isN_of {H0 Hs H : Hp} {v : V} {x : PyData} (h : Res .rd H0 Hs H v x) : decide (v = .non) = isN x := by
  rcases h with h | ⟨a, vs, ds, rfl, rfl, _⟩
  · cases h <;> rfl
  · rfl
def dIs : PyData → PyData → Option PyData := fun x y => match y with
  | .none => some (.bool (isN x))
  | _ => none
def dIsNot : PyData → PyData → Option PyData := fun x y => match y with
  | .none => some (.bool (!isN x))
  | _ => none
theorem opd_is : OpD (fun x y H Q => y = .non ∧ Q (.bl (decide (x = .non))) H) .cl dIs := by
  intro Hs H v w x y z e h1 h2 hz Q q
  cases y <;> try (cases hz; done)
  cases hz
  refine ⟨?_, ?_⟩
  · rcases h2 with h2 | ⟨_, _, _, _, q, _⟩
    · cases h2; rfl
    · cases q
  · show Q (.bl (decide (v = .non))) H
    rw [isN_of h1]
    exact q _ Hs H (.refl e) res_bl
theorem opd_isnot : OpD (fun x y H Q => y = .non ∧ Q (.bl (!decide (x = .non))) H) .cl dIsNot := by
  intro Hs H v w x y z e h1 h2 hz Q q
  cases y <;> try (cases hz; done)
  cases hz
  refine ⟨?_, ?_⟩
  · rcases h2 with h2 | ⟨_, _, _, _, q, _⟩
    · cases h2; rfl
    · cases q
  · show Q (.bl (!decide (v = .non))) H
    rw [isN_of h1]
    exact q _ Hs H (.refl e) res_bl
theorem de_is (ha : DE X O .rd a ta fa) (hb : DE X O .rd b tb fb) : DE X O .cl (.Compare a [.Is] [b] pos) (tOp rIsD ta tb) (fBin dIs fa fb) := de_cmp op_isN opd_is ha hb (nomark _)
theorem de_isnot (ha : DE X O .rd a ta fa) (hb : DE X O .rd b tb fb) : DE X O .cl (.Compare a [.IsNot] [b] pos) (tOp rIsNotD ta tb) (fBin dIsNot fa fb) := de_cmp op_notN opd_isnot ha hb (nomark _)
def dIn : PyData → PyData → Option PyData := fun x y => match y with
  | .list ds => if (SeqAt.shaped x && SeqAt.shaped (.list ds)) = true then some (.bool (ds.any fun z => PyData.eqv z x)) else none
  | _ => none
def dNotIn : PyData → PyData → Option PyData := fun x y => match y with
  | .list ds => if (SeqAt.shaped x && SeqAt.shaped (.list ds)) = true then some (.bool (!ds.any fun z => PyData.eqv z x)) else none
  | _ => none
theorem opd_in : OpD (rInD KF.K) .cl dIn := by
  intro Hs H v w x y z e h1 h2 hz Q q
  cases y <;> try (cases hz; done)
  rename_i ds
  unfold dIn at hz
  by_cases hc : (SeqAt.shaped x && SeqAt.shaped (.list ds)) = true
  · simp only [hc, if_true] at hz
    cases hz
    rw [Bool.and_eq_true] at hc
    exact ⟨x, ds, (rd_R e h1).dp, (rd_R e h2).dp, hc.1, hc.2, q _ Hs H (.refl e) res_bl⟩
  · simp only [hc, if_false] at hz
    cases hz
theorem opd_notin : OpD (rNotInD KF.K) .cl dNotIn := by
  intro Hs H v w x y z e h1 h2 hz Q q
  cases y <;> try (cases hz; done)
  rename_i ds
  unfold dNotIn at hz
  by_cases hc : (SeqAt.shaped x && SeqAt.shaped (.list ds)) = true
  · simp only [hc, if_true] at hz
    cases hz
    rw [Bool.and_eq_true] at hc
    exact ⟨x, ds, (rd_R e h1).dp, (rd_R e h2).dp, hc.1, hc.2, q _ Hs H (.refl e) res_bl⟩
  · simp only [hc, if_false] at hz
    cases hz
/-! ### tests -/
theorem dt_val (ha : DE X O .rd a ta fa) (he : ∀ whole, isTrue a X.env whole = (do let v ← whole; standAt a.pos; holding [v] (truthy v)) := by intro _; rfl) : DT X O a (tB ta) (tV fa) :=
  ⟨pt_val ha.pe he, fun ρ σ Hs H b s h Q q => by
    obtain ⟨x, hx, h⟩ := bind_some h
    refine ha.ev ρ σ Hs H x s hx _ fun v Hs1 H1 g1 r1 => ?_
    cases x <;> try (cases h; done)
    cases h
    exact ⟨_, rd_bool r1, q Hs1 H1 g1⟩⟩
theorem dt_tru (hK : X.K = KF.K) (ha : DE X O .rd a ta fa) (he : ∀ whole, isTrue a X.env whole = (do let v ← whole; standAt a.pos; holding [v] (truthy v)) := by intro _; rfl) : DT X O a (fun σ H Q => ta σ H fun x H' => ∃ k, TruV X.K x H' k ∧ Q k H') (tTr fa) :=
  ⟨pt_truth ha.pe he, fun ρ σ Hs H b s h Q q => by
    obtain ⟨x, hx, h⟩ := bind_some h
    refine ha.ev ρ σ Hs H x s hx _ fun v Hs1 H1 g1 r1 => ?_
    refine ⟨b, ?_, q Hs1 H1 g1⟩
    cases x <;> try (cases h; done)
    · cases h
      rcases r1 with r1 | ⟨_, _, _, _, q, _⟩
      · cases r1; rfl
      · cases q
    · cases h
      rw [rd_bool r1] <;> rfl
    · cases h
      rw [rd_int r1] <;> rfl
    · cases h
      obtain ⟨p, vs, rfl, h1, h2⟩ := rd_list g1.sub r1
      refine .inl ⟨vs, by rw [hK]; exact h1.sq, ?_⟩
      cases h2 <;> rfl
    · cases h
      obtain ⟨p, vs, rfl, h1, h2⟩ := rd_tup g1.sub r1
      refine .inr (.inl ⟨vs, .inl h1, ?_⟩)
      cases h2 <;> rfl⟩
theorem dt_not (ha : DT X O a tA' ft) : DT X O (.UnaryOp .Not a pos) (tNot tA') (tN ft) :=
  ⟨pt_not ha.pt, fun ρ σ Hs H b s h Q q => by
    obtain ⟨x, hx, h⟩ := bind_some h
    cases h
    exact ha.ev ρ σ Hs H x s hx _ fun Hs1 H1 g1 => q Hs1 H1 g1⟩
/-- chains of and, or -/
structure DW (X : Cx) (O : List Nat) (e : Expr) (tt : TT) (f : FT) : Prop where
  pw : PW X e tt
  ev : ∀ (ρ : Rho) (σ : St) (Hs H : Hp) (b : Bool), Slots O ρ σ Hs H → f ρ = some b → EvT tt σ Hs H b
theorem DW.dt (h : DW X O a tA' ft) : DT X O a tA' ft := ⟨h.pw.pt, h.ev⟩
theorem dw_and1 (ha : DT X O a tA' ft) : DW X O (.BoolOp .And [a] pos) tA' ft := ⟨pw_and1 ha.pt, ha.ev⟩
theorem dw_or1 (ha : DT X O a tA' ft) : DW X O (.BoolOp .Or [a] pos) tA' ft := ⟨pw_or1 ha.pt, ha.ev⟩
theorem dw_and {rest : List Expr} (ha : DT X O a tA' ft) (hb : DW X O (.BoolOp .And (b :: rest) pos) tB' fu) : DW X O (.BoolOp .And (a :: b :: rest) pos) (tAnd tA' tB') (tA ft fu) :=
  ⟨pw_and ha.pt hb.pw, fun ρ σ Hs H k s h Q q => by
    obtain ⟨x, hx, h⟩ := bind_some h
    refine ha.ev ρ σ Hs H x s hx _ fun Hs1 H1 g1 => ?_
    cases x with
    | true => exact iteT (hb.ev ρ σ Hs1 H1 k (s.mono g1) h Q fun Hs2 H2 g2 => q Hs2 H2 (g1.trans g2))
    | false =>
      cases h
      exact iteF (q Hs1 H1 g1)⟩
theorem dw_or {rest : List Expr} (ha : DT X O a tA' ft) (hb : DW X O (.BoolOp .Or (b :: rest) pos) tB' fu) : DW X O (.BoolOp .Or (a :: b :: rest) pos) (tOr tA' tB') (tO ft fu) :=
  ⟨pw_or ha.pt hb.pw, fun ρ σ Hs H k s h Q q => by
    obtain ⟨x, hx, h⟩ := bind_some h
    refine ha.ev ρ σ Hs H x s hx _ fun Hs1 H1 g1 => ?_
    cases x with
    | true =>
      cases h
      exact iteT (q Hs1 H1 g1)
    | false => exact iteF (hb.ev ρ σ Hs1 H1 k (s.mono g1) h Q fun Hs2 H2 g2 => q Hs2 H2 (g1.trans g2))⟩
/-! ### and, or, not, if as values -/
theorem de_one {op : BoolOp} (ha : DE X O m a ta fa) : DE X O m (.BoolOp op [a] pos) ta fa := ⟨pe_one ha.pe, ha.ev⟩
theorem de_and {rest : List Expr} (ha : DE X O .rd a ta fa) (hb : DE X O .cl (.BoolOp .And (b :: rest) pos) tb fb) : DE X O .cl (.BoolOp .And (a :: b :: rest) pos) (tAndV ta tb) (fAnd fa fb) :=
  ⟨pe_and ha.pe hb.pe, fun ρ σ Hs H d s h Q q => by
    obtain ⟨x, hx, h⟩ := bind_some h
    refine ha.ev ρ σ Hs H x s hx _ fun v Hs1 H1 g1 r1 => ?_
    cases x <;> try (cases h; done)
    rename_i k
    refine ⟨k, rd_bool r1, ?_⟩
    cases k with
    | true => exact iteT (hb.ev ρ σ Hs1 H1 d (s.mono g1) h Q fun u Hs2 H2 g2 r2 => q u Hs2 H2 (g1.trans g2) r2)
    | false =>
      cases h
      exact iteF (q _ Hs1 H1 g1 res_bl)⟩
theorem de_or {rest : List Expr} (ha : DE X O .rd a ta fa) (hb : DE X O .cl (.BoolOp .Or (b :: rest) pos) tb fb) : DE X O .cl (.BoolOp .Or (a :: b :: rest) pos) (tOrV ta tb) (fOr fa fb) :=
  ⟨pe_or ha.pe hb.pe, fun ρ σ Hs H d s h Q q => by
    obtain ⟨x, hx, h⟩ := bind_some h
    refine ha.ev ρ σ Hs H x s hx _ fun v Hs1 H1 g1 r1 => ?_
    cases x <;> try (cases h; done)
    rename_i k
    refine ⟨k, rd_bool r1, ?_⟩
    cases k with
    | true =>
      cases h
      exact iteT (q _ Hs1 H1 g1 res_bl)
    | false => exact iteF (hb.ev ρ σ Hs1 H1 d (s.mono g1) h Q fun u Hs2 H2 g2 r2 => q u Hs2 H2 (g1.trans g2) r2)⟩
theorem de_not (ha : DE X O .rd a ta fa) : DE X O .cl (.UnaryOp .Not a pos) (tNotV ta) (fUn gNot fa) :=
  ⟨pe_not ha.pe, fun ρ σ Hs H d s h Q q => by
    obtain ⟨x, hx, h⟩ := bind_some h
    refine ha.ev ρ σ Hs H x s hx _ fun v Hs1 H1 g1 r1 => ?_
    cases x <;> try (cases h; done)
    cases h
    exact ⟨_, rd_bool r1, q _ Hs1 H1 g1 res_bl⟩⟩
theorem de_if (hc : DT X O c tA' ft) (ha : DE X O m a ta fa) (hb : DE X O m b tb fb) : DE X O m (.IfExp c a b pos) (tIf tA' ta tb) (fIf ft fa fb) :=
  ⟨pe_ifExp hc.pt ha.pe hb.pe, fun ρ σ Hs H d s h Q q => by
    obtain ⟨x, hx, h⟩ := bind_some h
    refine hc.ev ρ σ Hs H x s hx _ fun Hs1 H1 g1 => ?_
    cases x with
    | true => exact iteT (ha.ev ρ σ Hs1 H1 d (s.mono g1) h Q fun u Hs2 H2 g2 r2 => q u Hs2 H2 (g1.trans g2) (r2.back g1.h))
    | false => exact iteF (hb.ev ρ σ Hs1 H1 d (s.mono g1) h Q fun u Hs2 H2 g2 r2 => q u Hs2 H2 (g1.trans g2) (r2.back g1.h))⟩
theorem de_chain {op op' : CmpOp} {r r' : R2} {g g' : PyData → PyData → Option PyData} (ho : OpR X (compareOp op) r) (hg : OpD r .cl g) (ho' : OpR X (compareOp op') r') (hg' : OpD r' .cl g') (ha : DE X O .rd a ta fa) (hb : DE X O .rd b tb fb) (hc : DE X O .rd c tc fc)
    (hm : lastMarks [op, op'] [b, c] = false := by with_unfolding_all rfl) : DE X O .cl (.Compare a [op, op'] [b, c] pos) (tChain r r' ta tb tc) (fChain g g' fa fb fc) :=
  ⟨pe_chain ho ho' ha.pe hb.pe hc.pe hm, fun ρ σ Hs H d s h Q q => by
    obtain ⟨x, hx, h⟩ := bind_some h
    obtain ⟨y, hy, h⟩ := bind_some h
    obtain ⟨z, hz, h⟩ := bind_some h
    refine ha.ev ρ σ Hs H x s hx _ fun v Hs1 H1 g1 r1 => ?_
    refine hb.ev ρ σ Hs1 H1 y (s.mono g1) hy _ fun w Hs2 H2 g2 r2 => ?_
    refine hg Hs2 H2 v w x y z g2.sub (r1.rd_mono g2) (r2.rd_mono (.refl g2.sub)) hz _ fun u Hs3 H3 g3 r3 => ?_
    cases z <;> try (cases h; done)
    rename_i k
    refine ⟨k, rd_bool (H0 := H3) (Hs := Hs3) (H := H3) (.inl r3), ?_⟩
    cases k with
    | true =>
      obtain ⟨w', hw, h⟩ := bind_some h
      refine iteT (hc.ev ρ σ Hs3 H3 w' (((s.mono g1).mono g2).mono g3) hw _ fun u' Hs4 H4 g4 r4 => ?_)
      exact hg' Hs4 H4 w u' y w' d g4.sub (r2.rd_mono (g3.trans g4)) (r4.rd_mono (.refl g4.sub)) h Q fun u5 Hs5 H5 g5 r5 => q u5 Hs5 H5 ((((g1.trans g2).trans g3).trans g4).trans g5) r5
    | false =>
      cases h
      exact iteF (q _ Hs3 H3 ((g1.trans g2).trans g3) res_bl)⟩
/-! ### arguments -/
theorem da_nil : DA X O [] tNil fNilA := ⟨pa_nil, fun ρ σ Hs H ds s h Q q => by
  cases h
  exact q [] Hs H (.refl s.sub) .nil⟩
theorem da_cons {ta' : TA} {fr : FA} (ha : DE X O .rd e te f) (hr : DA X O es ta' fr) (hs : starEach (e :: es) X.env = (false, eval e X.env) :: starEach es X.env := by rfl) : DA X O (e :: es) (tCons te ta') (fConsA f fr) :=
  ⟨pa_cons ha.pe hr.pa hs, fun ρ σ Hs H ds s h Q q => by
    obtain ⟨x, hx, h⟩ := bind_some h
    obtain ⟨xs, hxs, h⟩ := bind_some h
    cases h
    refine ha.ev ρ σ Hs H x s hx _ fun v Hs1 H1 g1 r1 => ?_
    refine hr.ev ρ σ Hs1 H1 xs (s.mono g1) hxs _ fun vs Hs2 H2 g2 r2 => ?_
    exact q _ Hs2 H2 (g1.trans g2) (.cons (r1.rd_mono g2) r2)⟩
theorem dac_nil : DAc X O [] tNil fNilA := ⟨pa_nil, fun ρ σ Hs H ds s h Q q => by
  cases h
  exact q [] Hs H (.refl s.sub) .nil⟩
theorem dac_cons {ta' : TA} {fr : FA} (ha : DE X O .cl e te f) (hr : DAc X O es ta' fr) (hs : starEach (e :: es) X.env = (false, eval e X.env) :: starEach es X.env := by rfl) : DAc X O (e :: es) (tCons te ta') (fConsA f fr) :=
  ⟨pa_cons ha.pe hr.pa hs, fun ρ σ Hs H ds s h Q q => by
    obtain ⟨x, hx, h⟩ := bind_some h
    obtain ⟨xs, hxs, h⟩ := bind_some h
    cases h
    refine ha.ev ρ σ Hs H x s hx _ fun v Hs1 H1 g1 r1 => ?_
    refine hr.ev ρ σ Hs1 H1 xs (s.mono g1) hxs _ fun vs Hs2 H2 g2 r2 => ?_
    exact q _ Hs2 H2 (g1.trans g2) (.cons (R.mono g2.s r1) r2)⟩
end
end DL
set_option Elab.async false
set_option linter.all false
set_option maxRecDepth 100000
namespace DL
open PySem PySem.Spec L2
open PyProof.Rows hiding St
variable [KF]
/-! ### lists -/
section
variable {X : Cx} {pins : List (Addr × Obj)} {σ : St} {H : Hp} {s : Shared} {l : Addr} {xs : List V}
theorem lstR (hK : X.K = KF.K) (I : Inv X pins σ H s) (hH : LsK H l xs) : xs.length ≤ sizeLine ∧ ∃ (its : List Value) (n : Nat), Vals xs its ∧ xs.length = its.length ∧ s.heap.get? l = some { cls := .type "list", data := .seq its.toArray n } := by
  rcases hH.old with hH | ⟨its, n, h1, h2, h3⟩
  · have q := hH.ok I.hok
    obtain ⟨z, its, n, r, e⟩ := q
    exact ⟨z, its, n, r, Vals.length r, e⟩
  · exact ⟨by rw [Vals.length h3, Array.length_toList]; exact h2, its.toList, n, h3, Vals.length h3, I.kIn l _ (by rw [hK]; exact h1)⟩
end
def rCatR : R2 := fun x y H Q => ∃ l b xs zs, x = .ref l ∧ y = .ref b ∧ LsK H l xs ∧ LsK H b zs ∧ xs.length + zs.length ≤ sizeLine ∧ ∀ p, H p = none → Q (.ref p) (upd H p (.lst (xs ++ zs)))
section
variable {X : Cx}
theorem op_catR (hK : X.K = KF.K) : OpR X (binaryOp .Add) rCatR := by
  intro pins s σ H x y v u Q I rx ry h
  obtain ⟨l, b, xs, zs, rfl, rfl, h1, h2, hz, q⟩ := h
  cases rx
  cases ry
  obtain ⟨z1, is1, n1, r1, hl1, e1⟩ := lstR hK I h1
  obtain ⟨z2, is2, n2, r2, hl2, e2⟩ := lstR hK I h2
  have big : is1.toArray.size + is2.toArray.size ≤ sizeLine := by
    rw [List.size_toArray, List.size_toArray]
    omega
  refine PySem.P.add_list e1 e2 ?_ big
  have both : is1.toArray ++ is2.toArray = (is1 ++ is2).toArray := by simp
  rw [both]
  exact ⟨.ref _, _, I.lnew (t' := s.toks) (r1.append r2) (by rw [List.length_append]; omega), rfl, q _ I.fresh⟩
end
def catC (n m : Nat) : Bool := decide (n + m ≤ 100000)
omit [KF] in
theorem catC_of {n m : Nat} (h : catC n m = true) : n + m ≤ sizeLine := Nat.le_trans (of_decide_eq_true (p := n + m ≤ 100000) h) (by decide)
def dCat : PyData → PyData → Option PyData
  | .list xs, .list ys => if catC xs.length ys.length = true then some (.list (xs ++ ys)) else none
  | _, _ => none
theorem res_new {Hs H : Hp} {vs : List V} {ds : List PyData} {p : Addr} (e : Same Hs H) (hp : H p = none) (r : RA Hs vs ds) : Res .ow H Hs (upd H p (.lst vs)) (.ref p) (.list ds) :=
  ⟨⟨p, vs, ds, rfl, rfl, Same.free e hp, upd_same, r⟩, p, rfl, hp⟩
omit [KF] in
theorem if_some {c : Bool} {α : Type} {a b : α} (h : (if c = true then some a else none) = some b) : c = true ∧ a = b := by
  cases c with
  | true => exact ⟨rfl, Option.some.inj h⟩
  | false => cases h
theorem opd_cat : OpD rCatR .ow dCat := by
  intro Hs H v w x y z e h1 h2 hz Q q
  cases x <;> try (cases hz; done)
  cases y <;> try (cases hz; done)
  rename_i xs ys
  obtain ⟨c, rfl⟩ := if_some (show (if catC xs.length ys.length = true then some (.list (xs ++ ys)) else none) = some z from hz)
  obtain ⟨a, vs, rfl, p1, r1⟩ := rd_list e h1
  obtain ⟨b, ws, rfl, p2, r2⟩ := rd_list e h2
  refine ⟨a, b, vs, ws, rfl, rfl, p1, p2, by rw [r1.length, r2.length]; exact catC_of c, fun p hp => ?_⟩
  exact q _ Hs _ (Gr.own e hp) (res_new e hp (r1.append r2))
section
variable {X : Cx} {O : List Nat} {e a b c : Expr} {es : List Expr} {te ta tb tc : TE} {t : TA} {f fa fb fc : F} {fs : FA} {m : Md} {pos : Pos}
theorem de_cat (hK : X.K = KF.K) (ha : DE X O .rd a ta fa) (hb : DE X O .rd b tb fb) : DE X O .ow (.BinOp a .Add b pos) (tOp rCatR ta tb) (fBin dCat fa fb) := de_op (op_catR hK) opd_cat ha hb
/-- xs * k, xs new -/
def repC (n : Nat) (k : Int) : Bool := decide (-(2 ^ 63) ≤ k ∧ k < 2 ^ 63 ∧ n * k.toNat ≤ 100000)
def dRep : PyData → PyData → Option PyData
  | .list xs, .int k => if repC xs.length k = true then some (.list (List.replicate k.toNat xs).flatten) else none
  | _, _ => none
theorem RA.rep {H : Hp} {vs : List V} {ds : List PyData} (r : RA H vs ds) : ∀ n : Nat, RA H (List.replicate n vs).flatten (List.replicate n ds).flatten
  | 0 => .nil
  | n + 1 => by
    rw [List.replicate_succ, List.replicate_succ, List.flatten_cons, List.flatten_cons]
    exact r.append (RA.rep r n)
theorem de_rep (ha : DE X O .ow a ta fa) (hb : DE X O .rd b tb fb) : DE X O .ow (.BinOp a .Mult b pos) (tOp rRep ta tb) (fBin dRep fa fb) :=
  ⟨pe_op op_rep ha.pe hb.pe, fun ρ σ Hs H d s h Q q => by
    obtain ⟨x, hx, h⟩ := bind_some h
    obtain ⟨y, hy, h⟩ := bind_some h
    refine ha.ev ρ σ Hs H x s hx _ fun v Hs1 H1 g1 r1 => ?_
    refine hb.ev ρ σ Hs1 H1 y (s.mono g1) hy _ fun w Hs2 H2 g2 r2 => ?_
    cases x <;> try (cases h; done)
    cases y <;> try (cases h; done)
    rename_i k
    rename_i xs _
    obtain ⟨c, rfl⟩ := if_some (show (if repC xs.length k = true then some (PyData.list (List.replicate k.toNat xs).flatten) else none) = some d from h)
    have c := of_decide_eq_true (p := -(2 ^ 63) ≤ k ∧ k < 2 ^ 63 ∧ xs.length * k.toNat ≤ 100000) c
    obtain ⟨⟨p, vs, ds, rfl, ed, n1, n2, n3⟩, _⟩ := r1
    cases ed
    refine ⟨p, k, vs, rfl, rd_int r2, g2.h _ _ n2, c.1, c.2.1, ?_, fun l hl => ?_⟩
    · rw [n3.length]
      exact Nat.le_trans c.2.2 (by decide)
    · exact q _ Hs2 _ ((g1.trans g2).trans (Gr.own g2.sub hl)) (Res.back (g1.h.trans g2.h) (res_new g2.sub hl ((n3.mono g2.s).rep _)))⟩
/-- [a, b, ..], (a, b, ..) -/
def dList : List PyData → Option PyData := fun xs => if catC xs.length 0 = true then some (.list xs) else none
def dTup : List PyData → Option PyData := fun xs => if catC xs.length 0 = true then some (.tuple xs) else none
theorem de_list (h : DAc X O es t fs) : DE X O .ow (.List es pos) (tLst t) (fFn dList fs) :=
  ⟨pe_lst h.pa, fun ρ σ Hs H d s hf Q q => by
    obtain ⟨x, hx, hf⟩ := bind_some hf
    obtain ⟨c, rfl⟩ := if_some (show (if catC x.length 0 = true then some (PyData.list x) else none) = some d from hf)
    refine h.ev ρ σ Hs H x s hx _ fun vs Hs1 H1 g1 r1 => ⟨by rw [r1.length]; exact catC_of c, fun p hp => ?_⟩
    exact q _ Hs1 _ (g1.trans (Gr.own g1.sub hp)) (Res.back g1.h (res_new g1.sub hp r1))⟩
theorem de_tup {k : Nat} (h : DAc X O es t fs) : DE X O .cl (.Tuple es k pos) (tTup t) (fFn dTup fs) :=
  ⟨pe_tup h.pa, fun ρ σ Hs H d s hf Q q => by
    obtain ⟨x, hx, hf⟩ := bind_some hf
    obtain ⟨c, rfl⟩ := if_some (show (if catC x.length 0 = true then some (PyData.tuple x) else none) = some d from hf)
    refine h.ev ρ σ Hs H x s hx _ fun vs Hs1 H1 g1 r1 => ⟨by rw [r1.length]; exact catC_of c, fun p hp => ?_⟩
    exact q _ _ _ (g1.trans (Gr.new g1.sub hp)) (show R _ _ _ from .tup (.inl upd_same) (r1.mono (same_new (Same.free g1.sub hp))))⟩
/-- xs[i], t[i] -/
def dIx : PyData → PyData → Option PyData
  | .list xs, .int i => atI xs i
  | .tuple xs, .int i => atI xs i
  | _, _ => none
theorem atI_R {H : Hp} {vs : List V} {ds : List PyData} {i : Int} {d : PyData} (r : RA H vs ds) (h : atI ds i = some d) : ∃ v, atI vs i = some v ∧ R H v d := by
  unfold atI at h ⊢
  rw [r.length]
  obtain ⟨j, hj, h⟩ := bind_some h
  obtain ⟨v, h1, h2⟩ := r.get h
  exact ⟨v, by rw [hj]; exact h1, h2⟩
theorem opd_ix : OpD (rIx KF.K) .cl dIx := by
  intro Hs H v w x y z e h1 h2 hz Q q
  cases x <;> try (cases hz; done)
  · cases y <;> try (cases hz; done)
    rename_i xs i
    obtain ⟨a, vs, rfl, p1, r1⟩ := rd_list e h1
    obtain ⟨u, hu, ru⟩ := atI_R r1 (show atI xs i = some z from hz)
    exact .inl ⟨a, vs, i, u, rfl, rd_int h2, p1.sq, hu, q u Hs H (.refl e) ru⟩
  · cases y <;> try (cases hz; done)
    rename_i xs i
    obtain ⟨a, vs, rfl, p1, r1⟩ := rd_tup e h1
    obtain ⟨u, hu, ru⟩ := atI_R r1 (show atI xs i = some z from hz)
    exact .inr (.inl ⟨a, vs, i, u, rfl, rd_int h2, .inl p1, hu, q u Hs H (.refl e) ru⟩)
theorem de_ix (hK : X.K = KF.K) (ha : DE X O .rd a ta fa) (hb : DE X O .rd b tb fb) (hs : PlainIx b := by intro _ _; rfl) : DE X O .cl (.Subscript a b pos) (tOp (rIx X.K) ta tb) (fBin dIx fa fb) := de_ixR ix_seq (by rw [hK]; exact opd_ix) ha hb hs
/-- a part of a slice -/
structure DO (X : Cx) (O : List Nat) (e : Option Expr) (to : TO) (f : Rho → Option (Option Int)) : Prop where
  po : PO X e to
  ev : ∀ (ρ : Rho) (σ : St) (Hs H : Hp) (o : Option Int), Slots O ρ σ Hs H → f ρ = some o → ∀ Q : Option Int → Hp → Prop, (∀ Hs' H', Gr Hs H Hs' H' → Q o H') → to σ H Q
def oNone : Rho → Option (Option Int) := fun _ => some none
def oSome (f : F) : Rho → Option (Option Int) := fun ρ => (f ρ).bind fun x => match x with
  | .int i => some (some i)
  | _ => none
theorem do_none : DO X O none tNoPart oNone := ⟨po_none, fun ρ σ Hs H o s h Q q => by
  cases h
  exact q Hs H (.refl s.sub)⟩
theorem do_some (h : DE X O .rd e te f) : DO X O (some e) (tPart te) (oSome f) := ⟨po_some h.pe, fun ρ σ Hs H o s hf Q q => by
  obtain ⟨x, hx, hf⟩ := bind_some hf
  refine h.ev ρ σ Hs H x s hx _ fun v Hs1 H1 g1 r1 => ?_
  cases x <;> try (cases hf; done)
  cases hf
  exact ⟨_, rd_int r1, q Hs1 H1 g1⟩⟩
def cutD (xs : List PyData) (lo hi : Option Int) : List PyData := (xs.drop (HT.sIx xs.length 0 lo)).take (HT.sIx xs.length xs.length hi - HT.sIx xs.length 0 lo)
def fSl (fa : F) (l h : Rho → Option (Option Int)) : F := fun ρ => (fa ρ).bind fun x => (l ρ).bind fun lo => (h ρ).bind fun hi => match x with
  | .list xs => some (.list (cutD xs lo hi))
  | _ => none
theorem de_slice (hK : X.K = KF.K) {lo hi : Option Expr} {tl th : TO} {fl fh : Rho → Option (Option Int)} {p2 : Pos} (ha : DE X O .rd a ta fa) (hl : DO X O lo tl fl) (hh : DO X O hi th fh) : DE X O .ow (.Subscript a (.Slice lo hi none p2) pos) (tSl (rSlL X.K) ta tl th) (fSl fa fl fh) :=
  ⟨pe_slice sl_list ha.pe hl.po hh.po, fun ρ σ Hs H d s h Q q => by
    obtain ⟨x, hx, h⟩ := bind_some h
    obtain ⟨l, h1, h⟩ := bind_some h
    obtain ⟨u, h2, h⟩ := bind_some h
    refine ha.ev ρ σ Hs H x s hx _ fun v Hs1 H1 g1 r1 => ?_
    refine hl.ev ρ σ Hs1 H1 l (s.mono g1) h1 _ fun Hs2 H2 g2 => ?_
    refine hh.ev ρ σ Hs2 H2 u ((s.mono g1).mono g2) h2 _ fun Hs3 H3 g3 => ?_
    cases x <;> try (cases h; done)
    cases h
    obtain ⟨p, vs, rfl, p1, p2⟩ := rd_list g1.sub r1
    have g23 := g2.trans g3
    refine ⟨p, vs, rfl, by rw [hK]; exact (ls_mono g23.h p1).sq, fun n hn => ?_⟩
    have rr := p2.mono g23.s
    have er : cutV vs l u = (vs.drop (HT.sIx vs.length 0 l)).take (HT.sIx vs.length vs.length u - HT.sIx vs.length 0 l) := rfl
    rw [er, rr.length]
    exact q _ Hs3 _ ((g1.trans g23).trans (Gr.own g3.sub hn)) (Res.back (g1.trans g23).h (res_new g3.sub hn ((rr.drop _).take _)))⟩
/-! ### calls of what is built in -/
theorem de_b {x : Str} {p : Pos} {id : String} {r : List V → Hp → VK → Prop} {g : List PyData → Option PyData} (hc : CallR X (.builtin id) r) (hg : CallD r m g) (gl : Gl X x) (hm : X.mg x = none) (hv : bootBuiltins x = some (.builtin id)) (ha : DA X O (e :: es) t fs)
    (hn : x ≠ "__name__" := by decide) (hdb : (x == ("__debug__" : Str)) = false := by decide) (he : starEach (e :: es) X.env = (false, eval e X.env) :: starEach es X.env := by rfl) (hpl : (backTo pos (starEach es X.env)).any (·.1) = false := by rfl) :
    DE X O m (.Call (.Name x p) (e :: es) [] pos) (tCB r t) (fFn g fs) :=
  ⟨pe_callB hc gl hm hv ha.pa hn hdb he hpl, fun ρ σ Hs H d s h Q q => by
    obtain ⟨xs, hx, h⟩ := bind_some h
    refine ha.ev ρ σ Hs H xs s hx _ fun vs Hs1 H1 g1 r1 => ?_
    exact hg Hs1 H1 vs xs d g1.sub r1 h Q fun u Hs2 H2 g2 r2 => q u Hs2 H2 (g1.trans g2) (r2.back g1.h)⟩
theorem de_t {x : Str} {p : Pos} {T : String} {r : List V → Hp → VK → Prop} {g : List PyData → Option PyData} (hc : CallR X (.type T) r) (hg : CallD r m g) (gl : Gl X x) (hm : X.mg x = none) (hv : bootBuiltins x = some (.type T)) (ha : DA X O (e :: es) t fs)
    (hn : x ≠ "__name__" := by decide) (hdb : (x == ("__debug__" : Str)) = false := by decide) (he : starEach (e :: es) X.env = (false, eval e X.env) :: starEach es X.env := by rfl) (hpl : (backTo pos (starEach es X.env)).any (·.1) = false := by rfl) :
    DE X O m (.Call (.Name x p) (e :: es) [] pos) (tCB r t) (fFn g fs) :=
  ⟨pe_callTy hc gl hm hv ha.pa hn hdb he hpl, fun ρ σ Hs H d s h Q q => by
    obtain ⟨xs, hx, h⟩ := bind_some h
    refine ha.ev ρ σ Hs H xs s hx _ fun vs Hs1 H1 g1 r1 => ?_
    exact hg Hs1 H1 vs xs d g1.sub r1 h Q fun u Hs2 H2 g2 r2 => q u Hs2 H2 (g1.trans g2) (r2.back g1.h)⟩
/-- f(..), f a module's name for a built-in function -/
theorem de_m {x : Str} {p : Pos} {id : String} {r : List V → Hp → VK → Prop} {g : List PyData → Option PyData} (hc : CallR X (.builtin id) r) (hg : CallD r m g) (gl : Gl X x) (hm : X.mg x = some (.builtin id)) (ha : DA X O (e :: es) t fs)
    (hdb : (x == ("__debug__" : Str)) = false := by decide) (he : starEach (e :: es) X.env = (false, eval e X.env) :: starEach es X.env := by rfl) (hpl : (backTo pos (starEach es X.env)).any (·.1) = false := by rfl) :
    DE X O m (.Call (.Name x p) (e :: es) [] pos) (tCB r t) (fFn g fs) :=
  ⟨pe_callBfun hc gl hm ha.pa hdb he hpl, fun ρ σ Hs H d s h Q q => by
    obtain ⟨xs, hx, h⟩ := bind_some h
    refine ha.ev ρ σ Hs H xs s hx _ fun vs Hs1 H1 g1 r1 => ?_
    exact hg Hs1 H1 vs xs d g1.sub r1 h Q fun u Hs2 H2 g2 r2 => q u Hs2 H2 (g1.trans g2) (r2.back g1.h)⟩
theorem rdA1 {Hs H : Hp} {vs : List V} {x : PyData} (h : RdA Hs H vs [x]) : ∃ v, vs = [v] ∧ Res .rd H Hs H v x := by
  cases h with
  | cons a b => cases b; exact ⟨_, rfl, a⟩
theorem rdA2 {Hs H : Hp} {vs : List V} {x y : PyData} (h : RdA Hs H vs [x, y]) : ∃ v w, vs = [v, w] ∧ Res .rd H Hs H v x ∧ Res .rd H Hs H w y := by
  cases h with
  | cons a b => cases b with
    | cons c d => cases d; exact ⟨_, _, rfl, a, c⟩
/-- functions of one, of two data -/
def g1 (g : PyData → Option PyData) : List PyData → Option PyData
  | [x] => g x
  | _ => none
def g2 (g : PyData → PyData → Option PyData) : List PyData → Option PyData
  | [x, y] => g x y
  | _ => none
omit [KF] in
theorem g1_some {g : PyData → Option PyData} {xs : List PyData} {z : PyData} (h : g1 g xs = some z) : ∃ x, xs = [x] ∧ g x = some z := by
  match xs, h with
  | [x], h => exact ⟨x, rfl, h⟩
  | [], h => cases h
  | _ :: _ :: _, h => cases h
omit [KF] in
theorem g2_some {g : PyData → PyData → Option PyData} {xs : List PyData} {z : PyData} (h : g2 g xs = some z) : ∃ x y, xs = [x, y] ∧ g x y = some z := by
  match xs, h with
  | [x, y], h => exact ⟨x, y, rfl, h⟩
  | [], h => cases h
  | [_], h => cases h
  | _ :: _ :: _ :: _, h => cases h
def dLen : PyData → Option PyData
  | .list xs => some (.int xs.length)
  | .tuple xs => some (.int xs.length)
  | _ => none
abbrev rLenD (K : PySem.W.Frag) : List V → Hp → VK → Prop := fun xs H Q => ∃ p ys, xs = [.ref p] ∧ (SqL K H p ys ∨ SqT K H p ys) ∧ Q (.int ys.length) H
theorem cd_len : CallD (rLenD KF.K) .cl (g1 dLen) := by
  intro Hs H vs xs z e hv hz Q q
  obtain ⟨x, rfl, hz⟩ := g1_some hz
  obtain ⟨v, rfl, hr⟩ := rdA1 hv
  cases x <;> try (cases hz; done)
  · cases hz
    obtain ⟨p, ws, rfl, a, b⟩ := rd_list e hr
    refine ⟨p, ws, rfl, .inl a.sq, ?_⟩
    rw [b.length]
    exact q _ Hs H (.refl e) res_int
  · cases hz
    obtain ⟨p, ws, rfl, a, b⟩ := rd_tup e hr
    refine ⟨p, ws, rfl, .inr (.inl a), ?_⟩
    rw [b.length]
    exact q _ Hs H (.refl e) res_int
theorem de_len {p : Pos} (hK : X.K = KF.K) (gl : Gl X "len") (hm : X.mg "len" = none) (ha : DE X O .rd e te f) (hs : starEach [e] X.env = [(false, eval e X.env)] := by rfl) : DE X O .cl (.Call (.Name "len" p) [e] [] pos) (tCB (rLenD X.K) (tCons te tNil)) (fFn (g1 dLen) (fConsA f fNilA)) :=
  de_b call_len_seq (by rw [hK]; exact cd_len) gl hm PySem.boot_len (da_cons ha da_nil hs) (he := hs)
def dInt : PyData → Option PyData
  | .int i => some (.int i)
  | .bool b => some (.int (if b then 1 else 0))
  | _ => none
abbrev rIntD : List V → Hp → VK → Prop := fun xs H Q => (∃ i, xs = [.int i] ∧ Q (.int i) H) ∨ ∃ k, xs = [.bl k] ∧ Q (.int (if k then 1 else 0)) H
theorem cd_int : CallD rIntD .cl (g1 dInt) := by
  intro Hs H vs xs z e hv hz Q q
  obtain ⟨x, rfl, hz⟩ := g1_some hz
  obtain ⟨v, rfl, hr⟩ := rdA1 hv
  cases x <;> try (cases hz; done)
  · cases hz
    rw [rd_bool hr]
    exact .inr ⟨_, rfl, q _ Hs H (.refl e) res_int⟩
  · cases hz
    rw [rd_int hr]
    exact .inl ⟨_, rfl, q _ Hs H (.refl e) res_int⟩
theorem de_intc {p : Pos} (gl : Gl X "int") (hm : X.mg "int" = none) (ha : DE X O .rd e te f) (hs : starEach [e] X.env = [(false, eval e X.env)] := by rfl) : DE X O .cl (.Call (.Name "int" p) [e] [] pos) (tCB rIntD (tCons te tNil)) (fFn (g1 dInt) (fConsA f fNilA)) :=
  de_t call_int1 cd_int gl hm (by decide +kernel) (da_cons ha da_nil hs) (he := hs)
def dAbs : PyData → Option PyData
  | .int i => some (.int (if i < 0 then -i else i))
  | _ => none
abbrev rAbsD : List V → Hp → VK → Prop := fun xs H Q => ∃ i, xs = [.int i] ∧ Q (.int (if i < 0 then -i else i)) H
theorem cd_abs : CallD rAbsD .cl (g1 dAbs) := by
  intro Hs H vs xs z e hv hz Q q
  obtain ⟨x, rfl, hz⟩ := g1_some hz
  obtain ⟨v, rfl, hr⟩ := rdA1 hv
  cases x <;> try (cases hz; done)
  cases hz
  rw [rd_int hr]
  exact ⟨_, rfl, q _ Hs H (.refl e) res_int⟩
theorem de_abs {p : Pos} (gl : Gl X "abs") (hm : X.mg "abs" = none) (ha : DE X O .rd e te f) (hs : starEach [e] X.env = [(false, eval e X.env)] := by rfl) : DE X O .cl (.Call (.Name "abs" p) [e] [] pos) (tCB rAbsD (tCons te tNil)) (fFn (g1 dAbs) (fConsA f fNilA)) :=
  de_b call_abs cd_abs gl hm (by decide +kernel) (da_cons ha da_nil hs) (he := hs)
def dGcd : PyData → PyData → Option PyData
  | .int i, .int j => some (.int ((Nat.gcd i.natAbs j.natAbs : Nat) : Int))
  | _, _ => none
theorem cd_gcd : CallD rGcd .cl (g2 dGcd) := by
  intro Hs H vs xs z e hv hz Q q
  obtain ⟨x, y, rfl, hz⟩ := g2_some hz
  obtain ⟨v, w, rfl, h1, h2⟩ := rdA2 hv
  cases x <;> try (cases hz; done)
  cases y <;> try (cases hz; done)
  cases hz
  rw [rd_int h1, rd_int h2]
  exact ⟨_, _, rfl, q _ Hs H (.refl e) res_int⟩
theorem de_gcd {x : Str} {p : Pos} (gl : Gl X x) (hm : X.mg x = some (.builtin "math.gcd")) (ha : DE X O .rd a ta fa) (hb : DE X O .rd b tb fb) (hdb : (x == ("__debug__" : Str)) = false := by decide)
    (he : starEach [a, b] X.env = (false, eval a X.env) :: starEach [b] X.env := by rfl) (he2 : starEach [b] X.env = [(false, eval b X.env)] := by rfl) (hpl : (backTo pos (starEach [b] X.env)).any (·.1) = false := by rfl) : DE X O .cl (.Call (.Name x p) [a, b] [] pos) (tCB rGcd (tCons ta (tCons tb tNil))) (fFn (g2 dGcd) (fConsA fa (fConsA fb fNilA))) :=
  de_m cr_gcd cd_gcd gl hm (da_cons ha (da_cons hb da_nil he2) he) hdb he hpl
/-- list(x) -/
def dListOf : PyData → Option PyData
  | .list xs => some (.list xs)
  | .tuple xs => some (.list xs)
  | _ => none
abbrev rListD (K : PySem.W.Frag) : List V → Hp → VK → Prop := fun xs H Q => ∃ p ys, xs = [.ref p] ∧ (SqL K H p ys ∨ SqT K H p ys) ∧ ∀ l, H l = none → Q (.ref l) (upd H l (.lst ys))
theorem cd_list : CallD (rListD KF.K) .ow (g1 dListOf) := by
  intro Hs H vs xs z e hv hz Q q
  obtain ⟨x, rfl, hz⟩ := g1_some hz
  obtain ⟨v, rfl, hr⟩ := rdA1 hv
  cases x <;> try (cases hz; done)
  · cases hz
    obtain ⟨p, ws, rfl, a, b⟩ := rd_list e hr
    exact ⟨p, ws, rfl, .inl a.sq, fun l hl => q _ Hs _ (Gr.own e hl) (res_new e hl b)⟩
  · cases hz
    obtain ⟨p, ws, rfl, a, b⟩ := rd_tup e hr
    exact ⟨p, ws, rfl, .inr (.inl a), fun l hl => q _ Hs _ (Gr.own e hl) (res_new e hl b)⟩
theorem de_listc {p : Pos} (hK : X.K = KF.K) (gl : Gl X "list") (hm : X.mg "list" = none) (ha : DE X O .rd e te f) (hs : starEach [e] X.env = [(false, eval e X.env)] := by rfl) : DE X O .ow (.Call (.Name "list" p) [e] [] pos) (tCB (rListD X.K) (tCons te tNil)) (fFn (g1 dListOf) (fConsA f fNilA)) :=
  de_t call_list_of (by rw [hK]; exact cd_list) gl hm (by decide +kernel) (da_cons ha da_nil hs) (he := hs)
/-- sums, any, all -/
def intsOf : List PyData → Option (List Int)
  | [] => some []
  | .int i :: r => (intsOf r).map (i :: ·)
  | _ :: _ => none
def boolsOf : List PyData → Option (List Bool)
  | [] => some []
  | .bool i :: r => (boolsOf r).map (i :: ·)
  | _ :: _ => none
omit [KF] in
theorem intsOf_map : ∀ ns : List Int, intsOf (ns.map PyData.int) = some ns
  | [] => rfl
  | n :: r => by
    show (intsOf (r.map PyData.int)).map (n :: ·) = some (n :: r)
    rw [intsOf_map r] <;> rfl
omit [KF] in
theorem intsOf_some : ∀ {ds : List PyData} {ns : List Int}, intsOf ds = some ns → ds = ns.map PyData.int
  | [], ns, h => by
    cases h
    rfl
  | d :: r, ns, h => by
    cases d <;> try (cases h; done)
    rename_i i
    have h : (intsOf r).map (i :: ·) = some ns := h
    obtain ⟨ms, h1, rfl⟩ := Option.map_eq_some_iff.mp h
    rw [intsOf_some h1] <;> rfl
omit [KF] in
theorem boolsOf_map : ∀ ns : List Bool, boolsOf (ns.map PyData.bool) = some ns
  | [] => rfl
  | n :: r => by
    show (boolsOf (r.map PyData.bool)).map (n :: ·) = some (n :: r)
    rw [boolsOf_map r] <;> rfl
omit [KF] in
theorem boolsOf_some : ∀ {ds : List PyData} {ns : List Bool}, boolsOf ds = some ns → ds = ns.map PyData.bool
  | [], ns, h => by
    cases h
    rfl
  | d :: r, ns, h => by
    cases d <;> try (cases h; done)
    rename_i i
    have h : (boolsOf r).map (i :: ·) = some ns := h
    obtain ⟨ms, h1, rfl⟩ := Option.map_eq_some_iff.mp h
    rw [boolsOf_some h1] <;> rfl
def dSum : PyData → Option PyData
  | .list xs => (intsOf xs).map fun ns => .int ns.sum
  | _ => none
def dAny : PyData → Option PyData
  | .list xs => (boolsOf xs).map fun ns => .bool (ns.any id)
  | _ => none
def dAll : PyData → Option PyData
  | .list xs => (boolsOf xs).map fun ns => .bool (ns.all id)
  | _ => none
theorem cd_sum : CallD (rSum KF.K) .cl (g1 dSum) := by
  intro Hs H vs xs z e hv hz Q q
  obtain ⟨x, rfl, hz⟩ := g1_some hz
  obtain ⟨v, rfl, hr⟩ := rdA1 hv
  cases x <;> try (cases hz; done)
  rename_i ds _
  obtain ⟨ns, h1, rfl⟩ := Option.map_eq_some_iff.mp (show (intsOf ds).map (fun ns => PyData.int ns.sum) = some z from hz)
  rw [intsOf_some h1] at hr
  obtain ⟨p, ws, rfl, a, b⟩ := rd_list e hr
  rw [RA.of_ints b] at a
  exact ⟨p, ns, rfl, a.sq, q _ Hs H (.refl e) res_int⟩
theorem cd_any : CallD (rAny KF.K) .cl (g1 dAny) := by
  intro Hs H vs xs z e hv hz Q q
  obtain ⟨x, rfl, hz⟩ := g1_some hz
  obtain ⟨v, rfl, hr⟩ := rdA1 hv
  cases x <;> try (cases hz; done)
  rename_i ds _
  obtain ⟨ns, h1, rfl⟩ := Option.map_eq_some_iff.mp (show (boolsOf ds).map (fun ns => PyData.bool (ns.any id)) = some z from hz)
  rw [boolsOf_some h1] at hr
  obtain ⟨p, ws, rfl, a, b⟩ := rd_list e hr
  rw [RA.of_bools b] at a
  exact ⟨p, ns, rfl, a.sq, q _ Hs H (.refl e) res_bl⟩
theorem cd_all : CallD (rAll KF.K) .cl (g1 dAll) := by
  intro Hs H vs xs z e hv hz Q q
  obtain ⟨x, rfl, hz⟩ := g1_some hz
  obtain ⟨v, rfl, hr⟩ := rdA1 hv
  cases x <;> try (cases hz; done)
  rename_i ds _
  obtain ⟨ns, h1, rfl⟩ := Option.map_eq_some_iff.mp (show (boolsOf ds).map (fun ns => PyData.bool (ns.all id)) = some z from hz)
  rw [boolsOf_some h1] at hr
  obtain ⟨p, ws, rfl, a, b⟩ := rd_list e hr
  rw [RA.of_bools b] at a
  exact ⟨p, ns, rfl, a.sq, q _ Hs H (.refl e) res_bl⟩
theorem de_sum {p : Pos} (hK : X.K = KF.K) (hc : X.calm = true) (gl : Gl X "sum") (hm : X.mg "sum" = none) (ha : DE X O .rd e te f) (hs : starEach [e] X.env = [(false, eval e X.env)] := by rfl) : DE X O .cl (.Call (.Name "sum" p) [e] [] pos) (tCB (rSum X.K) (tCons te tNil)) (fFn (g1 dSum) (fConsA f fNilA)) :=
  de_b (cr_sum hc) (by rw [hK]; exact cd_sum) gl hm (by decide +kernel) (da_cons ha da_nil hs) (he := hs)
theorem de_any {p : Pos} (hK : X.K = KF.K) (hc : X.calm = true) (gl : Gl X "any") (hm : X.mg "any" = none) (ha : DE X O .rd e te f) (hs : starEach [e] X.env = [(false, eval e X.env)] := by rfl) : DE X O .cl (.Call (.Name "any" p) [e] [] pos) (tCB (rAny X.K) (tCons te tNil)) (fFn (g1 dAny) (fConsA f fNilA)) :=
  de_b (cr_any hc) (by rw [hK]; exact cd_any) gl hm (by decide +kernel) (da_cons ha da_nil hs) (he := hs)
theorem de_all {p : Pos} (hK : X.K = KF.K) (hc : X.calm = true) (gl : Gl X "all") (hm : X.mg "all" = none) (ha : DE X O .rd e te f) (hs : starEach [e] X.env = [(false, eval e X.env)] := by rfl) : DE X O .cl (.Call (.Name "all" p) [e] [] pos) (tCB (rAll X.K) (tCons te tNil)) (fFn (g1 dAll) (fConsA f fNilA)) :=
  de_b (cr_all hc) (by rw [hK]; exact cd_all) gl hm (by decide +kernel) (da_cons ha da_nil hs) (he := hs)
end
/-! ### any of ints -/
theorem truth_ints {prog : Program} {w : World} {A : Around} {ns : List Int} {its : List Value} (e : IntsAre its ns) :
    TruthOf prog w A (fun i v => its.toArray[i]? = some v) (fun i => (ns.getD i 0) != 0) := fun i v s Q E hv hq => by
  have hv2 : its[i]? = some v := by simpa using hv
  obtain ⟨n, t, e1, rfl⟩ : ∃ n t, ns[i]? = some n ∧ v = .int n t := by
    clear hq hv
    induction e generalizing i with
    | nil => simp at hv2
    | cons n t h ih =>
      cases i with
      | zero =>
        simp at hv2
        exact ⟨n, t, by simp, hv2.symm⟩
      | succ i =>
        obtain ⟨n', t', h1, h2⟩ := ih i (by simpa using hv2)
        exact ⟨n', t', by simpa using h1, h2⟩
  have hg : ns.getD i 0 = n := by rw [List.getD_eq_getElem?_getD, e1] <;> rfl
  have hq2 : Q ((ns.getD i 0) != 0) s := hq
  rw [hg] at hq2
  exact PyProof.Rows.truthy_int hq2
theorem any_rangeI : ∀ ns : List Int, (List.range ns.length).any (fun i => (ns.getD i 0) != 0) = ns.any (fun n => n != 0)
  | [] => rfl
  | b :: bs => by
    rw [List.any_cons, ← any_rangeI bs, List.length_cons, List.range_succ_eq_map, List.any_cons, List.any_map] <;> rfl
theorem ints_of_vals : ∀ {ns : List Int} {us : List Value}, Vals (ns.map V.int) us → IntsAre us ns
  | [], _, .nil => .nil
  | n :: r, _, .cons h t => by
    obtain ⟨k, rfl⟩ := h
    exact .cons _ _ (ints_of_vals t)
def rAnyI (K : PySem.W.Frag) : List V → Hp → VK → Prop := fun vs H Q => ∃ (a : Addr) (ns : List Int), vs = [V.ref a] ∧ SqL K H a (ns.map V.int) ∧ Q (.bl (ns.any fun n => n != 0)) H
theorem cr_anyI {X : Cx} (calm : X.calm = true) : CallR X (.builtin "any") (rAnyI X.K) := by
  intro pins s σ H vs us Q inv rel hh
  obtain ⟨l, ns, rfl, hl, goal⟩ := hh
  obtain ⟨items, rv, plain, _⟩ := inv.list hl
  rw [Vals.ref1 rel]
  have hi := ints_of_vals rv
  refine call_any_walk (iter_any plain.isList fun s' eq st hne => ?_)
  subst eq
  refine ⟨_, _, _, _, _, _, _, rfl, Walks.list (A := X.A.in1) (inv.ok.hd calm) _ l hne items.toArray, st, truth_ints hi, fun heap' tok keep => ?_⟩
  refine ⟨.bl _, H, inv.kept fun b o eo => keep b o (fun mem => ?_) (Heap.get?_push_of_some _ eo), ?_, goal⟩
  · rcases List.mem_cons.mp mem with e1 | mem
    · exact absurd (e1 ▸ Heap.lt_size eo) (Nat.lt_irrefl _)
    · cases mem
  · show Value.bool _ = Value.bool _
    rw [← any_rangeI, List.size_toArray, hi.length]
def dAnyI : PyData → Option PyData
  | .list xs => (intsOf xs).map fun ns => .bool (ns.any fun n => n != 0)
  | _ => none
theorem cd_anyI : CallD (rAnyI KF.K) .cl (g1 dAnyI) := by
  intro Hs H vs xs z e hv hz Q q
  obtain ⟨x, rfl, hz⟩ := g1_some hz
  obtain ⟨v, rfl, hr⟩ := rdA1 hv
  cases x <;> try (cases hz; done)
  rename_i ds _
  obtain ⟨ns, h1, rfl⟩ := Option.map_eq_some_iff.mp (show (intsOf ds).map (fun ns => PyData.bool (ns.any fun n => n != 0)) = some z from hz)
  rw [intsOf_some h1] at hr
  obtain ⟨p, ws, rfl, a, b⟩ := rd_list e hr
  rw [RA.of_ints b] at a
  exact ⟨p, ns, rfl, a.sq, q _ Hs H (.refl e) res_bl⟩
section
variable {X : Cx} {O : List Nat} {e : Expr} {te : TE} {f : F} {pos : Pos}
theorem de_anyI {p : Pos} (hK : X.K = KF.K) (hc : X.calm = true) (gl : Gl X "any") (hm : X.mg "any" = none) (ha : DE X O .rd e te f) (hs : starEach [e] X.env = [(false, eval e X.env)] := by rfl) : DE X O .cl (.Call (.Name "any" p) [e] [] pos) (tCB (rAnyI X.K) (tCons te tNil)) (fFn (g1 dAnyI) (fConsA f fNilA)) :=
  de_b (cr_anyI hc) (by rw [hK]; exact cd_anyI) gl hm (by decide +kernel) (da_cons ha da_nil hs) (he := hs)
/-! ### isinstance -/
def tyOf : PyData → String
  | .none => "NoneType"
  | .bool _ => "bool"
  | .int _ => "int"
  | .str _ => "str"
  | .list _ => "list"
  | .tuple _ => "tuple"
  | .dict _ => "dict"
def isTy (T : String) : PyData → Option PyData := fun d => match kitB (tyOf d) T with
  | some b => some (.bool b)
  | none => none
theorem tyX_of {H0 Hs H : Hp} {v : V} {x : PyData} (e : Same Hs H) (h : Res .rd H0 Hs H v x) : TyX KF.K H v (.type (tyOf x)) := by
  have q := rd_R e h
  cases q with
  | non => exact .base .non
  | bl b => exact .base (.bl b)
  | int i => exact .base (.int i)
  | str y => exact .base (.str y)
  | lst k _ =>
    rcases k.old with (k | ⟨o, k⟩) | ⟨its, n, k, _, _⟩
    · exact .base (.lst k)
    · exact .base (.frz k)
    · exact .kList k rfl
  | tup k _ =>
    rcases k with k | ⟨o, k⟩
    · exact .base (.tup k)
    · exact .fTuple k
/-- isinstance(e, T), T a built-in type by its name -/
theorem de_isi (hK : X.K = KF.K) {T : String} {c : Expr} {p : Pos} (gl : Gl X "isinstance") (hm : X.mg "isinstance" = none) (ha : DE X O .rd e te f) (hc : PE X c (tC (.ty T)))
    (he : starEach [e, c] X.env = (false, eval e X.env) :: starEach [c] X.env := by rfl) (he2 : starEach [c] X.env = (false, eval c X.env) :: starEach [] X.env := by rfl) (hpl : (backTo pos (starEach [c] X.env)).any (·.1) = false := by rfl) :
    DE X O .cl (.Call (.Name "isinstance" p) [e, c] [] pos) (tCB (rIsi X.K) (tCons te (tCons (tC (.ty T)) tNil))) (fUn (isTy T) f) :=
  ⟨pe_callB call_isi gl hm (by decide +kernel) (pa_cons ha.pe (pa_cons hc pa_nil he2) he) (he := he) (hpl := hpl), fun ρ σ Hs H d s h Q q => by
    obtain ⟨x, hx, h⟩ := bind_some h
    refine ha.ev ρ σ Hs H x s hx _ fun v Hs1 H1 g1 r1 => ?_
    unfold isTy at h
    cases hk : kitB (tyOf x) T with
    | none => rw [hk] at h; cases h
    | some b =>
      rw [hk] at h
      cases h
      exact ⟨v, .ty T, _, _, b, rfl, .ty T, by rw [hK]; exact tyX_of g1.sub r1, kit_ty hk, q _ Hs1 H1 g1 res_bl⟩⟩
end
/-! ### bit_length -/
def dBits : PyData → Option PyData
  | .int i => some (.int (Builtin.Int.intBits i : Nat))
  | _ => none
section
variable {X : Cx} {O : List Nat} {e : Expr} {te : TE} {f : F}
theorem de_bits {apos pos : Pos} (ha : DE X O .rd e te f) (hbase : attributeBase e "bit_length" X.env (eval e X.env) = eval e X.env := by rfl) (hline : (apos.endLine == pos.line) = true := by rfl) :
    DE X O .cl (.Call (.Attribute e "bit_length" apos) [] [] pos) (tBits te) (fUn dBits f) :=
  ⟨pe_bits ha.pe hbase hline, fun ρ σ Hs H d s h Q q => by
    obtain ⟨x, hx, h⟩ := bind_some h
    refine ha.ev ρ σ Hs H x s hx _ fun v Hs1 H1 g1 r1 => ?_
    cases x <;> try (cases h; done)
    cases h
    exact ⟨_, rd_int r1, q _ Hs1 H1 g1 res_int⟩⟩
end
end DL
set_option Elab.async false
set_option linter.all false
set_option maxRecDepth 100000
namespace DL
open PySem PySem.Spec L2
open PyProof.Rows hiding St
variable [KF]
/-! ### what is gone over -/
/-- J gives the data ds, one after another, as long as Hs stands -/
structure Gives (J : It) (ds : List PyData) (Hs : Hp) : Prop where
  go : ∀ (i : Nat) (Ks K : Hp), Same Hs Ks → Same Ks K → i < ds.length → J.go i K
  yld : ∀ (i : Nat) (Ks K : Hp) (x : V) (K' : Hp), Same Hs Ks → Same Ks K → J.yld i K x K' → ∀ d, ds[i]? = some d → ∃ Ks', Gr Ks K Ks' K' ∧ R Ks' x d
  stop : ∀ (Ks K : Hp), Same Hs Ks → Same Ks K → J.stop ds.length K
structure DI (X : Cx) (O : List Nat) (tg iter : Expr) (wi : TI) (f : FA) : Prop where
  pi : PI X tg iter wi
  ev : ∀ (ρ : Rho) (σ : St) (Hs H : Hp) (ds : List PyData), Slots O ρ σ Hs H → f ρ = some ds → ∀ Q : It → Hp → Prop, (∀ J Hs' H', Gr Hs H Hs' H' → Gives J ds Hs' → Q J H') → wi σ H Q
section
variable {X : Cx} {O : List Nat} {e a b c tg : Expr} {te ta tb tc : TE} {f fa fb fc : F} {pos p : Pos}
def iSeq (f : F) : FA := fun ρ => (f ρ).bind fun x => match x with
  | .list xs => some xs
  | .tuple xs => some xs
  | _ => none
theorem gives_list {Hs : Hp} {a : Addr} {vs : List V} {ds : List PyData} (h : LsK Hs a vs) (r : RA Hs vs ds) : Gives (Itl KF.K a) ds Hs :=
  ⟨fun i Ks H e1 e2 hi => ⟨vs, vs[i]'(by rw [r.length]; exact hi), (ls_mono (e1.trans e2) h).sq, List.getElem?_eq_getElem _⟩,
   fun i Ks H x H' e1 e2 hy d hd => by
    obtain ⟨rfl, hx⟩ := hy
    obtain ⟨v, h1, h2⟩ := r.get hd
    have q := hx vs ((ls_mono (e1.trans e2) h).sq)
    rw [h1] at q
    obtain rfl := Option.some.inj q
    exact ⟨Ks, .refl e2, h2.mono e1⟩,
   fun Ks H e1 e2 => ⟨vs, (ls_mono (e1.trans e2) h).sq, by rw [r.length]; exact Nat.le_refl _⟩⟩
theorem gives_tup {K : PySem.W.Frag} {Hs : Hp} {a : Addr} {vs : List V} {ds : List PyData} (h : Rd Hs a (.tup vs)) (r : RA Hs vs ds) : Gives (Itt K a) ds Hs :=
  ⟨fun i Ks H e1 e2 hi => ⟨vs, vs[i]'(by rw [r.length]; exact hi), .inl (rd_mono (e1.trans e2) h), List.getElem?_eq_getElem _⟩,
   fun i Ks H x H' e1 e2 hy d hd => by
    obtain ⟨rfl, hx⟩ := hy
    obtain ⟨v, h1, h2⟩ := r.get hd
    have q := hx vs (.inl (rd_mono (e1.trans e2) h))
    rw [h1] at q
    obtain rfl := Option.some.inj q
    exact ⟨Ks, .refl e2, h2.mono e1⟩,
   fun Ks H e1 e2 => ⟨vs, .inl (rd_mono (e1.trans e2) h), by rw [r.length]; exact Nat.le_refl _⟩⟩
theorem PI.or {wi wi' : TI} (h : PI X tg e wi) (h' : PI X tg e wi') : PI X tg e (fun σ H R => wi σ H R ∨ wi' σ H R) := by
  refine ⟨fun pins s σ H R I q => ?_⟩
  rcases q with q | q
  · exact h.run pins s σ H R I q
  · exact h'.run pins s σ H R I q
/-- for x in e: a list or a tuple that stands -/
theorem di_seq (hK : X.K = KF.K) (h : DE X O .cl e te f) : DI X O tg e (fun σ H R => iList X.K te σ H R ∨ iTup X.K te σ H R) (iSeq f) :=
  ⟨PI.or (pi_list h.pe) (pi_tup h.pe), fun ρ σ Hs H ds s hf Q q => by
    obtain ⟨x, hx, hf⟩ := bind_some hf
    cases x <;> try (cases hf; done)
    · cases hf
      refine .inl (h.ev ρ σ Hs H _ s hx _ fun v Hs1 H1 g1 r1 => ?_)
      cases r1 with
      | lst p r => exact ⟨_, rfl, ⟨_, by rw [hK]; exact (ls_mono g1.sub p).sq⟩, q _ Hs1 H1 g1 (by rw [hK]; exact gives_list p r)⟩
    · cases hf
      refine .inr (h.ev ρ σ Hs H _ s hx _ fun v Hs1 H1 g1 r1 => ?_)
      cases r1 with
      | tup p r => exact ⟨_, rfl, ⟨_, .inl (rd_mono g1.sub p)⟩, q _ Hs1 H1 g1 (gives_tup p r)⟩⟩
/-- ranges -/
def rangeD (lo : Int) (n : Nat) : List PyData := (List.range n).map fun (i : Nat) => PyData.int (lo + (i : Int))
omit [KF] in
theorem rangeD_length (lo : Int) (n : Nat) : (rangeD lo n).length = n := by
  unfold rangeD
  rw [List.length_map, List.length_range]
omit [KF] in
theorem rangeD_get {lo : Int} {n i : Nat} (h : i < n) : (rangeD lo n)[i]? = some (.int (lo + (i : Int))) := by
  unfold rangeD
  rw [List.getElem?_map, List.getElem?_range h] <;> rfl
theorem gives_range {lo : Int} {n : Nat} {Hs : Hp} : Gives (Itr lo n) (rangeD lo n) Hs :=
  ⟨fun i Ks H e1 e2 hi => by
    rw [rangeD_length] at hi
    exact hi,
   fun i Ks H x H' e1 e2 hy d hd => by
    obtain ⟨rfl, rfl⟩ := hy
    have hi : i < n := by
      have := (List.getElem?_eq_some_iff.mp hd).1
      rw [rangeD_length] at this
      exact this
    rw [rangeD_get hi] at hd
    obtain rfl := Option.some.inj hd
    exact ⟨Ks, .refl e2, .int _⟩,
   fun Ks H e1 e2 => by
    rw [rangeD_length]
    exact Nat.le_refl n⟩
def rgC (i : Int) : Bool := decide (-(2 ^ 62) ≤ i ∧ i < 2 ^ 62)
omit [KF] in
theorem rgC_of {i : Int} (h : rgC i = true) : -(2 ^ 62) ≤ i ∧ i < 2 ^ 62 := of_decide_eq_true (p := -(2 ^ 62) ≤ i ∧ i < 2 ^ 62) h
def iR1 (f : F) : FA := fun ρ => (f ρ).bind fun x => match x with
  | .int j => if rgC j = true then some (rangeD 0 j.toNat) else none
  | _ => none
def iR2 (f g : F) : FA := fun ρ => (f ρ).bind fun x => (g ρ).bind fun y => match x, y with
  | .int i, .int j => if (rgC i && rgC j) = true then some (rangeD i (j - i).toNat) else none
  | _, _ => none
theorem di_r1 (gl : Gl X "range") (hm : X.mg "range" = none) (h : DE X O .rd e te f) (hs : starEach [e] X.env = [(false, eval e X.env)] := by rfl) :
    DI X O tg (.Call (.Name "range" p) [e] [] pos) (iRng1 (tCons te tNil)) (iR1 f) :=
  ⟨pi_range1 gl hm (pa_cons h.pe pa_nil hs) hs, fun ρ σ Hs H ds s hf Q q => by
    obtain ⟨x, hx, hf⟩ := bind_some hf
    cases x <;> try (cases hf; done)
    rename_i j
    obtain ⟨c, rfl⟩ := if_some (show (if rgC j = true then some (rangeD 0 j.toNat) else none) = some ds from hf)
    refine h.ev ρ σ Hs H _ s hx _ fun v Hs1 H1 g1 r1 => ?_
    exact ⟨j, by rw [rd_int r1], (rgC_of c).1, (rgC_of c).2, q _ Hs1 H1 g1 gives_range⟩⟩
theorem di_r2 (gl : Gl X "range") (hm : X.mg "range" = none) (ha : DE X O .rd a ta fa) (hb : DE X O .rd b tb fb) (hs : starEach [a, b] X.env = [(false, eval a X.env), (false, eval b X.env)] := by rfl) (hs2 : starEach [b] X.env = [(false, eval b X.env)] := by rfl) :
    DI X O tg (.Call (.Name "range" p) [a, b] [] pos) (iRng2 (tCons ta (tCons tb tNil))) (iR2 fa fb) :=
  ⟨pi_range2 gl hm (pa_cons ha.pe (pa_cons hb.pe pa_nil hs2) (by rw [hs, hs2])) hs hs2, fun ρ σ Hs H ds s hf Q q => by
    obtain ⟨x, hx, hf⟩ := bind_some hf
    obtain ⟨y, hy, hf⟩ := bind_some hf
    cases x <;> try (cases hf; done)
    rename_i i _
    cases y <;> try (cases hf; done)
    rename_i j
    obtain ⟨c, rfl⟩ := if_some (show (if (rgC i && rgC j) = true then some (rangeD i (j - i).toNat) else none) = some ds from hf)
    rw [Bool.and_eq_true] at c
    refine ha.ev ρ σ Hs H _ s hx _ fun v Hs1 H1 g1 r1 => ?_
    refine hb.ev ρ σ Hs1 H1 _ (s.mono g1) hy _ fun w Hs2 H2 g2 r2 => ?_
    exact ⟨i, j, by rw [rd_int r1, rd_int r2], ⟨(rgC_of c.1).1, (rgC_of c.1).2, (rgC_of c.2).1, (rgC_of c.2).2⟩, q _ Hs2 H2 (g1.trans g2) gives_range⟩⟩
/-- ranges with a step -/
def rangeC (lo c : Int) (n : Nat) : List PyData := (List.range n).map fun (i : Nat) => PyData.int (lo + (i : Int) * c)
omit [KF] in
theorem rangeC_length (lo c : Int) (n : Nat) : (rangeC lo c n).length = n := by
  unfold rangeC
  rw [List.length_map, List.length_range]
omit [KF] in
theorem rangeC_get {lo c : Int} {n i : Nat} (h : i < n) : (rangeC lo c n)[i]? = some (.int (lo + (i : Int) * c)) := by
  unfold rangeC
  rw [List.getElem?_map, List.getElem?_range h] <;> rfl
theorem gives_rangeC {lo c : Int} {n : Nat} {Hs : Hp} : Gives (Itc lo c n) (rangeC lo c n) Hs :=
  ⟨fun i Ks H e1 e2 hi => by
    rw [rangeC_length] at hi
    exact hi,
   fun i Ks H x H' e1 e2 hy d hd => by
    obtain ⟨rfl, rfl⟩ := hy
    have hi : i < n := by
      have := (List.getElem?_eq_some_iff.mp hd).1
      rw [rangeC_length] at this
      exact this
    rw [rangeC_get hi] at hd
    obtain rfl := Option.some.inj hd
    exact ⟨Ks, .refl e2, .int _⟩,
   fun Ks H e1 e2 => by
    rw [rangeC_length]
    exact Nat.le_refl n⟩
def rg3C (i j c : Int) : Bool := decide (c ≠ 0 ∧ c.natAbs < 1073741824) && Builtin.Range.small i j c
def iR3 (f g h : F) : FA := fun ρ => (f ρ).bind fun x => (g ρ).bind fun y => (h ρ).bind fun z => match x, y, z with
  | .int i, .int j, .int c => if rg3C i j c = true then some (rangeC i c (Builtin.Range.rangeSize i j c).toNat) else none
  | _, _, _ => none
theorem di_r3 {c : Expr} {tc : TE} {fc : F} (gl : Gl X "range") (hm : X.mg "range" = none) (ha : DE X O .rd a ta fa) (hb : DE X O .rd b tb fb) (hc : DE X O .rd c tc fc) (hs : starEach [a, b, c] X.env = (false, eval a X.env) :: starEach [b, c] X.env := by rfl) (hs2 : starEach [b, c] X.env = (false, eval b X.env) :: starEach [c] X.env := by rfl)
    (hs3 : starEach [c] X.env = (false, eval c X.env) :: starEach [] X.env := by rfl) (hpl : (backTo pos (starEach [b, c] X.env)).any (·.1) = false := by rfl) :
    DI X O tg (.Call (.Name "range" p) [a, b, c] [] pos) (iRng3 (tCons ta (tCons tb (tCons tc tNil)))) (iR3 fa fb fc) :=
  ⟨pi_range3 gl hm (pa_cons ha.pe (pa_cons hb.pe (pa_cons hc.pe pa_nil hs3) hs2) hs) hs hpl, fun ρ σ Hs H ds s hf Q q => by
    obtain ⟨x, hx, hf1⟩ := bind_some hf
    obtain ⟨y, hy, hf2⟩ := bind_some hf1
    obtain ⟨z, hz, hf3⟩ := bind_some hf2
    clear hf hf1 hf2
    cases x <;> try (cases hf3; done)
    rename_i i
    cases y <;> try (cases hf3; done)
    rename_i j
    cases z <;> try (cases hf3; done)
    rename_i k
    have hf := hf3
    obtain ⟨e, rfl⟩ := if_some (show (if rg3C i j k = true then some (rangeC i k (Builtin.Range.rangeSize i j k).toNat) else none) = some ds from hf)
    unfold rg3C at e
    rw [Bool.and_eq_true] at e
    have e1 := of_decide_eq_true (p := k ≠ 0 ∧ k.natAbs < 1073741824) e.1
    refine ha.ev ρ σ Hs H _ s hx _ fun v Hs1 H1 g1 r1 => ?_
    refine hb.ev ρ σ Hs1 H1 _ (s.mono g1) hy _ fun w Hs2 H2 g2 r2 => ?_
    refine hc.ev ρ σ Hs2 H2 _ ((s.mono g1).mono g2) hz _ fun u Hs3 H3 g3 r3 => ?_
    exact ⟨i, j, k, _, by rw [rd_int r1, rd_int r2, rd_int r3], ⟨e1.1, e1.2, e.2, PyProof.Rows.rangeSize_toNat i j k⟩, q _ Hs3 H3 ((g1.trans g2).trans g3) gives_rangeC⟩⟩
/-- zip of two lists -/
def zipD : List PyData → List PyData → List PyData
  | x :: xs, y :: ys => .tuple [x, y] :: zipD xs ys
  | _, _ => []
omit [KF] in
theorem zipD_length : ∀ xs ys : List PyData, (zipD xs ys).length = min xs.length ys.length
  | [], ys => by simp [zipD]
  | _ :: _, [] => by simp [zipD]
  | x :: xs, y :: ys => by
    show (zipD xs ys).length + 1 = _
    rw [zipD_length xs ys, List.length_cons, List.length_cons]
    omega
omit [KF] in
theorem zipD_get : ∀ (xs ys : List PyData) (i : Nat) (d : PyData), (zipD xs ys)[i]? = some d → ∃ x y, xs[i]? = some x ∧ ys[i]? = some y ∧ d = .tuple [x, y]
  | [], ys, i, d, h => by simp [zipD] at h
  | _ :: _, [], i, d, h => by simp [zipD] at h
  | x :: xs, y :: ys, 0, d, h => ⟨x, y, by simp, by simp, (Option.some.inj (by simpa [zipD] using h)).symm⟩
  | x :: xs, y :: ys, i + 1, d, h => by
    obtain ⟨u, v, h1, h2, h3⟩ := zipD_get xs ys i d (by simpa [zipD] using h)
    exact ⟨u, v, by simpa using h1, by simpa using h2, h3⟩
theorem gives_zip {Hs : Hp} {a b : Addr} {vs ws : List V} {ds es : List PyData} (h : LsK Hs a vs) (r : RA Hs vs ds) (h' : LsK Hs b ws) (r' : RA Hs ws es) : Gives (Itz KF.K a b) (zipD ds es) Hs :=
  ⟨fun i Ks H e1 e2 hi => by
    rw [zipD_length] at hi
    have i1 : i < vs.length := by rw [r.length]; omega
    have i2 : i < ws.length := by rw [r'.length]; omega
    exact ⟨vs, ws, vs[i], ws[i], (ls_mono (e1.trans e2) h).sq, (ls_mono (e1.trans e2) h').sq, List.getElem?_eq_getElem _, List.getElem?_eq_getElem _⟩,
   fun i Ks H x H' e1 e2 hy d hd => by
    obtain ⟨T, u, w, rfl, hT, rfl, hx, hw⟩ := hy
    obtain ⟨d1, d2, k1, k2, rfl⟩ := zipD_get _ _ _ _ hd
    obtain ⟨v1, m1, n1⟩ := r.get k1
    obtain ⟨v2, m2, n2⟩ := r'.get k2
    have q1 := hx vs ((ls_mono (e1.trans e2) h).sq)
    rw [m1] at q1
    obtain rfl := Option.some.inj q1
    have q2 := hw ws ((ls_mono (e1.trans e2) h').sq)
    rw [m2] at q2
    obtain rfl := Option.some.inj q2
    have st : Same Ks (upd Ks T (.tup [v1, v2])) := same_new (Same.free e2 hT)
    exact ⟨_, Gr.new e2 hT, .tup (.inl upd_same) (.cons (n1.mono (e1.trans st)) (.cons (n2.mono (e1.trans st)) .nil))⟩,
   fun Ks H e1 e2 => ⟨vs, ws, (ls_mono (e1.trans e2) h).sq, (ls_mono (e1.trans e2) h').sq, by
    rw [zipD_length, r.length, r'.length]
    omega⟩⟩
def iZ (f g : F) : FA := fun ρ => (f ρ).bind fun x => (g ρ).bind fun y => match x, y with
  | .list xs, .list ys => some (zipD xs ys)
  | _, _ => none
theorem di_zip (hK : X.K = KF.K) {elts : List Expr} {kk : Nat} {tpos : Pos} (gl : Gl X "zip") (hm : X.mg "zip" = none) (ha : DE X O .cl a ta fa) (hb : DE X O .cl b tb fb) (hs : starEach [a, b] X.env = (false, eval a X.env) :: starEach [b] X.env := by rfl) (hs2 : starEach [b] X.env = (false, eval b X.env) :: starEach [] X.env := by rfl)
    (hpl : (backTo pos (starEach [b] X.env)).any (·.1) = false := by rfl) : DI X O (.Tuple elts kk tpos) (.Call (.Name "zip" p) [a, b] [] pos) (iZip X.K (tCons ta (tCons tb tNil))) (iZ fa fb) :=
  ⟨pi_zip gl hm (pa_cons ha.pe (pa_cons hb.pe pa_nil hs2) hs) hs hpl, fun ρ σ Hs H ds s hf Q q => by
    obtain ⟨x, hx, hf⟩ := bind_some hf
    obtain ⟨y, hy, hf⟩ := bind_some hf
    cases x <;> try (cases hf; done)
    cases y <;> try (cases hf; done)
    cases hf
    refine ha.ev ρ σ Hs H _ s hx _ fun v Hs1 H1 g1 r1 => ?_
    refine hb.ev ρ σ Hs1 H1 _ (s.mono g1) hy _ fun w Hs2 H2 g2 r2 => ?_
    cases R.mono g2.s r1 with
    | lst p1 q1 => cases r2 with
      | lst p2 q2 => exact ⟨_, _, _, _, rfl, by rw [hK]; exact (ls_mono g2.sub p1).sq, by rw [hK]; exact (ls_mono g2.sub p2).sq, q _ Hs2 H2 (g1.trans g2) (by rw [hK]; exact gives_zip p1 q1 p2 q2)⟩⟩
/-- reversed(xs) -/
theorem gives_rev {Hs : Hp} {a : Addr} {vs : List V} {ds : List PyData} (h : LsK Hs a vs) (r : RA Hs vs ds) : Gives (Itv KF.K a vs.length) ds.reverse Hs :=
  ⟨fun i Ks H e1 e2 hi => by
    rw [List.length_reverse, ← r.length] at hi
    exact ⟨hi, vs, vs[vs.length - 1 - i], (ls_mono (e1.trans e2) h).sq, List.getElem?_eq_getElem _⟩,
   fun i Ks H x H' e1 e2 hy d hd => by
    obtain ⟨rfl, hx⟩ := hy
    have hi := (List.getElem?_eq_some_iff.mp hd).1
    rw [List.length_reverse] at hi
    rw [List.getElem?_reverse hi] at hd
    obtain ⟨v, h1, h2⟩ := r.get hd
    rw [← r.length] at h1
    have q := hx vs ((ls_mono (e1.trans e2) h).sq)
    rw [h1] at q
    obtain rfl := Option.some.inj q
    exact ⟨Ks, .refl e2, h2.mono e1⟩,
   fun Ks H e1 e2 => by
    show vs.length ≤ ds.reverse.length
    rw [List.length_reverse, r.length]
    exact Nat.le_refl _⟩
def iRv (f : F) : FA := fun ρ => (f ρ).bind fun x => match x with
  | .list xs => some xs.reverse
  | _ => none
theorem di_rev (hK : X.K = KF.K) (gl : Gl X "reversed") (hm : X.mg "reversed" = none) (ha : DE X O .cl a ta fa) (hs : starEach [a] X.env = [(false, eval a X.env)] := by rfl) : DI X O tg (.Call (.Name "reversed" p) [a] [] pos) (iRev X.K (tCons ta tNil)) (iRv fa) :=
  ⟨pi_reversed gl hm (pa_cons ha.pe pa_nil hs) hs, fun ρ σ Hs H ds s hf Q q => by
    obtain ⟨x, hx, hf⟩ := bind_some hf
    cases x <;> try (cases hf; done)
    cases hf
    refine ha.ev ρ σ Hs H _ s hx _ fun v Hs1 H1 g1 r1 => ?_
    cases r1 with
    | lst p1 q1 => exact ⟨_, _, rfl, by rw [hK]; exact (ls_mono g1.sub p1).sq, q _ Hs1 H1 g1 (by rw [hK]; exact gives_rev p1 q1)⟩⟩
end
/-! ### targets -/
abbrev FG := PyData → Rho → Option Rho
/-- a name, at a place that holds no list of one's own -/
def gN (i : Nat) : FG := fun d ρ => some (ρ.set i (some d))
def gsR : List FG → List PyData → Rho → Option Rho
  | [], [], ρ => some ρ
  | g :: r, d :: ds, ρ => (g d ρ).bind fun ρ' => gsR r ds ρ'
  | _, _, _ => none
def gT (gs : List FG) : FG := fun d ρ => match d with
  | .tuple ds => gsR gs ds ρ
  | _ => none
/-- what a target stores: at the places js alone -/
structure DG (X : Cx) (O : List Nat) (tg : Expr) (g : TG) (k : FG) (js : List Nat) : Prop where
  pg : PG X tg g
  ho : ∀ j ∈ js, O.contains j = false
  ev : ∀ (d : PyData) (x : V) (ρ ρ' : Rho) (σ : St) (Hs H : Hp), Slots O ρ σ Hs H → R Hs x d → k d ρ = some ρ' → ∀ Q : St → Hp → Prop, (∀ σ', Slots O ρ' σ' Hs H → σ'.length = σ.length → (∀ j, j ∉ js → σ'[j]? = σ[j]? ∧ ρ'[j]? = ρ[j]?) → Q σ' H) → g x σ H Q
theorem Slots.set {O : List Nat} {ρ : Rho} {σ : St} {Hs H : Hp} {i : Nat} {d : PyData} {x : V} (s : Slots O ρ σ Hs H) (ho : O.contains i = false) (r : R Hs x d) : Slots O (ρ.set i (some d)) (σ.set i (some x)) Hs H := by
  refine ⟨s.sub, by rw [List.length_set, List.length_set]; exact s.len, fun j e h => ?_, fun j k dj dk v hn h1 h2 h3 h4 h5 h6 => ?_⟩
  · by_cases hj : i = j
    · subst hj
      have hl : i < ρ.length := by
        have := (List.getElem?_eq_some_iff.mp h).1
        rwa [List.length_set] at this
      rw [List.getElem?_set_self hl] at h
      have e1 : d = e := Option.some.inj (Option.some.inj h)
      subst e1
      exact ⟨x, List.getElem?_set_self (by rw [s.len]; exact hl), fun z => (by rw [ho] at z; cases z), fun _ => r⟩
    · rw [List.getElem?_set_ne hj] at h
      obtain ⟨v, h1, h2, h3⟩ := s.val j e h
      exact ⟨v, by rw [List.getElem?_set_ne hj]; exact h1, h2, h3⟩
  · have hj : i ≠ j := fun z => by rw [← z, ho] at h1; cases h1
    have hk : i ≠ k := fun z => by rw [← z, ho] at h2; cases h2
    rw [List.getElem?_set_ne hj] at h3 h5
    rw [List.getElem?_set_ne hk] at h4 h6
    exact s.dis j k dj dk v hn h1 h2 h3 h4 h5 h6
theorem mem_contains {O : List Nat} {i : Nat} (h : i ∈ O) : O.contains i = true := by simpa using h
theorem ne_of_own {O : List Nat} {i j : Nat} (h : j ∈ O) (ho : O.contains i = false) : i ≠ j := fun z => by
  rw [← z] at h
  rw [mem_contains h] at ho
  cases ho
section
variable {X : Cx} {O : List Nat}
theorem dg_name (i : Nat) {x : Str} {p : Pos} (ho : O.contains i = false) (h : PG X (.Name x p) (gName i)) : DG X O (.Name x p) (gName i) (gN i) [i] :=
  ⟨h, fun j hj => by
    rw [List.mem_singleton.mp hj]
    exact ho, fun d x ρ ρ' σ Hs H s r hk Q q => by
    cases hk
    exact q _ (s.set ho r) (List.length_set ..) fun j hj => ⟨List.getElem?_set_ne fun z => hj (by rw [z]; exact List.mem_singleton.mpr rfl), List.getElem?_set_ne fun z => hj (by rw [z]; exact List.mem_singleton.mpr rfl)⟩⟩
structure DGs (X : Cx) (O : List Nat) (ts : List Expr) (g : TGs) (k : List FG) (js : List Nat) : Prop where
  pg : PGs X ts g
  len : ts.length = k.length
  ho : ∀ j ∈ js, O.contains j = false
  ev : ∀ (ds : List PyData) (xs : List V) (ρ ρ' : Rho) (σ : St) (Hs H : Hp), Slots O ρ σ Hs H → RA Hs xs ds → gsR k ds ρ = some ρ' → ∀ Q : St → Hp → Prop, (∀ σ', Slots O ρ' σ' Hs H → σ'.length = σ.length → (∀ j, j ∉ js → σ'[j]? = σ[j]? ∧ ρ'[j]? = ρ[j]?) → Q σ' H) → g xs σ H Q
theorem dgs_nil : DGs X O [] gNil [] [] := ⟨pgs_nil, rfl, fun _ h => (nomatch h), fun ds xs ρ ρ' σ Hs H s r hk Q q => by
  cases r with
  | nil =>
    cases hk
    exact ⟨rfl, q σ s rfl fun i _ => ⟨rfl, rfl⟩⟩
  | cons _ _ => cases hk⟩
theorem dgs_cons {t : Expr} {ts : List Expr} {g : TG} {gs : TGs} {k : FG} {ks : List FG} {js is : List Nat} (h : DG X O t g k js) (hr : DGs X O ts gs ks is) (hs : (assignEach (t :: ts) X.env).map (·.2) = assign t X.env :: (assignEach ts X.env).map (·.2) := by rfl) : DGs X O (t :: ts) (gCons g gs) (k :: ks) (js ++ is) :=
  ⟨pgs_cons h.pg hr.pg hs, by rw [List.length_cons, List.length_cons, hr.len], fun j hj => (List.mem_append.mp hj).elim (h.ho j) (hr.ho j), fun ds xs ρ ρ' σ Hs H s r hk Q q => by
    cases r with
    | nil => cases hk
    | cons a b =>
      obtain ⟨ρ1, h1, h2⟩ := bind_some hk
      refine ⟨_, _, rfl, h.ev _ _ ρ ρ1 σ Hs H s a h1 _ fun σ1 s1 l1 e1 => ?_⟩
      exact hr.ev _ _ ρ1 ρ' σ1 Hs H s1 b h2 Q fun σ2 s2 l2 e2 => q σ2 s2 (l2.trans l1) fun i hi =>
        have n1 : i ∉ js := fun z => hi (List.mem_append_left _ z)
        have n2 : i ∉ is := fun z => hi (List.mem_append_right _ z)
        ⟨(e2 i n2).1.trans (e1 i n1).1, (e2 i n2).2.trans (e1 i n1).2⟩⟩
theorem gsR_len : ∀ {ks : List FG} {ds : List PyData} {ρ ρ' : Rho}, gsR ks ds ρ = some ρ' → ds.length = ks.length
  | [], [], _, _, _ => rfl
  | [], _ :: _, _, _, h => by cases h
  | _ :: _, [], _, _, h => by cases h
  | k :: ks, d :: ds, ρ, ρ', h => by
    obtain ⟨ρ1, _, h2⟩ := bind_some h
    rw [List.length_cons, List.length_cons, gsR_len h2]
theorem dg_tup {ts : List Expr} {n k : Nat} {p : Pos} {gs : TGs} {ks : List FG} {js : List Nat} (hc : X.calm = true) (h : DGs X O ts gs ks js) (hn : ts.length = n := by rfl) (hn2 : (assignEach ts X.env).length = n := by rfl) (hst : (assignEach ts X.env).findIdx? (·.1) = none := by rfl) : DG X O (.Tuple ts k p) (gTup X.K n gs) (gT ks) js :=
  ⟨pg_tup hc h.pg hn2 hst, h.ho, fun d x ρ ρ' σ Hs H s r hk Q q => by
    cases d <;> try (cases hk; done)
    cases r with
    | tup p1 r1 =>
      refine ⟨_, _, rfl, .inl (rd_mono s.sub p1), ?_, h.ev _ _ ρ ρ' σ Hs H s r1 hk Q q⟩
      rw [r1.length, gsR_len (show gsR ks _ ρ = some ρ' from hk), ← h.len, hn]⟩
end
end DL
set_option Elab.async false
set_option linter.all false
set_option maxRecDepth 100000
namespace DL
open PySem PySem.Spec L2
open PyProof.Rows hiding St
variable [KF]
/-! ### comprehensions -/
def wipeR (ρ : Rho) : List Nat → Rho
  | [] => ρ
  | v :: vs => (wipeR ρ vs).set v none
theorem wipe_get (σ : St) : ∀ (vs : List Nat) (j : Nat), (wipe σ vs)[j]? = if j ∈ vs then (if j < σ.length then some none else none) else σ[j]?
  | [], j => by simp [wipe]
  | v :: vs, j => by
    show ((wipe σ vs).set v none)[j]? = _
    rw [List.getElem?_set, wipe_get σ vs j, wipe_length]
    by_cases h : v = j
    · subst h
      simp
    · have h' : ¬ j = v := fun z => h z.symm
      rw [if_neg h]
      simp [h']
omit [KF] in
theorem wipeR_get (ρ : Rho) : ∀ (vs : List Nat) (j : Nat), (wipeR ρ vs)[j]? = if j ∈ vs then (if j < ρ.length then some none else none) else ρ[j]?
  | [], j => by simp [wipeR]
  | v :: vs, j => by
    have hl : ∀ vs : List Nat, (wipeR ρ vs).length = ρ.length := fun vs => by
      induction vs with
      | nil => rfl
      | cons a r ih => exact (List.length_set ..).trans ih
    show ((wipeR ρ vs).set v none)[j]? = _
    rw [List.getElem?_set, wipeR_get ρ vs j, hl]
    by_cases h : v = j
    · subst h
      simp
    · have h' : ¬ j = v := fun z => h z.symm
      rw [if_neg h]
      simp [h']
omit [KF] in
theorem wipeR_length (ρ : Rho) : ∀ vs : List Nat, (wipeR ρ vs).length = ρ.length
  | [] => rfl
  | v :: vs => (List.length_set ..).trans (wipeR_length ρ vs)
theorem wipe_same {σ σ' : St} {vs js : List Nat} (hl : σ'.length = (wipe σ vs).length) (hj : ∀ j ∈ js, j ∈ vs) (h : ∀ j, j ∉ js → σ'[j]? = (wipe σ vs)[j]?) : wipe σ' vs = wipe σ vs := by
  rw [wipe_length] at hl
  refine List.ext_getElem? fun j => ?_
  rw [wipe_get, wipe_get, hl]
  by_cases hv : j ∈ vs
  · rw [if_pos hv, if_pos hv]
  · rw [if_neg hv, if_neg hv, h j fun z => hv (hj j z), wipe_get, if_neg hv]
theorem Slots.wiped {O : List Nat} {ρ : Rho} {σ : St} {Hs H : Hp} (s : Slots O ρ σ Hs H) (vs : List Nat) : Slots O (wipeR ρ vs) (wipe σ vs) Hs H := by
  refine ⟨s.sub, by rw [wipe_length, wipeR_length]; exact s.len, fun i d h => ?_, fun i j di dj v hn h1 h2 h3 h4 h5 h6 => ?_⟩
  · rw [wipeR_get] at h
    by_cases hv : i ∈ vs
    · rw [if_pos hv] at h
      split at h <;> cases h
    · rw [if_neg hv] at h
      rw [wipe_get, if_neg hv]
      exact s.val i d h
  · rw [wipeR_get] at h3 h4
    rw [wipe_get] at h5 h6
    by_cases hi : i ∈ vs
    · rw [if_pos hi] at h3
      split at h3 <;> cases h3
    · by_cases hj : j ∈ vs
      · rw [if_pos hj] at h4
        split at h4 <;> cases h4
      · rw [if_neg hi] at h3 h5
        rw [if_neg hj] at h4 h6
        exact s.dis i j di dj v hn h1 h2 h3 h4 h5 h6
def lcF (k : FG) (t : FT) (el : F) (ρ : Rho) : List PyData → Option (List PyData)
  | [] => some []
  | d :: ds => (k d ρ).bind fun ρ1 => (t ρ1).bind fun b => if b = true then (el ρ1).bind fun x => (lcF k t el ρ ds).map (x :: ·) else lcF k t el ρ ds
def fLc (src : FA) (k : FG) (t : FT) (el : F) (vs : List Nat) : F := fun ρ => (src ρ).bind fun ds => if catC ds.length 1 = true then (lcF k t el (wipeR ρ vs) ds).map fun xs => .list xs else none
structure DTs (X : Cx) (O : List Nat) (ifs : List Expr) (tt : TT) (f : FT) : Prop where
  pt : PTs X ifs tt
  ev : ∀ (ρ : Rho) (σ : St) (Hs H : Hp) (b : Bool), Slots O ρ σ Hs H → f ρ = some b → EvT tt σ Hs H b
def tYesF : FT := fun _ => some true
theorem dts_nil {X : Cx} {O : List Nat} : DTs X O [] tYes tYesF := ⟨pts_nil, fun ρ σ Hs H b s h Q q => by
  cases h
  exact q Hs H (.refl s.sub)⟩
theorem dts_one {X : Cx} {O : List Nat} {c : Expr} {tt : TT} {f : FT} (h : DT X O c tt f) : DTs X O [c] tt f := ⟨pts_one h.pt, h.ev⟩
theorem RA.snoc {H : Hp} {vs : List V} {ds : List PyData} {v : V} {d : PyData} (r : RA H vs ds) (h : R H v d) : RA H (vs ++ [v]) (ds ++ [d]) := r.append (.cons h .nil)
/-- the reading of a comprehension -/
theorem ev_lc {wi : TI} {g : TG} {tt : TT} {te : TE} {vs js : List Nat} {k : FG} {t : FT} {el : F} {src : FA} {O : List Nat}
    (hi : ∀ (ρ : Rho) (σ : St) (Hs H : Hp) (ds : List PyData), Slots O ρ σ Hs H → src ρ = some ds → ∀ Q : It → Hp → Prop, (∀ J Hs' H', Gr Hs H Hs' H' → Gives J ds Hs' → Q J H') → wi σ H Q)
    (hg : ∀ (d : PyData) (x : V) (ρ ρ' : Rho) (σ : St) (Hs H : Hp), Slots O ρ σ Hs H → R Hs x d → k d ρ = some ρ' → ∀ Q : St → Hp → Prop, (∀ σ', Slots O ρ' σ' Hs H → σ'.length = σ.length → (∀ j, j ∉ js → σ'[j]? = σ[j]? ∧ ρ'[j]? = ρ[j]?) → Q σ' H) → g x σ H Q)
    (ht : ∀ (ρ : Rho) (σ : St) (Hs H : Hp) (b : Bool), Slots O ρ σ Hs H → t ρ = some b → EvT tt σ Hs H b)
    (he : ∀ (ρ : Rho) (σ : St) (Hs H : Hp) (d : PyData), Slots O ρ σ Hs H → el ρ = some d → Ev te σ Hs H .cl d) (hj : ∀ j ∈ js, j ∈ vs)
    {ρ : Rho} {σ : St} {Hs H : Hp} {d : PyData} (s : Slots O ρ σ Hs H) (h : fLc src k t el vs ρ = some d) : Ev (tLc wi g tt te vs) σ Hs H .ow d := fun Q q => by
  obtain ⟨ds, hds, h⟩ := bind_some h
  obtain ⟨c, h⟩ : catC ds.length 1 = true ∧ (lcF k t el (wipeR ρ vs) ds).map (fun xs => PyData.list xs) = some d := by
    by_cases c : catC ds.length 1 = true
    · rw [if_pos c] at h
      exact ⟨c, h⟩
    · rw [if_neg c] at h
      cases h
  obtain ⟨xs, hxs, rfl⟩ := Option.map_eq_some_iff.mp h
  refine hi ρ σ Hs H ds s hds _ fun J Hs1 H1 gr1 giv D hD => ?_
  have s1 := s.mono gr1
  refine ⟨fun i m K => m = ds.length - i ∧ i ≤ ds.length ∧ ∃ (Ks : Hp) (acc : List V) (done rest : List PyData), Gr Hs1 H1 Ks K ∧ Ks D = none ∧ K D = some (.lst acc) ∧ RA Ks acc done ∧ done.length ≤ i ∧
    lcF k t el (wipeR ρ vs) (ds.drop i) = some rest ∧ done ++ rest = xs, ⟨ds.length, by simp, Nat.zero_le _, Hs1, [], [], xs, Gr.own gr1.sub hD, Same.free gr1.sub hD, upd_same, .nil, Nat.le_refl _, hxs, rfl⟩, ?_⟩
  rintro i m K ⟨rfl, hle, Ks, acc, done, rest, gr2, nD, eD, ra, dl, hrest, hall⟩
  by_cases hlt : i < ds.length
  · have hdrop : ds.drop i = ds[i] :: ds.drop (i + 1) := List.drop_eq_getElem_cons hlt
    rw [hdrop] at hrest
    obtain ⟨ρ1, hk1, hrest⟩ := bind_some hrest
    obtain ⟨b, hb, hrest⟩ := bind_some hrest
    refine .inr ⟨giv.go i Ks K gr2.s gr2.sub hlt, fun K' => ∃ (Ks : Hp) (acc : List V) (done rest : List PyData), Gr Hs1 H1 Ks K' ∧ Ks D = none ∧ K' D = some (.lst acc) ∧ RA Ks acc done ∧ done.length ≤ i + 1 ∧
      lcF k t el (wipeR ρ vs) (ds.drop (i + 1)) = some rest ∧ done ++ rest = xs, fun K' hN => ⟨ds.length - (i + 1), by omega, rfl, by omega, hN⟩, fun x K' hy => ?_⟩
    obtain ⟨Ks', gr3, rx⟩ := giv.yld i Ks K x K' gr2.s gr2.sub hy ds[i] (List.getElem?_eq_getElem hlt)
    have nD3 : Ks' D = none := gr3.non D nD (by rw [eD]; simp)
    have eD3 : K' D = some (.lst acc) := gr3.h _ _ eD
    have sw : Slots O (wipeR ρ vs) (wipe σ vs) Ks' K' := ((s1.mono gr2).mono gr3).wiped vs
    refine hg _ x (wipeR ρ vs) ρ1 (wipe σ vs) Ks' K' sw rx hk1 _ fun σ2 sl2 len2 out2 => ?_
    refine ⟨wipe_same len2 hj fun j hjn => (out2 j hjn).1, ht ρ1 σ2 Ks' K' b sl2 hb _ fun Ks4 K4 gr4 => ?_⟩
    have nD4 : Ks4 D = none := gr4.non D nD3 (by rw [eD3]; simp)
    have eD4 : K4 D = some (.lst acc) := gr4.h _ _ eD3
    cases b with
    | true =>
      rw [if_pos rfl] at hrest ⊢
      obtain ⟨y, hy1, hrest⟩ := bind_some hrest
      obtain ⟨rest', hr1, rfl⟩ := Option.map_eq_some_iff.mp hrest
      refine he ρ1 σ2 Ks4 K4 y (sl2.mono gr4) hy1 _ fun v Ks5 K5 gr5 r5 => ?_
      have nD5 : Ks5 D = none := gr5.non D nD4 (by rw [eD4]; simp)
      have eD5 : K5 D = some (.lst acc) := gr5.h _ _ eD4
      have gra : Gr Hs1 H1 Ks5 K5 := ((gr2.trans gr3).trans gr4).trans gr5
      have ra5 : RA Ks5 acc done := ra.mono ((gr3.s.trans gr4.s).trans gr5.s)
      refine ⟨acc, eD5, ?_, Ks5, acc ++ [v], done ++ [y], rest', ⟨gra.s, fun a o z => ?_, fun a o z => ?_, gra.non⟩, nD5, upd_same, ra5.snoc r5, ?_, hr1, ?_⟩
      · rw [ra5.length]
        have := of_decide_eq_true (p := ds.length + 1 ≤ 100000) c
        exact Nat.lt_of_le_of_lt (show done.length ≤ 100000 by omega) (by decide)
      · rw [upd_ne (ne_of_none z hD)]
        exact gra.h a o z
      · rw [upd_ne (ne_of_none z nD5)]
        exact gra.sub a o z
      · rw [List.length_append, List.length_singleton]
        omega
      · rw [List.append_assoc]
        exact hall
    | false =>
      rw [if_neg Bool.false_ne_true] at hrest ⊢
      exact ⟨Ks4, acc, done, rest, (gr2.trans gr3).trans gr4, nD4, eD4, ra.mono (gr3.s.trans gr4.s), by omega, hrest, hall⟩
  · have ei : i = ds.length := by omega
    subst ei
    rw [List.drop_length] at hrest
    cases hrest
    rw [List.append_nil] at hall
    subst hall
    refine .inl ⟨giv.stop Ks K gr2.s gr2.sub, q _ Ks K (gr1.trans gr2) ⟨⟨D, acc, done, rfl, rfl, nD, eD, ra⟩, D, rfl, Same.free gr1.h hD⟩⟩
section
variable {X : Cx} {O : List Nat} {elt tg iter : Expr} {ifs : List Expr} {scope : Scope} {own : List (Str × Nat)} {pos : Pos} {wi : TI} {g : TG} {tt : TT} {te : TE} {k : FG} {t : FT} {el : F} {src : FA} {js : List Nat}
/-- the part of a block, in any of the contexts in which the block runs -/
structure DLc (X : Cx) (O : List Nat) (elt tg iter : Expr) (ifs : List Expr) (scope : Scope) (own : List (Str × Nat)) (wi : TI) (g : TG) (tt : TT) (te : TE) (src : FA) (k : FG) (t : FT) (el : F) (js : List Nat) : Prop where
  hi : DI X O tg iter wi src
  ok : BlkOk X.N X.env.scope scope own
  hg : ∀ (s : Shared) (H : Hp) (C : Addr) (cl : List (Str × Addr)) (fp : List Addr), DG (X.blk s H scope (compEnvC scope cl C X.env) fp) O tg g k js
  ht : ∀ (s : Shared) (H : Hp) (C : Addr) (cl : List (Str × Addr)) (fp : List Addr), DTs (X.blk s H scope (compEnvC scope cl C X.env) fp) O ifs tt t
  he : ∀ (s : Shared) (H : Hp) (C : Addr) (cl : List (Str × Addr)) (fp : List Addr), DE (X.blk s H scope (compEnvC scope cl C X.env) fp) O .cl elt te el
  hj : js.all (own.map (·.2)).contains = true
theorem lc_js (h : js.all (own.map (·.2)).contains = true) : ∀ j ∈ js, j ∈ own.map (·.2) := fun j hj => by
  have := List.all_eq_true.mp h j hj
  simpa using this
theorem de_lc (hc : X.calm = true) (hN : X.N.Nodup) (h : DLc X O elt tg iter ifs scope own wi g tt te src k t el js) (hs : ∀ x, foldedSetIterable iter X.env x = pure x := by intro _; rfl) :
    DE X O .ow (.ListComp elt [⟨tg, iter, ifs, 0⟩] scope pos) (tLc wi g tt te (own.map (·.2))) (fLc src k t el (own.map (·.2))) :=
  ⟨pe_lc hc hN h.hi.pi h.ok (fun s H C cl fp => (h.hg s H C cl fp).pg) (fun s H C cl fp => (h.ht s H C cl fp).pt) (fun s H C cl fp => (h.he s H C cl fp).pe) hs, fun ρ σ Hs H d s hf =>
    ev_lc h.hi.ev (h.hg ({} : Shared) (fun _ => none) 0 [] []).ev (h.ht ({} : Shared) (fun _ => none) 0 [] []).ev (h.he ({} : Shared) (fun _ => none) 0 [] []).ev (lc_js h.hj) s hf⟩
end
end DL
set_option Elab.async false
set_option linter.all false
set_option maxRecDepth 100000
namespace DL
open PySem PySem.Spec L2
open PyProof.Rows hiding St
variable [KF]
/-! ### statements -/
inductive Out where
  | nx (ρ : Rho) | rt (d : PyData) | bk (ρ : Rho) | ct (ρ : Rho)
abbrev FS := Rho → Option Out
structure StOK (O : List Nat) (ρ : Rho) (σ : St) (Hs0 H0 Hs H : Hp) : Prop where
  sl : Slots O ρ σ Hs H
  gr : Gr Hs0 H0 Hs H
  new : ∀ i ∈ O, ∀ d, ρ[i]? = some (some d) → ∃ a, σ[i]? = some (some (.ref a)) ∧ H0 a = none
/-- outside the places of W all is as it was -/
def Fx (W : List Nat) (σ σ' : St) (ρ ρ' : Rho) : Prop := ∀ j, j ∉ W → σ'[j]? = σ[j]? ∧ ρ'[j]? = ρ[j]?
theorem Fx.refl (W : List Nat) (σ : St) (ρ : Rho) : Fx W σ σ ρ ρ := fun _ _ => ⟨rfl, rfl⟩
theorem Fx.app {W W' : List Nat} {σ σ1 σ2 : St} {ρ ρ1 ρ2 : Rho} (a : Fx W σ σ1 ρ ρ1) (b : Fx W' σ1 σ2 ρ1 ρ2) : Fx (W ++ W') σ σ2 ρ ρ2 := fun j h =>
  have h1 := a j fun z => h (List.mem_append_left _ z)
  have h2 := b j fun z => h (List.mem_append_right _ z)
  ⟨h2.1.trans h1.1, h2.2.trans h1.2⟩
theorem Fx.mono {W W' : List Nat} {σ σ' : St} {ρ ρ' : Rho} (a : Fx W σ σ' ρ ρ') (h : ∀ j ∈ W, j ∈ W') : Fx W' σ σ' ρ ρ' := fun j hj => a j fun z => hj (h j z)
theorem Fx.set {i : Nat} {σ : St} {ρ : Rho} {x : Option V} {y : Option PyData} : Fx [i] σ (σ.set i x) ρ (ρ.set i y) := fun j h =>
  have n : i ≠ j := fun z => h (by rw [z]; exact List.mem_singleton.mpr rfl)
  ⟨List.getElem?_set_ne n, List.getElem?_set_ne n⟩
theorem Fx.setR {i : Nat} {σ : St} {ρ : Rho} {y : Option PyData} : Fx [i] σ σ ρ (ρ.set i y) := fun j h => ⟨rfl, List.getElem?_set_ne fun z => h (by rw [z]; exact List.mem_singleton.mpr rfl)⟩
def Post (m : Md) (OB O' W : List Nat) (σ0 : St) (ρ0 : Rho) (Hs0 H0 : Hp) (D : Ends) : Out → Prop
  | .nx ρ => ∀ σ Hs H, StOK O' ρ σ Hs0 H0 Hs H → Fx W σ0 σ ρ0 ρ → D.nx σ H
  | .rt d => ∀ v Hs H, Gr Hs0 H0 Hs H → Res m H0 Hs H v d → D.rt v H
  | .bk ρ => ∀ σ Hs H, StOK OB ρ σ Hs0 H0 Hs H → Fx W σ0 σ ρ0 ρ → D.bk σ H
  | .ct ρ => ∀ σ Hs H, StOK OB ρ σ Hs0 H0 Hs H → Fx W σ0 σ ρ0 ρ → D.ct σ H
def SemS (m : Md) (OB O O' W : List Nat) (ts : TS) (G : FS) : Prop := ∀ (ρ : Rho) (σ : St) (Hs0 H0 Hs H : Hp) (D : Ends) (o : Out), StOK O ρ σ Hs0 H0 Hs H → G ρ = some o → Post m OB O' W σ ρ Hs0 H0 D o → ts D σ H
structure DS (X : Cx) (m : Md) (OB O O' W : List Nat) (st : Stmt) (ts : TS) (G : FS) : Prop where
  ps : PS X st ts
  ev : SemS m OB O O' W ts G
structure DSs (X : Cx) (m : Md) (OB O O' W : List Nat) (st : List Stmt) (ts : TS) (G : FS) : Prop where
  ps : PSs X st ts
  ev : SemS m OB O O' W ts G
theorem Post.mono {m : Md} {OB O' W W' : List Nat} {σ0 : St} {ρ0 : Rho} {Hs0 H0 : Hp} {D : Ends} {o : Out} (h : ∀ j ∈ W, j ∈ W') (q : Post m OB O' W' σ0 ρ0 Hs0 H0 D o) : Post m OB O' W σ0 ρ0 Hs0 H0 D o := by
  cases o with
  | nx ρ => exact fun σ Hs H x f => q σ Hs H x (f.mono h)
  | rt d => exact q
  | bk ρ => exact fun σ Hs H x f => q σ Hs H x (f.mono h)
  | ct ρ => exact fun σ Hs H x f => q σ Hs H x (f.mono h)
def del (i : Nat) (O : List Nat) : List Nat := O.filter (· != i)
omit [KF] in
theorem del_contains {i j : Nat} {O : List Nat} : (del i O).contains j = (O.contains j && (j != i)) := by
  unfold del
  rw [Bool.eq_iff_iff]
  simp
omit [KF] in
theorem mem_del {i j : Nat} {O : List Nat} : j ∈ del i O ↔ j ∈ O ∧ j ≠ i := by
  unfold del
  simp
theorem StOK.mono {O : List Nat} {ρ : Rho} {σ : St} {Hs0 H0 Hs H Hs' H' : Hp} (x : StOK O ρ σ Hs0 H0 Hs H) (g : Gr Hs H Hs' H') : StOK O ρ σ Hs0 H0 Hs' H' := ⟨x.sl.mono g, x.gr.trans g, x.new⟩
/-- a list of one's own comes to stand -/
theorem StOK.freezeS {O : List Nat} {ρ : Rho} {σ : St} {Hs0 H0 Hs H : Hp} (i : Nat) (x : StOK O ρ σ Hs0 H0 Hs H) : ∃ Hs', StOK (del i O) ρ σ Hs0 H0 Hs' H ∧ Same Hs Hs' ∧ ∀ (a : Addr) (d : PyData), i ∈ O → ρ[i]? = some (some d) → σ[i]? = some (some (.ref a)) → Hs' a = H a := by
  by_cases hi : i ∈ O
  · cases hr : ρ[i]? with
    | none =>
      refine ⟨Hs, ⟨⟨x.sl.sub, x.sl.len, fun j d h => ?_, fun j k dj dk v hn h1 h2 => ?_⟩, x.gr, fun j hj => x.new j (mem_del.mp hj).1⟩, .refl _, fun _ _ _ z => nomatch z⟩
      · obtain ⟨v, h1, h2, h3⟩ := x.sl.val j d h
        have hji : j ≠ i := fun z => by rw [z, hr] at h; cases h
        refine ⟨v, h1, fun z => h2 ?_, fun z => h3 ?_⟩
        · rw [del_contains] at z
          exact (Bool.and_eq_true _ _ ▸ z).1
        · rw [del_contains] at z
          simpa [hji] using z
      · rw [del_contains, Bool.and_eq_true] at h1 h2
        exact x.sl.dis j k dj dk v hn h1.1 h2.1
    | some o =>
      cases o with
      | none =>
        refine ⟨Hs, ⟨⟨x.sl.sub, x.sl.len, fun j d h => ?_, fun j k dj dk v hn h1 h2 => ?_⟩, x.gr, fun j hj => x.new j (mem_del.mp hj).1⟩, .refl _, fun _ _ _ z => nomatch z⟩
        · obtain ⟨v, h1, h2, h3⟩ := x.sl.val j d h
          have hji : j ≠ i := fun z => by rw [z, hr] at h; cases h
          refine ⟨v, h1, fun z => h2 ?_, fun z => h3 ?_⟩
          · rw [del_contains] at z
            exact (Bool.and_eq_true _ _ ▸ z).1
          · rw [del_contains] at z
            simpa [hji] using z
        · rw [del_contains, Bool.and_eq_true] at h1 h2
          exact x.sl.dis j k dj dk v hn h1.1 h2.1
      | some di =>
        obtain ⟨v, hv, ho, _⟩ := x.sl.val i di hr
        obtain ⟨a, vs, ds, rfl, rfl, n1, n2, n3⟩ := ho (mem_contains hi)
        obtain ⟨a', ha', hn0⟩ := x.new i hi _ hr
        rw [hv] at ha'
        obtain rfl : a = a' := V.ref.inj (Option.some.inj (Option.some.inj ha'))
        have st : Same Hs (upd Hs a (.lst vs)) := same_new n1
        refine ⟨upd Hs a (.lst vs), ⟨⟨fun b u z => ?_, x.sl.len, fun j d h => ?_, fun j k dj dk v hn h1 h2 => ?_⟩, ⟨x.gr.s.trans st, x.gr.h, fun b u z => ?_, fun b z1 z2 => ?_⟩, fun j hj => x.new j (mem_del.mp hj).1⟩, st, fun b e _ _ z => by
          rw [hv] at z
          obtain rfl := V.ref.inj (Option.some.inj (Option.some.inj z))
          rw [upd_same, n2]⟩
        · by_cases hb : b = a
          · subst hb
            rw [upd_same] at z
            rw [n2]
            exact z
          · rw [upd_ne hb] at z
            exact x.sl.sub _ _ z
        · obtain ⟨w, h1, h2, h3⟩ := x.sl.val j d h
          refine ⟨w, h1, fun z => ?_, fun z => ?_⟩
          · rw [del_contains, Bool.and_eq_true] at z
            obtain ⟨b, ws, es, rfl, rfl, m1, m2, m3⟩ := h2 z.1
            have hji : j ≠ i := by simpa using z.2
            have hba : b ≠ a := fun e => x.sl.dis j i _ _ (.ref b) hji z.1 (mem_contains hi) h hr h1 (by rw [e]; exact hv)
            exact ⟨b, ws, es, rfl, rfl, by rw [upd_ne hba]; exact m1, m2, m3.mono st⟩
          · rw [del_contains] at z
            by_cases hji : j = i
            · subst hji
              rw [hv] at h1
              obtain rfl := Option.some.inj (Option.some.inj h1)
              rw [hr] at h
              obtain rfl := Option.some.inj (Option.some.inj h)
              exact .lst (ls_of upd_same) (n3.mono st)
            · exact (h3 (by simpa [hji] using z)).mono st
        · rw [del_contains, Bool.and_eq_true] at h1 h2
          exact x.sl.dis j k dj dk v hn h1.1 h2.1
        · by_cases hb : b = a
          · subst hb
            rw [upd_same] at z
            rw [n2]
            exact z
          · rw [upd_ne hb] at z
            exact x.sl.sub _ _ z
        · rw [upd_ne (show b ≠ a from fun e => z2 (by rw [e]; exact hn0))]
          exact x.gr.non b z1 z2
  · have e : del i O = O := by
      unfold del
      rw [List.filter_eq_self]
      intro j hj
      have : j ≠ i := fun z => hi (z ▸ hj)
      simpa using this
    exact ⟨Hs, by rw [e]; exact x, .refl _, fun _ _ z => absurd z hi⟩
theorem StOK.freeze {O : List Nat} {ρ : Rho} {σ : St} {Hs0 H0 Hs H : Hp} (i : Nat) (x : StOK O ρ σ Hs0 H0 Hs H) : ∃ Hs', StOK (del i O) ρ σ Hs0 H0 Hs' H := let ⟨Hs', h, _, _⟩ := x.freezeS i; ⟨Hs', h⟩
section
variable {X : Cx} {m : Md} {OB O O' O'' W W' : List Nat} {st : Stmt} {rest ss s1 s2 : List Stmt} {t u : TS} {G G' : FS} {e c : Expr} {te : TE} {f : F} {ft : FT} {tc : TT} {pos : Pos}
theorem DSs.frz (i : Nat) (h : DSs X m OB (del i O) O' W ss t G) : DSs X m OB O O' W ss t G := ⟨h.ps, fun ρ σ Hs0 H0 Hs H D o x hg q => by
  obtain ⟨Hs', x'⟩ := x.freeze i
  exact h.ev ρ σ Hs0 H0 Hs' H D o x' hg q⟩
theorem DSs.weak (i : Nat) (h : DSs X m OB O O' W ss t G) : DSs X m OB O (del i O') W ss t G := ⟨h.ps, fun ρ σ Hs0 H0 Hs H D o x hg q => h.ev ρ σ Hs0 H0 Hs H D o x hg (by
  cases o with
  | nx ρ' => exact fun σ' Hs' H' x' fx => let ⟨Hs2, x2⟩ := x'.freeze i; q σ' Hs2 H' x2 fx
  | rt d => exact q
  | bk ρ' => exact q
  | ct ρ' => exact q)⟩
theorem DS.frz (i : Nat) (h : DS X m OB (del i O) O' W st t G) : DS X m OB O O' W st t G := ⟨h.ps, fun ρ σ Hs0 H0 Hs H D o x hg q => by
  obtain ⟨Hs', x'⟩ := x.freeze i
  exact h.ev ρ σ Hs0 H0 Hs' H D o x' hg q⟩
def sNil : FS := fun ρ => some (.nx ρ)
def sSeq (a b : FS) : FS := fun ρ => (a ρ).bind fun o => match o with
  | .nx ρ' => b ρ'
  | .rt d => some (.rt d)
  | .bk ρ' => some (.bk ρ')
  | .ct ρ' => some (.ct ρ')
theorem dss_nil : DSs X m OB O O [] [] tNext sNil := ⟨pss_nil, fun ρ σ Hs0 H0 Hs H D o x hg q => by
  cases hg
  exact q σ Hs H x (.refl _ _ _)⟩
theorem dss_one (h : DS X m OB O O' W st t G) : DSs X m OB O O' W [st] t G := ⟨pss_one h.ps, h.ev⟩
theorem dss_cons (h : DS X m OB O O' W st t G) (hr : DSs X m OB O' O'' W' rest u G') : DSs X m OB O O'' (W ++ W') (st :: rest) (tSeq t u) (sSeq G G') := ⟨pss_cons h.ps hr.ps, fun ρ σ Hs0 H0 Hs H D o x hg q => by
  obtain ⟨o1, h1, h2⟩ := bind_some hg
  refine h.ev ρ σ Hs0 H0 Hs H { D with nx := u D } o1 x h1 ?_
  cases o1 with
  | nx ρ' =>
    refine fun σ' Hs' H' x' fx => hr.ev ρ' σ' Hs0 H0 Hs' H' D o x' h2 ?_
    cases o with
    | nx ρ2 => exact fun σ2 Hs2 H2 x2 f2 => q σ2 Hs2 H2 x2 (fx.app f2)
    | rt d => exact q
    | bk ρ2 => exact fun σ2 Hs2 H2 x2 f2 => q σ2 Hs2 H2 x2 (fx.app f2)
    | ct ρ2 => exact fun σ2 Hs2 H2 x2 f2 => q σ2 Hs2 H2 x2 (fx.app f2)
  | rt d =>
    cases h2
    exact q
  | bk ρ' =>
    cases h2
    exact fun σ2 Hs2 H2 x2 f2 => q σ2 Hs2 H2 x2 (f2.mono fun _ z => List.mem_append_left _ z)
  | ct ρ' =>
    cases h2
    exact fun σ2 Hs2 H2 x2 f2 => q σ2 Hs2 H2 x2 (f2.mono fun _ z => List.mem_append_left _ z)⟩
def sIf (c : FT) (a b : FS) : FS := fun ρ => (c ρ).bind fun k => if k = true then a ρ else b ρ
theorem ds_if (hc : DT X O c tc ft) (ha : DSs X m OB O O' W s1 t G) (hb : DSs X m OB O O' W' s2 u G') : DS X m OB O O' (W ++ W') (.If c s1 s2 pos) (tIfS tc t u) (sIf ft G G') := ⟨ps_if hc.pt ha.ps hb.ps, fun ρ σ Hs0 H0 Hs H D o x hg q => by
  obtain ⟨k, h1, h2⟩ := bind_some hg
  refine hc.ev ρ σ Hs H k x.sl h1 _ fun Hs1 H1 g1 => ?_
  cases k with
  | true => exact iteT (ha.ev ρ σ Hs0 H0 Hs1 H1 D o (x.mono g1) h2 (q.mono fun _ z => List.mem_append_left _ z))
  | false => exact iteF (hb.ev ρ σ Hs0 H0 Hs1 H1 D o (x.mono g1) h2 (q.mono fun _ z => List.mem_append_right _ z))⟩
def sRet (f : F) : FS := fun ρ => (f ρ).map .rt
theorem ds_ret (h : DE X O m e te f) : DS X m OB O O' [] (.Return (some e) pos) (tRet te) (sRet f) := ⟨ps_ret h.pe, fun ρ σ Hs0 H0 Hs H D o x hg q => by
  obtain ⟨d, h1, rfl⟩ := Option.map_eq_some_iff.mp hg
  exact h.ev ρ σ Hs H d x.sl h1 _ fun v Hs1 H1 g1 r1 => q v Hs1 H1 (x.gr.trans g1) (r1.back x.gr.h)⟩
/-- return of a name that holds a list of one's own -/
theorem ds_retOwn (i : Nat) {x : Str} {p : Pos} (ho : O.contains i = true) (h : PE X (.Name x p) (tVar i)) : DS X .ow OB O O' [] (.Return (some (.Name x p)) pos) (tRet (tVar i)) (sRet (fVar i)) := ⟨ps_ret h, fun ρ σ Hs0 H0 Hs H D o x hg q => by
  obtain ⟨d, h1, rfl⟩ := Option.map_eq_some_iff.mp hg
  unfold fVar at h1
  cases hr : ρ[i]? with
  | none => rw [hr] at h1; cases h1
  | some y =>
    rw [hr] at h1
    have h1 : y = some d := h1
    subst h1
    obtain ⟨v, k1, k2, _⟩ := x.sl.val i d hr
    obtain ⟨a, k3, k4⟩ := x.new i (by simpa using ho) d hr
    rw [k1] at k3
    exact ⟨v, k1, q v Hs H x.gr ⟨k2 ho, a, Option.some.inj (Option.some.inj k3), k4⟩⟩⟩
def sRetN : FS := fun _ => some (.rt .none)
theorem ds_retN : DS X .cl OB O O' [] (.Return none pos) tRetN sRetN := ⟨ps_retN, fun ρ σ Hs0 H0 Hs H D o x hg q => by
  cases hg
  exact q _ Hs H x.gr .non⟩
theorem ds_pass : DS X m OB O O [] (.Pass pos) tNext sNil := ⟨ps_pass, fun ρ σ Hs0 H0 Hs H D o x hg q => by
  cases hg
  exact q σ Hs H x (.refl _ _ _)⟩
def sBrk : FS := fun ρ => some (.bk ρ)
def sCnt : FS := fun ρ => some (.ct ρ)
theorem ds_break : DS X m O O O' [] (.Break pos) tBreak sBrk := ⟨ps_break, fun ρ σ Hs0 H0 Hs H D o x hg q => by
  cases hg
  exact q σ Hs H x (.refl _ _ _)⟩
theorem ds_cont : DS X m O O O' [] (.Continue pos) tCont sCnt := ⟨ps_continue, fun ρ σ Hs0 H0 Hs H D o x hg q => by
  cases hg
  exact q σ Hs H x (.refl _ _ _)⟩
/-! storing -/
theorem Slots.del {O : List Nat} {ρ : Rho} {σ : St} {Hs H : Hp} {i : Nat} {x : V} {d : PyData} (s : Slots O ρ σ Hs H) (r : R Hs x d) : Slots (del i O) (ρ.set i (some d)) (σ.set i (some x)) Hs H := by
  refine ⟨s.sub, by rw [List.length_set, List.length_set]; exact s.len, fun j e h => ?_, fun j k dj dk v hn h1 h2 h3 h4 h5 h6 => ?_⟩
  · by_cases hj : i = j
    · subst hj
      have hl : i < ρ.length := by
        have := (List.getElem?_eq_some_iff.mp h).1
        rwa [List.length_set] at this
      rw [List.getElem?_set_self hl] at h
      obtain rfl := Option.some.inj (Option.some.inj h)
      exact ⟨x, List.getElem?_set_self (by rw [s.len]; exact hl), fun z => (by rw [del_contains] at z; simp at z), fun _ => r⟩
    · rw [List.getElem?_set_ne hj] at h
      obtain ⟨v, h1, h2, h3⟩ := s.val j e h
      refine ⟨v, by rw [List.getElem?_set_ne hj]; exact h1, fun z => h2 ?_, fun z => h3 ?_⟩
      · rw [del_contains, Bool.and_eq_true] at z
        exact z.1
      · have hj' : j ≠ i := fun z => hj z.symm
        rw [del_contains] at z
        simpa [hj'] using z
  · rw [del_contains, Bool.and_eq_true] at h1 h2
    have hj : i ≠ j := fun z => by rw [z] at h1; simp at h1
    have hk : i ≠ k := fun z => by rw [z] at h2; simp at h2
    rw [List.getElem?_set_ne hj] at h3 h5
    rw [List.getElem?_set_ne hk] at h4 h6
    exact s.dis j k dj dk v hn h1.1 h2.1 h3 h4 h5 h6
theorem StOK.del {O : List Nat} {ρ : Rho} {σ : St} {Hs0 H0 Hs H : Hp} {i : Nat} {x : V} {d : PyData} (s : StOK O ρ σ Hs0 H0 Hs H) (r : R Hs x d) : StOK (DL.del i O) (ρ.set i (some d)) (σ.set i (some x)) Hs0 H0 Hs H :=
  ⟨s.sl.del r, s.gr, fun j hj e h => by
    obtain ⟨h1, h2⟩ := mem_del.mp hj
    have hn : i ≠ j := fun z => h2 z.symm
    rw [List.getElem?_set_ne hn] at h ⊢
    exact s.new j h1 e h⟩
def sAsg (i : Nat) (f : F) : FS := fun ρ => (f ρ).map fun d => .nx (ρ.set i (some d))
theorem ds_asg (i : Nat) {x : Str} {p : Pos} (h : DE X O .cl e te f) (hp : PS X (.Assign [.Name x p] e pos) (tAsg te (gName i))) : DS X m OB O (del i O) [i] (.Assign [.Name x p] e pos) (tAsg te (gName i)) (sAsg i f) := ⟨hp, fun ρ σ Hs0 H0 Hs H D o x hg q => by
  obtain ⟨d, h1, rfl⟩ := Option.map_eq_some_iff.mp hg
  exact h.ev ρ σ Hs H d x.sl h1 _ fun v Hs1 H1 g1 r1 => q _ Hs1 H1 ((x.mono g1).del r1) .set⟩
/-- a name takes a new list of one's own -/
theorem StOK.ow {O : List Nat} {ρ : Rho} {σ : St} {Hs0 H0 Hs H Hs1 H1 : Hp} {i : Nat} {v : V} {d : PyData} (x : StOK O ρ σ Hs0 H0 Hs H) (g1 : Gr Hs H Hs1 H1) (r1 : Res .ow H Hs1 H1 v d) : StOK (i :: DL.del i O) (ρ.set i (some d)) (σ.set i (some v)) Hs0 H0 Hs1 H1 := by
  obtain ⟨⟨a, vs, ds, rfl, rfl, n1, n2, n3⟩, a', ea, n4⟩ := r1
  obtain rfl := V.ref.inj ea
  have x1 := x.mono g1
  refine ⟨⟨g1.sub, by rw [List.length_set, List.length_set]; exact x1.sl.len, fun j e h => ?_, fun j k dj dk v hn h1 h2 h3 h4 h5 h6 => ?_⟩, x1.gr, fun j hj e h => ?_⟩
  · by_cases hj : i = j
    · subst hj
      have hl : i < ρ.length := by
        have := (List.getElem?_eq_some_iff.mp h).1
        rwa [List.length_set] at this
      rw [List.getElem?_set_self hl] at h
      obtain rfl := Option.some.inj (Option.some.inj h)
      exact ⟨_, List.getElem?_set_self (by rw [x1.sl.len]; exact hl), fun _ => ⟨a, vs, ds, rfl, rfl, n1, n2, n3⟩, fun z => by simp at z⟩
    · rw [List.getElem?_set_ne hj] at h
      obtain ⟨w, h1, h2, h3⟩ := x1.sl.val j e h
      have hj' : j ≠ i := fun z => hj z.symm
      refine ⟨w, by rw [List.getElem?_set_ne hj]; exact h1, fun z => h2 ?_, fun z => h3 ?_⟩
      · rw [List.contains_cons, del_contains] at z
        simpa [hj'] using z
      · rw [List.contains_cons, del_contains] at z
        simpa [hj'] using z
  · have key : ∀ j, i ≠ j → (i :: DL.del i O).contains j = true → ∀ dj, ρ[j]? = some (some dj) → σ[j]? ≠ some (some (.ref a)) := fun j hj h1 dj h3 h5 => by
      have hj' : j ≠ i := fun z => hj z.symm
      rw [List.contains_cons, del_contains] at h1
      have h1' : O.contains j = true := by simpa [hj'] using h1
      obtain ⟨w, k1, k2, _⟩ := x.sl.val j dj h3
      obtain ⟨b, ws, es, rfl, _, _, k4, _⟩ := k2 h1'
      rw [k1] at h5
      obtain rfl := V.ref.inj (Option.some.inj (Option.some.inj h5))
      rw [n4] at k4
      cases k4
    by_cases hj : i = j
    · subst hj
      have hk : i ≠ k := hn
      have hl : i < σ.length := by
        have := (List.getElem?_eq_some_iff.mp h5).1
        rwa [List.length_set] at this
      rw [List.getElem?_set_self hl] at h5
      obtain rfl := Option.some.inj (Option.some.inj h5)
      rw [List.getElem?_set_ne hk] at h4 h6
      exact key k hk h2 dk h4 h6
    · by_cases hk : i = k
      · subst hk
        have hl : i < σ.length := by
          have := (List.getElem?_eq_some_iff.mp h6).1
          rwa [List.length_set] at this
        rw [List.getElem?_set_self hl] at h6
        obtain rfl := Option.some.inj (Option.some.inj h6)
        rw [List.getElem?_set_ne hj] at h3 h5
        exact key j hj h1 dj h3 h5
      · have hj' : j ≠ i := fun z => hj z.symm
        have hk' : k ≠ i := fun z => hk z.symm
        rw [List.getElem?_set_ne hj] at h3 h5
        rw [List.getElem?_set_ne hk] at h4 h6
        rw [List.contains_cons, del_contains] at h1 h2
        exact x1.sl.dis j k dj dk v hn (by simpa [hj'] using h1) (by simpa [hk'] using h2) h3 h4 h5 h6
  · by_cases hji : i = j
    · subst hji
      have hl : i < σ.length := by
        have := (List.getElem?_eq_some_iff.mp h).1
        rw [List.length_set, ← x1.sl.len] at this
        exact this
      exact ⟨a, List.getElem?_set_self hl, Same.free x.gr.h n4⟩
    · rw [List.getElem?_set_ne hji] at h ⊢
      have hj' : j ≠ i := fun z => hji z.symm
      rcases List.mem_cons.mp hj with e1 | hj
      · exact absurd e1 hj'
      · exact x.new j (mem_del.mp hj).1 e h
theorem ds_asgOw (i : Nat) {x : Str} {p : Pos} (h : DE X O .ow e te f) (hp : PS X (.Assign [.Name x p] e pos) (tAsg te (gName i))) : DS X m OB O (i :: del i O) [i] (.Assign [.Name x p] e pos) (tAsg te (gName i)) (sAsg i f) := ⟨hp, fun ρ σ Hs0 H0 Hs H D o x hg q => by
  obtain ⟨d, h1, rfl⟩ := Option.map_eq_some_iff.mp hg
  exact h.ev ρ σ Hs H d x.sl h1 _ fun v Hs1 H1 g1 r1 => q _ Hs1 H1 (x.ow g1 r1) .set⟩
/-- targets at places that hold nothing of one's own -/
theorem StOK.tgt {O : List Nat} {ρ ρ' : Rho} {σ σ' : St} {Hs0 H0 Hs H : Hp} {js : List Nat} (x : StOK O ρ σ Hs0 H0 Hs H) (ho : ∀ j ∈ js, O.contains j = false) (s : Slots O ρ' σ' Hs H) (h : ∀ j, j ∉ js → σ'[j]? = σ[j]? ∧ ρ'[j]? = ρ[j]?) : StOK O ρ' σ' Hs0 H0 Hs H :=
  ⟨s, x.gr, fun i hi d hd => by
    have hn : i ∉ js := fun z => by
      have := ho i z
      rw [mem_contains hi] at this
      cases this
    rw [(h i hn).1]
    rw [(h i hn).2] at hd
    exact x.new i hi d hd⟩
def sAsgG (k : FG) (f : F) : FS := fun ρ => (f ρ).bind fun d => (k d ρ).map .nx
theorem ds_asgG {tg : Expr} {g : TG} {k : FG} {js : List Nat} (h : DE X O .cl e te f) (hg : DG X O tg g k js) (hs : swapsWithSole [tg] e pos.line X.env = pure false := by rfl) (hw : swappedStores [tg] e X.env = pure none := by rfl)
    (h1 : (assignEach [tg] X.env).map (·.2) = [assign tg X.env] := by rfl) : DS X m OB O O js (.Assign [tg] e pos) (tAsg te g) (sAsgG k f) := ⟨ps_asg h.pe hg.pg hs hw h1, fun ρ σ Hs0 H0 Hs H D o x hx q => by
  obtain ⟨d, h1, h2⟩ := bind_some hx
  obtain ⟨ρ', h3, rfl⟩ := Option.map_eq_some_iff.mp h2
  refine h.ev ρ σ Hs H d x.sl h1 _ fun v Hs1 H1 g1 r1 => ?_
  exact hg.ev d v ρ ρ' σ Hs1 H1 (x.sl.mono g1) r1 h3 _ fun σ' s' l' o' => q σ' Hs1 H1 ((x.mono g1).tgt hg.ho s' o') o'⟩
/-! changing a list of one's own -/
theorem StOK.upd {O : List Nat} {ρ : Rho} {σ : St} {Hs0 H0 Hs H : Hp} {i : Nat} {a : Addr} {vs : List V} {ds ds0 : List PyData} (x : StOK O ρ σ Hs0 H0 Hs H) (hi : O.contains i = true) (hs : σ[i]? = some (some (.ref a))) (hr : ρ[i]? = some (some (.list ds0))) (r : RA Hs vs ds) :
    StOK O (ρ.set i (some (.list ds))) σ Hs0 H0 Hs (upd H a (.lst vs)) := by
  obtain ⟨v, k1, k2, _⟩ := x.sl.val i _ hr
  obtain ⟨a', vs0, ds1, rfl, _, n1, n2, _⟩ := k2 hi
  rw [hs] at k1
  obtain rfl := V.ref.inj (Option.some.inj (Option.some.inj k1))
  obtain ⟨a2, k3, k4⟩ := x.new i (by simpa using hi) _ hr
  rw [hs] at k3
  obtain rfl := V.ref.inj (Option.some.inj (Option.some.inj k3))
  have sub : Same Hs (L2.upd H a (.lst vs)) := fun b u z => by
    rw [upd_ne (ne_of_none z n1)]
    exact x.sl.sub _ _ z
  refine ⟨⟨sub, by rw [List.length_set]; exact x.sl.len, fun j e h => ?_, fun j k dj dk v hn h1 h2 h3 h4 h5 h6 => ?_⟩, ⟨x.gr.s, fun b u z => ?_, sub, x.gr.non⟩, fun j hj e h => ?_⟩
  · by_cases hj : i = j
    · subst hj
      have hl : i < ρ.length := (List.getElem?_eq_some_iff.mp hr).1
      rw [List.getElem?_set_self hl] at h
      obtain rfl := Option.some.inj (Option.some.inj h)
      exact ⟨_, hs, fun _ => ⟨a, vs, ds, rfl, rfl, n1, upd_same, r⟩, fun z => by rw [hi] at z; cases z⟩
    · rw [List.getElem?_set_ne hj] at h
      obtain ⟨w, h1, h2, h3⟩ := x.sl.val j e h
      refine ⟨w, h1, fun z => ?_, h3⟩
      obtain ⟨b, ws, es, rfl, rfl, m1, m2, m3⟩ := h2 z
      have hba : b ≠ a := fun e => x.sl.dis i j _ _ (.ref a) hj hi z hr h hs (by rw [← e]; exact h1)
      exact ⟨b, ws, es, rfl, rfl, m1, by rw [upd_ne hba]; exact m2, m3⟩
  · have pick : ∀ j dj, (ρ.set i (some (PyData.list ds)))[j]? = some (some dj) → ∃ d', ρ[j]? = some (some d') := fun j dj h => by
      by_cases hj : i = j
      · subst hj
        exact ⟨_, hr⟩
      · rw [List.getElem?_set_ne hj] at h
        exact ⟨_, h⟩
    obtain ⟨dj', h3'⟩ := pick j dj h3
    obtain ⟨dk', h4'⟩ := pick k dk h4
    exact x.sl.dis j k dj' dk' v hn h1 h2 h3' h4' h5 h6
  · rw [upd_ne (ne_of_none z k4)]
    exact x.gr.h _ _ z
  · by_cases hji : i = j
    · subst hji
      exact ⟨a, hs, k4⟩
    · rw [List.getElem?_set_ne hji] at h
      exact x.new j hj e h
def sApp (i : Nat) (f : F) : FS := fun ρ => (f ρ).bind fun x => match ρ[i]? with
  | some (some (.list ds)) => if catC ds.length 1 = true then some (.nx (ρ.set i (some (.list (ds ++ [x]))))) else none
  | _ => none
theorem StOK.own_at {O : List Nat} {ρ : Rho} {σ : St} {Hs0 H0 Hs H : Hp} {i : Nat} {d : PyData} (x : StOK O ρ σ Hs0 H0 Hs H) (hi : O.contains i = true) (hr : ρ[i]? = some (some d)) : ∃ a vs ds, d = .list ds ∧ σ[i]? = some (some (.ref a)) ∧ Hs a = none ∧ H a = some (.lst vs) ∧ RA Hs vs ds := by
  obtain ⟨v, k1, k2, _⟩ := x.sl.val i _ hr
  obtain ⟨a, vs, ds, rfl, rfl, n1, n2, n3⟩ := k2 hi
  exact ⟨a, vs, ds, rfl, k1, n1, n2, n3⟩
/-- x.append(e), x a list of one's own -/
theorem ds_append (i : Nat) {x : Str} {p p2 p3 : Pos} (ho : O.contains i = true) (h : DE X O .cl e te f) (hv : PE X (.Name x p) (tVar i))
    (hp : PS X (.Expr (.Call (.Attribute (.Name x p) "append" p2) [e] [] p3) pos) (tDrop (tBM X.K "list" rAppend (tVar i) (tCons te tNil)))) :
    DS X m OB O O [i] (.Expr (.Call (.Attribute (.Name x p) "append" p2) [e] [] p3) pos) (tDrop (tBM X.K "list" rAppend (tVar i) (tCons te tNil))) (sApp i f) := ⟨hp, fun ρ σ Hs0 H0 Hs H D o x hg q => by
  obtain ⟨y, h1, h2⟩ := bind_some hg
  cases hr : ρ[i]? with
  | none => rw [hr] at h2; cases h2
  | some w =>
    rw [hr] at h2
    cases w with
    | none => cases h2
    | some d =>
      cases d <;> try (cases h2; done)
      rename_i ds
      obtain ⟨c, rfl⟩ := if_some (show (if catC ds.length 1 = true then some (Out.nx (ρ.set i (some (.list (ds ++ [y]))))) else none) = some o from h2)
      obtain ⟨a, vs, ds', e1, k1, n1, n2, n3⟩ := x.own_at ho hr
      cases e1
      refine ⟨.ref a, k1, .inl ⟨rfl, _, .inl (.inl n2)⟩, ?_⟩
      refine h.ev ρ σ Hs H y x.sl h1 _ fun v Hs1 H1 g1 r1 => ?_
      refine ⟨a, vs, v, rfl, rfl, g1.h _ _ n2, ?_, ?_⟩
      · rw [n3.length]
        have := of_decide_eq_true (p := ds.length + 1 ≤ 100000) c
        exact Nat.lt_of_lt_of_le (show ds.length < 100000 by omega) (by decide)
      · exact q σ Hs1 _ ((x.mono g1).upd ho k1 hr ((n3.mono g1.s).snoc r1)) .setR⟩
def sSetI (i : Nat) (fi fe : F) : FS := fun ρ => (fe ρ).bind fun x => (fi ρ).bind fun j => match ρ[i]?, j with
  | some (some (.list ds)), .int k => (ixN ds.length k).map fun n => .nx (ρ.set i (some (.list (ds.set n x))))
  | _, _ => none
/-- x[j] = e, x a list of one's own -/
theorem ds_setI (i : Nat) {x : Str} {p p2 : Pos} {j : Expr} {tj : TE} {fj : F} (ho : O.contains i = true) (h : DE X O .cl e te f) (hj : DE X O .rd j tj fj)
    (hp : PS X (.Assign [.Subscript (.Name x p) j p2] e pos) (tAsg te (gSub (tVar i) tj rSetL))) :
    DS X m OB O O [i] (.Assign [.Subscript (.Name x p) j p2] e pos) (tAsg te (gSub (tVar i) tj rSetL)) (sSetI i fj f) := ⟨hp, fun ρ σ Hs0 H0 Hs H D o x hg q => by
  obtain ⟨y, h1, h2⟩ := bind_some hg
  obtain ⟨z, h3, h2⟩ := bind_some h2
  cases hr : ρ[i]? with
  | none => rw [hr] at h2; cases z <;> cases h2
  | some w =>
    rw [hr] at h2
    cases w with
    | none => cases z <;> cases h2
    | some d =>
      cases d <;> cases z <;> try (cases h2; done)
      rename_i ds k
      obtain ⟨n, hn, rfl⟩ := Option.map_eq_some_iff.mp (show (ixN ds.length k).map (fun n => Out.nx (ρ.set i (some (.list (ds.set n y))))) = some o from h2)
      refine h.ev ρ σ Hs H y x.sl h1 _ fun v Hs1 H1 g1 r1 => ?_
      have x1 := x.mono g1
      obtain ⟨a, vs, ds', e1, k1, n1, n2, n3⟩ := x1.own_at ho hr
      cases e1
      refine ⟨.ref a, k1, hj.ev ρ σ Hs1 H1 _ x1.sl h3 _ fun u Hs2 H2 g2 r2 => ?_⟩
      refine ⟨a, vs, k, n, rfl, rd_int r2, g2.h _ _ n2, by rw [n3.length]; exact hn, ?_⟩
      exact q σ Hs2 _ ((x1.mono g2).upd ho k1 hr ((n3.mono g2.s).set (r1.mono g2.s) n)) .setR⟩
/-! loops -/
def loopF (k : FG) (B : FS) : List PyData → FS
  | [], ρ => some (.nx ρ)
  | d :: ds, ρ => (k d ρ).bind fun ρ1 => (B ρ1).bind fun o => match o with
    | .nx ρ2 => loopF k B ds ρ2
    | .ct ρ2 => loopF k B ds ρ2
    | .bk ρ2 => some (.nx ρ2)
    | .rt v => some (.rt v)
def sFor (src : FA) (k : FG) (B : FS) : FS := fun ρ => (src ρ).bind fun ds => loopF k B ds ρ
/-- the entry of a loop's body: what stood ahead of the loop, Hs1, stands -/
def joinH (H0 Hs1 : Hp) : Hp := fun a => match H0 a with
  | some o => some o
  | none => Hs1 a
theorem joinH_none {H0 Hs1 : Hp} {a : Addr} (h : joinH H0 Hs1 a = none) : H0 a = none ∧ Hs1 a = none := by
  unfold joinH at h
  cases q : H0 a with
  | none =>
    rw [q] at h
    exact ⟨rfl, h⟩
  | some o =>
    rw [q] at h
    cases h
theorem joinH_of {H0 Hs1 : Hp} {a : Addr} (h1 : H0 a = none) (h2 : Hs1 a = none) : joinH H0 Hs1 a = none := by
  unfold joinH
  rw [h1]
  exact h2
theorem joinH_l {H0 Hs1 : Hp} : Same H0 (joinH H0 Hs1) := fun a o h => by
  unfold joinH
  rw [h]
theorem gr_join {Hs0 H0 Hs1 H1 : Hp} (g : Gr Hs0 H0 Hs1 H1) : Gr Hs0 H0 Hs1 (joinH H0 Hs1) := ⟨g.s, joinH_l, fun a o h => by
  unfold joinH
  cases q : H0 a with
  | none => exact h
  | some o' =>
    have e1 := g.h a o' q
    have e2 := g.sub a o h
    rw [e1] at e2
    exact e2, g.non⟩
theorem StOK.rebase {O : List Nat} {ρ : Rho} {σ : St} {Hs0 H0 Hs1 H1 Ks K : Hp} (x : StOK O ρ σ Hs0 H0 Ks K) (g : Gr Hs0 H0 Hs1 H1) (e : Same Hs1 Ks) : StOK O ρ σ Hs1 (joinH H0 Hs1) Ks K :=
  ⟨x.sl, ⟨e, fun a o h => by
    unfold joinH at h
    cases q : H0 a with
    | none =>
      rw [q] at h
      exact x.sl.sub _ _ (e _ _ h)
    | some o' =>
      rw [q] at h
      cases h
      exact x.gr.h _ _ q, x.sl.sub, fun a h1 h2 => by
    refine x.gr.non a (Same.free g.s h1) fun z => h2 (joinH_of z h1)⟩, fun i hi d hd => by
    obtain ⟨a, ka, kb⟩ := x.new i hi d hd
    obtain ⟨w, k1, k2, _⟩ := x.sl.val i d hd
    obtain ⟨b, _, _, rfl, _, m1, _⟩ := k2 (by simpa using hi)
    rw [ka] at k1
    obtain rfl := V.ref.inj (Option.some.inj (Option.some.inj k1))
    exact ⟨a, ka, joinH_of kb (Same.free e m1)⟩⟩
theorem StOK.unbase {O : List Nat} {ρ : Rho} {σ : St} {Hs0 H0 Hs1 H1 Ks K : Hp} (g : Gr Hs0 H0 Hs1 H1) (x : StOK O ρ σ Hs1 (joinH H0 Hs1) Ks K) : StOK O ρ σ Hs0 H0 Ks K :=
  ⟨x.sl, (gr_join g).trans x.gr, fun i hi d hd => by
    obtain ⟨a, ka, kb⟩ := x.new i hi d hd
    exact ⟨a, ka, (joinH_none kb).1⟩⟩
theorem ds_for {tg iter : Expr} {body : List Stmt} {wi : TI} {g : TG} {tb : TS} {src : FA} {k : FG} {B : FS} {js : List Nat} (hp : PassesOwn (model X.prog X.w) X.A X.env X.xe) (hc : X.calm = true) (hi : DI X O tg iter wi src) (hg : DG X O tg g k js) (hb : DSs X m O O O W body tb B)
    (hs : ∀ x, foldedSetIterable iter X.env x = pure x := by intro _; rfl) : DS X m OB O O (js ++ W) (.For tg iter body [] pos) (tFor wi g tb) (sFor src k B) := ⟨ps_for hp hc hi.pi hg.pg hb.ps hs, fun ρ σ Hs0 H0 Hs H D o x hx q => by
  obtain ⟨ds, hds, hl⟩ := bind_some hx
  refine hi.ev ρ σ Hs H ds x.sl hds _ fun J Hs1 H1 g1 giv => ?_
  refine ⟨fun i n σ' K => n = ds.length - i ∧ i ≤ ds.length ∧ ∃ (Ks : Hp) (ρ' : Rho), StOK O ρ' σ' Hs0 H0 Ks K ∧ Same Hs1 Ks ∧ Fx (js ++ W) σ σ' ρ ρ' ∧ loopF k B (ds.drop i) ρ' = some o, ⟨ds.length, by simp, Nat.zero_le _, Hs1, ρ, x.mono g1, .refl _, .refl _ _ _, hl⟩, ?_⟩
  rintro i n σ' K ⟨rfl, hle, Ks, ρ', x', e1, fx, hl'⟩
  by_cases hlt : i < ds.length
  · have hdrop : ds.drop i = ds[i] :: ds.drop (i + 1) := List.drop_eq_getElem_cons hlt
    rw [hdrop] at hl'
    obtain ⟨ρ1, hk, hl'⟩ := bind_some hl'
    obtain ⟨o1, hB, hl'⟩ := bind_some hl'
    refine .inr ⟨giv.go i Ks K e1 x'.sl.sub hlt, fun σ2 K2 => ∃ (Ks : Hp) (ρ' : Rho), StOK O ρ' σ2 Hs0 H0 Ks K2 ∧ Same Hs1 Ks ∧ Fx (js ++ W) σ σ2 ρ ρ' ∧ loopF k B (ds.drop (i + 1)) ρ' = some o, fun σ2 K2 hN => ⟨ds.length - (i + 1), by omega, rfl, by omega, hN⟩, fun v K' hy => ?_⟩
    obtain ⟨Ks', g2, rx⟩ := giv.yld i Ks K v K' e1 x'.sl.sub hy ds[i] (List.getElem?_eq_getElem hlt)
    refine hg.ev _ v ρ' ρ1 σ' Ks' K' (x'.sl.mono g2) rx hk _ fun σ2 s2 l2 out2 => ?_
    have x2 := (x'.mono g2).tgt hg.ho s2 out2
    have gb : Gr Hs0 H0 Hs1 H1 := x.gr.trans g1
    have e2 : Same Hs1 Ks' := e1.trans g2.s
    have f2 : Fx js σ' σ2 ρ' ρ1 := out2
    have f3 : ∀ {σ3 : St} {ρ3 : Rho}, Fx W σ2 σ3 ρ1 ρ3 → Fx (js ++ W) σ σ3 ρ ρ3 := fun f => (fx.app (f2.app f)).mono fun j z => by
      rcases List.mem_append.mp z with z | z <;> exact z
    refine hb.ev ρ1 σ2 Hs1 (joinH H0 Hs1) Ks' K' _ o1 (x2.rebase gb e2) hB ?_
    have next : ∀ ρ2, loopF k B (ds.drop (i + 1)) ρ2 = some o → ∀ σ3 Hs H, StOK O ρ2 σ3 Hs1 (joinH H0 Hs1) Hs H → Fx W σ2 σ3 ρ1 ρ2 → ∃ (Ks : Hp) (ρ' : Rho), StOK O ρ' σ3 Hs0 H0 Ks H ∧ Same Hs1 Ks ∧ Fx (js ++ W) σ σ3 ρ ρ' ∧ loopF k B (ds.drop (i + 1)) ρ' = some o :=
      fun ρ2 h σ3 Hs H y f => ⟨Hs, ρ2, StOK.unbase gb y, y.gr.s, f3 f, h⟩
    cases o1 with
    | nx ρ2 => exact next ρ2 hl'
    | ct ρ2 => exact next ρ2 hl'
    | bk ρ2 =>
      cases hl'
      exact fun σ3 Hs H y f => q σ3 Hs H (StOK.unbase gb y) (f3 f)
    | rt d =>
      cases hl'
      exact fun v Hs H gr r => q v Hs H ((gr_join gb).trans gr) (r.back joinH_l)
  · have ei : i = ds.length := by omega
    subst ei
    rw [List.drop_length] at hl'
    cases hl'
    exact .inl ⟨giv.stop Ks K e1 x'.sl.sub, q σ' Ks K x' fx⟩⟩
end
end DL
set_option Elab.async false
set_option linter.all false
set_option maxRecDepth 100000
namespace DL
open PySem PySem.Spec L2
open PyProof.Rows hiding St
variable [KF]
/-! ### room, with no text being made and frames to spare -/
structure GA (k : Nat) (A : Around) : Prop where
  rm : Room k A
  gd : A.guards = some []
  dp : A.depth + 3 * k + 205 < recursionLimit
theorem GA.mono {j k : Nat} {A : Around} (r : GA k A) (h : j ≤ k) : GA j A := ⟨r.rm.mono h, r.gd, by have := r.dp; omega⟩
theorem GA.deeper {k : Nat} {A : Around} (r : GA (k + 1) A) (env : Env) : GA k (A.deeper env) := ⟨r.rm.deeper env, r.gd, by
  have h := r.dp
  show A.depth + 1 + 3 * k + 205 < recursionLimit
  omega⟩
theorem GA.u64 {k : Nat} {A : Around} (r : GA k A) : A.units + 64 < cLine := r.rm.units
/-- a def's promise where no text is being made -/
structure FnG (P : Program) (w : World) (K : PySem.W.Frag) (mg : Str → Option Value) (base : Heap) (CX : CXT) (k : Nat) (f : Addr) (fd : FuncData) (ps : List Str) (sp : Sp) : Prop where
  len : ∀ vs H Q E, sp vs H Q E → vs.length = ps.length
  run : ∀ (A : Around) (outer : List Env) (s : Shared) (H : Hp) (args : Args) (us : List Value) (vs : List V) (Q : VK) (E : XK), GA k A → Env0 P w K mg base A outer s H → BindsTo s fd args (ps.zip us) →
    Vals vs us → sp vs H Q E → codeAny (model P w) A (.call (.ref f) args) (CR CX outer P w H s Q E) s
theorem FnG.mono {P : Program} {w : World} {K : PySem.W.Frag} {mg : Str → Option Value} {base : Heap} {CX : CXT} {j k : Nat} {f : Addr} {fd : FuncData} {ps : List Str} {sp : Sp} (F : FnG P w K mg base CX j f fd ps sp) (h : j ≤ k) : FnG P w K mg base CX k f fd ps sp :=
  ⟨F.len, fun A outer s H args us vs Q E hr => F.run A outer s H args us vs Q E (hr.mono h)⟩
theorem FnG.imp {P : Program} {w : World} {K : PySem.W.Frag} {mg : Str → Option Value} {base : Heap} {CX : CXT} {k : Nat} {f : Addr} {fd : FuncData} {ps : List Str} {sp sp' : Sp} (F : FnG P w K mg base CX k f fd ps sp) (h : ∀ vs H Q E, sp' vs H Q E → sp vs H Q E) :
    FnG P w K mg base CX k f fd ps sp' := ⟨fun vs H Q E q => F.len vs H Q E (h _ _ _ _ q), fun A outer s H args us vs Q E hr he hb hv hs => F.run A outer s H args us vs Q E hr he hb hv (h _ _ _ _ hs)⟩
/-- the rule for a def -/
theorem fnG_of {P : Program} {w : World} {K : PySem.W.Frag} {mg : Str → Option Value} {base : Heap} {CX : CXT} {x qual : Str} {st : Stmt} {f : Addr} {fd : FuncData} {N ps : List Str} {k : Nat} {sp : Sp} (F : Fun K x qual st f fd) (S : FnScope N ps (defScope st))
    (len : ∀ vs H Q E, sp vs H Q E → vs.length = ps.length)
    (body : ∀ (cdv : Value) (A : Around) (outer : List Env) (s : Shared) (H : Hp) (vs : List V) (Q : VK) (E : XK), GA k (A.deeper (envOfC qual (defScope st) s.heap.objs.size f cdv)) → sp vs H Q E →
      ∃ t, PSs (cxOf CX P w K mg base N qual (defScope st) f cdv A outer s H E) (defBody st) t ∧ t { nx := fun _ H' => Q .non H', rt := Q } (start N vs) H) : FnG P w K mg base CX (k + 1) f fd ps sp := by
  obtain ⟨oc, od, kV, doc, pm, an, cdv, ct, osl, rfl, lk, hcd⟩ := F.ex
  refine ⟨len, fun A outer s H args us vs Q E ga env0 bind rel want => ?_⟩
  have keep := fun b o e => (env0.bs b o e).1
  have KX : K.In s.heap := env0.mod.kin.keeps keep
  refine codeAny_call_function ga.rm.depth (KX _ _ lk) rfl S.co S.gen rfl (PySem.W.codeRec_of KX hcd) (bind _ _ _ _ ?_)
  refine wpAny_newFunctionEnv_cells S.kind (fun ⟨n, v⟩ hy => ?_) fun env he s1 entered => ?_
  · exact (S.par n (List.of_mem_zip hy).1).elim .inl fun q => .inr ⟨q, PySem.W.cellsFrom_some _ _ _ (.inl q)⟩
  subst he
  refine ⟨(env0.mod.nolimit.keeps keep).keeps entered.toInCall.keep, codeAny_func ?_⟩
  obtain ⟨t, derived, reading⟩ := body cdv A outer s H vs Q E (ga.deeper _) want
  have inv := inv_start (CX := CX) (E := E) S ga.rm.hd env0 (len _ _ _ _ want) rel entered
  refine wpAny_mono (derived.run [] s1 (start N vs) H _ inv reading) (fun fl s' out => ?_) fun _ _ out => out
  match fl, out with
  | .ret u, ⟨v, σ', H', J, rv, q⟩ => exact ⟨v, H', J.os, J.bare, J.base, J.hok, rv, q⟩
  | .next, ⟨σ', H', J, q⟩ => exact ⟨V.non, H', J.os, J.bare, J.base, J.hok, rfl, q⟩
  | .brk, ⟨_, _, _, q⟩ => exact False.elim q
  | .cont, ⟨_, _, _, q⟩ => exact False.elim q
section
variable {X : Cx} {CX : CXT} {k : Nat} {f : Addr} {fd : FuncData} {ps : List Str} {sp : Sp} {E : XK} {x : Str} {p pos : Pos} {e : Expr} {es : List Expr} {t : TA}
theorem runG {pins : List (Addr × Obj)} {σ : St} {H : Hp} {s : Shared} {Q : VK} {us : List Value} {vs : List V} (F : FnG X.prog X.w X.K X.mg X.base CX k f fd ps sp) (ga : GA k X.A) (hb : Binds X.K fd ps []) (hx : Passes CX X E) (inv : Inv X pins σ H s) (rel : Vals vs us)
    (want : sp vs H Q E) : wpAny (model X.prog X.w) X.A (call (.ref f) us) (EP X pins σ Q) X.xe s := by
  have hl : us.length = ps.length := rel.length.symm.trans (F.len _ _ _ _ want)
  have bind := hb s us inv.kIn (by rw [List.append_nil]; exact hl)
  rw [List.append_nil] at bind
  refine wpAny_call (codeAny_mono (F.run X.A X.stack s H ⟨us, []⟩ us vs Q E ga inv.env0 bind rel want) fun r s' out => ?_)
  match r, out with
  | .error e, out => exact hx pins σ H s e s' inv out
  | .ok (.ret u), out => exact inv.after out
  | .ok .next, out => exact False.elim out
  | .ok .brk, out => exact False.elim out
  | .ok .cont, out => exact False.elim out
theorem pe_callG (F : FnG X.prog X.w X.K X.mg X.base CX k f fd ps sp) (ga : GA k X.A) (hg : Gl X x) (hm : X.mg x = some (.ref f)) (hk : PySem.W.keepIn X.K (.ref f) = true) (hb : Binds X.K fd ps []) (hx : Passes CX X E) (ha : PA X (e :: es) t)
    (hdb : (x == ("__debug__" : Str)) = false := by decide) (he : starEach (e :: es) X.env = (false, eval e X.env) :: starEach es X.env := by rfl) (hpl : (backTo pos (starEach es X.env)).any (·.1) = false := by rfl) : PE X (.Call (.Name x p) (e :: es) [] pos) (tCall sp [] E t) :=
  ⟨fun pins s σ H Q inv h => wpAny_Call_Name_kw (ld_glob inv hg hm (PySem.W.callWith_K (h₀ := X.base) inv.ok.mod.kin hk (thn (ha.run pos pins s σ H _ inv h) fun us s1 ⟨vs, H1, inv1, rel, want⟩ =>
    ⟨inv1.kIn, runG F ga hb hx inv1 rel (by have w2 : sp (vs ++ []) H1 Q E := want; rw [List.append_nil] at w2; exact w2)⟩) he hpl) hdb)⟩
end
/-! ### defs over data -/
def runF (nl : Nat) (B : FS) (ds : List PyData) : Option PyData := (B (ds.map some ++ List.replicate (nl - ds.length) none)).bind fun o => match o with
  | .rt d => some d
  | .nx _ => some .none
  | _ => none
/-- the promise: a function on data; n: how many arguments -/
def spF (n : Nat) (m : Md) (Fn : List PyData → Option PyData) : Sp := fun vs H Q _ => ∃ (ds : List PyData) (d : PyData) (Hs : Hp), ds.length = n ∧ Same Hs H ∧ RA Hs vs ds ∧ Fn ds = some d ∧ ∀ v Hs' H', Gr Hs H Hs' H' → Res m H Hs' H' v d → Q v H'
theorem spF_len {n : Nat} {m : Md} {Fn : List PyData → Option PyData} : ∀ vs H Q E, spF n m Fn vs H Q E → vs.length = n := fun vs H Q E h => by
  obtain ⟨ds, d, Hs, h1, _, h2, _⟩ := h
  rw [h2.length, h1]
theorem start_slots {N : List Str} {vs : List V} {ds : List PyData} {Hs H : Hp} (e : Same Hs H) (r : RA Hs vs ds) : StOK [] (ds.map some ++ List.replicate (N.length - ds.length) none) (start N vs) Hs H Hs H := by
  refine ⟨⟨e, ?_, fun i d h => ?_, fun i j di dj v hn h1 => ?_⟩, .refl e, fun i hi => (nomatch hi)⟩
  · unfold L2.start
    rw [List.length_append, List.length_append, List.length_map, List.length_map, List.length_replicate, List.length_replicate, r.length]
  · by_cases hi : i < ds.length
    · rw [List.getElem?_append_left (by rw [List.length_map]; exact hi), List.getElem?_map] at h
      obtain ⟨d', hd, e1⟩ := Option.map_eq_some_iff.mp h
      cases e1
      obtain ⟨v, h1, h2⟩ := r.get hd
      refine ⟨v, ?_, fun z => (nomatch z), fun _ => h2⟩
      unfold L2.start
      rw [List.getElem?_append_left (by rw [List.length_map, r.length]; exact hi), List.getElem?_map, h1] <;> rfl
    · rw [List.getElem?_append_right (by rw [List.length_map]; omega), List.length_map] at h
      have := List.mem_of_getElem? h
      have := (List.mem_replicate.mp this).2
      cases this
  · exact (nomatch h1)
/-- a def, by its body's reading -/
theorem def_of {P : Program} {w : World} {K : PySem.W.Frag} {mg : Str → Option Value} {base : Heap} {CX : CXT} {x qual : Str} {st : Stmt} {f : Addr} {fd : FuncData} {N ps : List Str} {k : Nat} {m : Md} {B : FS} {O' W : List Nat} {n : Nat} (F : Fun K x qual st f fd) (S : FnScope N ps (defScope st)) (hn : ps.length = n)
    (none_ok : m = .cl ∨ ∀ ρ ρ', B ρ ≠ some (.nx ρ'))
    (body : ∀ (cdv : Value) (A : Around) (outer : List Env) (s : Shared) (H : Hp) (E : XK), GA k (A.deeper (envOfC qual (defScope st) s.heap.objs.size f cdv)) →
      ∃ t, DSs (cxOf CX P w K mg base N qual (defScope st) f cdv A outer s H E) m [] [] O' W (defBody st) t B) : FnG P w K mg base CX (k + 1) f fd ps (spF n m (runF N.length B)) := by
  subst hn
  refine fnG_of F S spF_len fun cdv A outer s H vs Q E ga want => ?_
  obtain ⟨t, h⟩ := body cdv A outer s H E ga
  obtain ⟨ds, d, Hs, hl, e, r, hf, q⟩ := want
  refine ⟨t, h.ps, ?_⟩
  obtain ⟨o, ho, hd⟩ := bind_some hf
  refine h.ev _ _ Hs H Hs H _ o (start_slots e r) ho ?_
  cases o with
  | nx ρ' =>
    cases hd
    rcases none_ok with rfl | hno
    · exact fun σ' Hs' H' x _ => q _ Hs' H' x.gr .non
    · exact absurd ho (hno _ _)
  | rt d' =>
    cases hd
    exact fun v Hs' H' g r' => q v Hs' H' g r'
  | bk _ => cases hd
  | ct _ => cases hd
/-- a call of a def over data -/
theorem de_call {X : Cx} {O : List Nat} {CX : CXT} {k n : Nat} {f : Addr} {fd : FuncData} {ps : List Str} {m : Md} {Fn : List PyData → Option PyData} {E : XK} {x : Str} {p pos : Pos} {e : Expr} {es : List Expr} {t : TA} {fs : FA} (F : FnG X.prog X.w X.K X.mg X.base CX k f fd ps (spF n m Fn)) (ga : GA k X.A)
    (hm : X.mg x = some (.ref f)) (hk : PySem.W.keepIn X.K (.ref f) = true) (hb : Binds X.K fd ps []) (hx : Passes CX X E) (ha : DAc X O (e :: es) t fs) (hlen : (e :: es).length = n := by rfl) (hfs : ∀ ρ ds, fs ρ = some ds → ds.length = (e :: es).length) (hg : Gl X x := by rfl)
    (hdb : (x == ("__debug__" : Str)) = false := by decide) (he : starEach (e :: es) X.env = (false, eval e X.env) :: starEach es X.env := by rfl) (hpl : (backTo pos (starEach es X.env)).any (·.1) = false := by rfl) : DE X O m (.Call (.Name x p) (e :: es) [] pos) (tCall (spF n m Fn) [] E t) (fFn Fn fs) :=
  ⟨pe_callG F ga hg hm hk hb hx ha.pa hdb he hpl, fun ρ σ Hs H d s h Q q => by
    obtain ⟨xs, hxs, h⟩ := bind_some h
    refine ha.ev ρ σ Hs H xs s hxs _ fun vs Hs1 H1 g1 r1 => ?_
    refine ⟨xs, d, Hs1, (hfs ρ xs hxs).trans hlen, g1.sub, ?_, h, fun v Hs2 H2 g2 r2 => q v Hs2 H2 (g1.trans g2) (r2.back g1.h)⟩
    rw [List.append_nil]
    exact r1⟩
theorem fsA_nil : ∀ ρ ds, fNilA ρ = some ds → ds.length = ([] : List Expr).length := fun ρ ds h => by
  cases h
  rfl
theorem fsA_cons {e : Expr} {es : List Expr} {f : F} {fs : FA} (h : ∀ ρ ds, fs ρ = some ds → ds.length = es.length) : ∀ ρ ds, fConsA f fs ρ = some ds → ds.length = (e :: es).length := fun ρ ds hq => by
  obtain ⟨x, _, hq⟩ := bind_some hq
  obtain ⟨xs, h2, hq⟩ := bind_some hq
  cases hq
  rw [List.length_cons, List.length_cons, h ρ xs h2]
/-! ### texts of data -/
section
variable {X : Cx} {O : List Nat} {e : Expr} {te : TE} {f : F} {pos p : Pos}
def rRepr : List V → Hp → VK → Prop := fun xs H Q => ∃ (a : Addr) (d : PyData), xs = [.ref a] ∧ R H (.ref a) d ∧ d.showable = true ∧ d.hasDict = false ∧ d.depth ≤ 60 ∧ d.shown.length ≤ sizeLine ∧ Q (.str d.shown) H
theorem call_repr (hK : X.K = KF.K) (hg : X.A.guards = some []) (hu : X.A.units + 64 < cLine) : CallR X (.builtin "repr") rRepr := by
  intro pins s σ H xs us Q I r h
  obtain ⟨a, d, rfl, rd, h1, h2, h3, h4, q⟩ := h
  rw [Vals.ref1 r]
  obtain ⟨as, reads⟩ := Dp.reads I d (.ref a) (.ref a) (by rw [hK]; exact R.dp rd) rfl
  refine repr_of_reads' reads h1 (fun z => by rw [h2] at z; cases z) hg (by omega) (fun _ _ e => e) (fun h' u tk hk => ?_) h4
  exact ⟨.str d.shown, H, I.kept hk, ⟨_, rfl⟩, q⟩
def reprC (d : PyData) : Bool := d.showable && !d.hasDict && decide (d.depth ≤ 60) && decide (d.shown.length ≤ 16000000)
def dRepr : PyData → Option PyData := fun d => match d with
  | .list xs => if reprC (.list xs) = true then some (.str (PyData.list xs).shown) else none
  | .tuple xs => if reprC (.tuple xs) = true then some (.str (PyData.tuple xs).shown) else none
  | _ => none
theorem reprC_of {d : PyData} (h : reprC d = true) : d.showable = true ∧ d.hasDict = false ∧ d.depth ≤ 60 ∧ d.shown.length ≤ sizeLine := by
  unfold reprC at h
  simp only [Bool.and_eq_true, Bool.not_eq_true', decide_eq_true_eq] at h
  exact ⟨h.1.1.1, h.1.1.2, h.1.2, Nat.le_trans h.2 (by decide)⟩
theorem cd_repr : CallD rRepr .cl (g1 dRepr) := by
  intro Hs H vs xs z e hv hz Q q
  obtain ⟨x, rfl, hz⟩ := g1_some hz
  obtain ⟨v, rfl, hr⟩ := rdA1 hv
  have hR := rd_R e hr
  cases x <;> try (cases hz; done)
  · rename_i ds _
    obtain ⟨c, rfl⟩ := if_some (show (if reprC (.list ds) = true then some (PyData.str (PyData.list ds).shown) else none) = some z from hz)
    obtain ⟨c1, c2, c3, c4⟩ := reprC_of c
    cases hR with
    | lst a b => exact ⟨_, _, rfl, .lst a b, c1, c2, c3, c4, q _ Hs H (.refl e) (show R Hs _ _ from .str _)⟩
  · rename_i ds _
    obtain ⟨c, rfl⟩ := if_some (show (if reprC (.tuple ds) = true then some (PyData.str (PyData.tuple ds).shown) else none) = some z from hz)
    obtain ⟨c1, c2, c3, c4⟩ := reprC_of c
    cases hR with
    | tup a b => exact ⟨_, _, rfl, .tup a b, c1, c2, c3, c4, q _ Hs H (.refl e) (show R Hs _ _ from .str _)⟩
theorem de_repr (hK : X.K = KF.K) {k : Nat} (ga : GA k X.A) (gl : Gl X "repr") (hm : X.mg "repr" = none) (ha : DE X O .rd e te f) (hs : starEach [e] X.env = [(false, eval e X.env)] := by rfl) : DE X O .cl (.Call (.Name "repr" p) [e] [] pos) (tCB rRepr (tCons te tNil)) (fFn (g1 dRepr) (fConsA f fNilA)) :=
  de_b (call_repr hK ga.gd ga.u64) cd_repr gl hm (by decide +kernel) (da_cons ha da_nil hs) (he := hs)
end
/-! ### // of ints of any size -/
structure DivOK (X : Cx) : Prop where
  seer : X.base.NoSeer
  tree : X.prog.given.tree = none
  top : ∃ env l, X.A.frames = some (env :: l) ∧ env.scope.isGenerator = false ∧ env.scope.isCoroutine = false ∧ env.builtins = builtinsNs ∧ env.globals = mainGlobals
  dp : X.A.depth + 100 < recursionLimit
section
variable {X : Cx} {O : List Nat} {a b : Expr} {ta tb : TE} {fa fb : F} {pos : Pos}
abbrev rDivW : R2 := rI (fun _ j => j ≠ 0) fun i j => .int (i.fdiv j)
theorem op_divW (ok : DivOK X) : OpR X (binaryOp .FloorDiv) rDivW := by
  intro pins s σ H x y v u Q I rx ry h
  obtain ⟨i, j, rfl, rfl, hj, q⟩ := h
  obtain ⟨t, rfl⟩ := rx
  obtain ⟨t', rfl⟩ := ry
  obtain ⟨env, l, h1, h2, h3, h4, h5⟩ := ok.top
  refine PyProof.Rows.floordiv_int hj ⟨.int _, H, I.tok _, ⟨_, rfl⟩, q⟩ (.inr (PylongRoom.of I.nolimit (by have := ok.dp; exact this) (SeerAt.of (ok.seer.keeps I.bk) ok.tree h1 h2 h3 h4 h5)))
def dDivW := gI (fun _ j => decide (j ≠ 0)) fun i j => .int (i.fdiv j)
theorem de_divW (ok : DivOK X) (ha : DE X O .rd a ta fa) (hb : DE X O .rd b tb fb) : DE X O .cl (.BinOp a .FloorDiv b pos) (tOp rDivW ta tb) (fBin dDivW fa fb) := de_op (op_divW ok) (opd_I fun i j h => of_decide_eq_true (p := j ≠ 0) h) ha hb
end
end DL
set_option Elab.async false
set_option linter.all false
set_option maxRecDepth 100000
namespace DL
open PySem PySem.Spec L2
open PyProof.Rows hiding St
/-! ### the law's own call -/
/-- a heap without its tracked objects (lists) still has nothing that loads -/
theorem seer_hid {h : Heap} {H : Hp} (x : h.NoSeer) (out : ∀ (b : Addr) (o : Obj), h.get? b = some o → (o.cls ≠ .type "list" ∨ ∀ its n, o.data ≠ .seq its n) → H b = none) : (hidT h H).NoSeer := by
  have ns : ∀ {b : Addr} {m : Str → Option Value}, h.Ns b m → (hidT h H).Ns b m := fun {b m} ⟨o, es, ep, e, d, r⟩ => ⟨o, es, ep, hidT_get e (out b o e (.inr fun its n z => by rw [d] at z; cases z)), d, r⟩
  obtain ⟨mc, s1, s2, s3⟩ := x.statics
  obtain ⟨mm, m1, m2⟩ := x.mods
  obtain ⟨mb, b1, b2⟩ := x.imp
  obtain ⟨mg, bm, ob, g1, g2, g3, g4, g5⟩ := x.main
  exact ⟨⟨mc, ns s1, s2, s3⟩, ⟨mm, ns m1, m2⟩, ⟨mb, ns b1, b2⟩, ⟨mg, bm, ob, ns g1, g2, hidT_get g3 (out bm ob g3 (.inl (by rw [g4]; decide))), g4, g5⟩⟩
theorem ra_ints (H : Hp) [KF] (ns : List Int) : RA H (ns.map V.int) (ns.map PyData.int) := RA.ints ns
/-- from one abstract heap: the script's list is all that it tracks, or nothing -/
theorem law_from [KF] {P : Program} {w : World} {mg mb : Str → Option Value} {CX : CXT} {k : Nat} {fa a : Addr} {fd : FuncData} {x : Str} {s₁ : Shared} {vs : List Value} {ns : List Int} {Fn : List PyData → Option PyData}
    (KX : KF.K.In s₁.heap) (hns : s₁.heap.Ns mainGlobals mg) (hb : s₁.heap.Ns builtinsNs mb) (hbb : ∀ x : Str, x ≠ "__name__" → mb x = bootBuiltins x) (hlim : s₁.heap.NoLimit) (hseer : s₁.heap.NoSeer) (hg : s₁.gens = #[])
    (ha : s₁.heap.get? a = some { cls := .type "list", data := .seq vs.toArray }) (hr : GA k callerA)
    (F : ∀ base : Heap, KF.K.In base → base.Ns mainGlobals mg → base.NoSeer → FnG P w KF.K mg base CX k fa fd [x] (spF 1 .cl Fn)) (hbind : ∀ (s : Shared) (u : Value), BindsTo s fd ⟨[u], []⟩ [(x, u)])
    (hFn : Fn [.list (ns.map .int)] = some (.bool true)) (hCX : ∀ H e s', CX [] H s₁ (fun _ _ _ => False) e s' → False)
    (H : Hp) (hL : LsK H a (ns.map V.int)) (ok : HOk P w H s₁.heap) (only : ∀ b, H b ≠ none → b = a) (frz : ∀ u, H a = some u → ∃ o xs, u = .frz o (.lst xs)) (out : H a ≠ none → KF.K.lookup a = none) :
    codeAny (model P w) callerA (.call (.ref fa) ⟨[.ref a], []⟩) (fun r s' => r = .ok (.ret (.bool true)) ∧ PySem.OldK s₁.heap s'.heap ∧ s'.os = s₁.os ∧ AllBare s'.gens) s₁ := by
  have untr : ∀ (b : Addr) (o : Obj), s₁.heap.get? b = some o → (o.cls ≠ .type "list" ∨ ∀ its n, o.data ≠ .seq its n) → H b = none := fun b o e hd => by
    cases q : H b with
    | none => rfl
    | some u =>
      have hb : b = a := only b (by rw [q]; simp)
      subst hb
      rw [ha] at e
      cases e
      rcases hd with hd | hd
      · exact absurd rfl hd
      · exact absurd rfl (hd _ _)
  have nsB : ∀ {b : Addr} {m : Str → Option Value}, s₁.heap.Ns b m → (hidT s₁.heap H).Ns b m := fun {b m} ⟨o, es, ep, e, d, r⟩ => ⟨o, es, ep, hidT_get e (untr b o e (.inr fun its n z => by rw [d] at z; cases z)), d, r⟩
  have hKb : KF.K.In (hidT s₁.heap H) := fun b o e => by
    refine hidT_get (KX b o e) ?_
    cases q : H b with
    | none => rfl
    | some u =>
      have hb : b = a := only b (by rw [q]; simp)
      subst hb
      rw [out (by rw [q]; simp)] at e
      cases e
  obtain ⟨ml, l1, l2⟩ := hlim
  have hM : Mod KF.K mg (hidT s₁.heap H) := ⟨hKb, nsB hns, ⟨mb, nsB hb, hbb⟩, ⟨ml, nsB l1, l2⟩⟩
  have env0 : Env0 P w KF.K mg (hidT s₁.heap H) callerA [] s₁ H :=
    ⟨rfl, hM, fun b o e => of_hidT e, Nat.le_of_eq (hidT_size _ _), trivial, fun b z => absurd (show b ∈ ([] : List Addr) from z) (by simp), ok, .of_eq hg⟩
  have want : spF 1 .cl Fn [.ref a] H (fun v _ => v = .bl true) (fun _ _ _ => False) :=
    ⟨[.list (ns.map .int)], .bool true, H, rfl, .refl _, .cons (.lst hL (RA.ints ns)) .nil, hFn, fun v Hs' H' _ r => by
      cases (show R Hs' v (.bool true) from r)
      rfl⟩
  refine codeAny_mono ((F _ hKb (nsB hns) (seer_hid hseer untr)).run callerA [] s₁ H ⟨[.ref a], []⟩ [.ref a] [.ref a] _ _ hr env0 (hbind s₁ (.ref a)) (.cons rfl .nil) want) fun r s' back => ?_
  match r, back with
  | .error e, back => exact (hCX H e s' back).elim
  | .ok .next, back => exact False.elim back
  | .ok .brk, back => exact False.elim back
  | .ok .cont, back => exact False.elim back
  | .ok (.ret u), ⟨v, H', os, bare, un, ok', rel, q⟩ =>
    have q : v = .bl true := q
    subst q
    have rel : u = Value.bool true := rel
    subst rel
    refine ⟨rfl, PySem.OldK.of_keep fun b o e => ?_, os, bare⟩
    cases q : H b with
    | none => exact un.keep b o e q (fun z => absurd (show b ∈ ([] : List Addr) from z) (by simp)) (by simp)
    | some u =>
      have hb : b = a := only b (by rw [q]; simp)
      subst hb
      obtain ⟨ob, xs, rfl⟩ := frz u q
      obtain ⟨e1, _⟩ := ok b _ q
      obtain ⟨e2, _⟩ := ok' b _ (un.frzs b ob _ q)
      rw [e] at e1
      cases e1
      exact e2
/-- the goal that k_head leaves, from a promise on data -/
theorem walk_D {l : PySem.W.OpenLaw} {n k : Nat} {q : Program} {loose : List Str} {XP : (Str → Option Value) → Heap → Prop} {YP : World → Heap → Prop} {d : DefRec} {K : Params → PySem.W.Frag} {CX : World → CXT} {x : Str} {Fn : List PyData → Option PyData}
    (hn : l.most = some n) (hn2 : n ≤ sizeLine) (hdf : d.params.defaults = []) (hr : GA k callerA) (him : importsNone q = true) (hY : ∀ (w : World) (h : Heap), YP w h → (K w.params).In h)
    (F : ∀ (w : World) (mg : Str → Option Value) (fa : Addr) (h : Heap), (K w.params).In h → h.Ns mainGlobals mg → mg d.name = some (.ref fa) →
      ∃ fd : FuncData, (∀ (s : Shared) (u : Value), BindsTo s fd ⟨[u], []⟩ [(x, u)]) ∧ ∀ base : Heap, (K w.params).In base → base.Ns mainGlobals mg → base.NoSeer → FnG l.prog w (K w.params) mg base (CX w) k fa fd [x] (@spF ⟨K w.params, true⟩ 1 .cl Fn))
    (hFn : ∀ ns : List Int, ns.length ≤ n → (∀ z ∈ ns, Builtin.Int.intBits z ≤ 1048576) → Fn [.list (ns.map .int)] = some (.bool true))
    (hCX : ∀ (w : World) (H : Hp) (s : Shared) (e : Value) (s' : Shared), CX w [] H s (fun _ _ _ => False) e s' → False) : PySem.W.WalkO q loose XP YP l.row.toRowW d [] (fun f vs => PySem.call f vs) := by
  refine Att.attach_callB hn hdf fun w s₀ s₁ mg mb fa o pm cd doc a vs ns G Y ho hd hcd hmg hobj hints hlen hbits hg => ?_
  have KX := hY w _ Y
  obtain ⟨fd, hb, hF⟩ := F w mg fa _ KX G.T.g hmg
  have rv := vals_ints hints
  letI kf : KF := ⟨K w.params, true⟩
  have go := law_from (P := l.prog) (w := w) (CX := CX w) (fd := fd) KX G.T.g G.T.b G.T.builtins G.T.nolimit (G.T.seer him) hg hobj hr hF hb (hFn ns hlen hbits) fun H e s' => hCX w H s₁ e s'
  have small : (ns.map V.int).length ≤ sizeLine := by
    rw [List.length_map]
    exact Nat.le_trans hlen hn2
  cases hk : (K w.params).lookup a with
  | some ob =>
    have e := KX a ob hk
    rw [hobj] at e
    cases e
    exact go (fun _ => none) (.inr ⟨rfl, .inr ⟨vs.toArray, _, hk, by rw [List.size_toArray, ← rv.length]; exact small, by simpa using rv⟩⟩) (fun b u z => nomatch (show (none : Option HO) = some u from z)) (fun b z => absurd rfl z) (fun u z => nomatch (show (none : Option HO) = some u from z)) fun z => absurd rfl z
  | none =>
    have at_a : ∀ b, (fun b => if b = a then some (HO.frz { cls := .type "list", data := .seq vs.toArray } (.lst (ns.map V.int))) else none : Hp) b ≠ none → b = a := fun b z => by
      by_cases hb : b = a
      · exact hb
      · exact absurd (if_neg hb) z
    refine go (fun b => if b = a then some (.frz { cls := .type "list", data := .seq vs.toArray } (.lst (ns.map V.int))) else none) (.inr ⟨rfl, .inl ⟨_, if_pos rfl⟩⟩) (fun b u z => ?_) at_a (fun u z => ?_) fun _ => hk
    · have hb := at_a b (by rw [z]; simp)
      subst hb
      have z := (if_pos rfl).symm.trans z
      cases z
      exact ⟨hobj, small, vs, _, rv, hobj⟩
    · have z := (if_pos rfl).symm.trans z
      cases z
      exact ⟨_, _, rfl⟩
end DL
set_option Elab.async false
set_option linter.all false
set_option maxRecDepth 100000
namespace DL
open PySem PySem.Spec L2
open PyProof.Rows hiding St
variable [KF]
/-! ### short rules for a text's defs -/
theorem def_nx {P : Program} {w : World} {K : PySem.W.Frag} {mg : Str → Option Value} {base : Heap} {CX : CXT} {x qual : Str} {st : Stmt} {f : Addr} {fd : FuncData} {N ps : List Str} {k : Nat} {m : Md} {B : FS} {O' W : List Nat} {n nl : Nat} (F : Fun K x qual st f fd) (S : FnScope N ps (defScope st)) (hn : ps.length = n) (hnl : N.length = nl)
    (none_ok : m = .cl ∨ ∀ ρ ρ', B ρ ≠ some (.nx ρ'))
    (body : ∀ (cdv : Value) (A : Around) (outer : List Env) (s : Shared) (H : Hp) (E : XK), GA k (A.deeper (envOfC qual (defScope st) s.heap.objs.size f cdv)) →
      ∃ t, DSs (cxOf CX P w K mg base N qual (defScope st) f cdv A outer s H E).nox m [] [] O' W (defBody st) t B) : FnG P w K mg base CX (k + 1) f fd ps (spF n m (runF nl B)) := by
  subst hnl
  exact def_of F S hn none_ok fun cdv A outer s H E ga => let ⟨t, h⟩ := body cdv A outer s H E ga; ⟨t, ⟨h.ps.nox, h.ev⟩⟩
section
variable {X : Cx} {O : List Nat} {a b c : Expr} {ta tb tc : TE} {fa fb fc : F} {pos : Pos}
theorem dt_cmpR {op : CmpOp} {r : R2} {g : PyData → PyData → Option PyData} (ho : OpR X (compareOp op) r) (hg : OpD r .cl g) (ha : DE X O .rd a ta fa) (hb : DE X O .rd b tb fb) (hm : behindInMarks op b = false) : DT X O (.Compare a [op] [b] pos) (tTest (tOp r ta tb)) (tV (fBin g fa fb)) :=
  ⟨pt_cmpR ho ha.pe hb.pe hm, fun ρ σ Hs H k s h Q q => by
    obtain ⟨x, hx, h⟩ := bind_some h
    refine ev_op2 hg ha hb s hx _ fun v Hs1 H1 g1 r1 => ?_
    cases x <;> try (cases h; done)
    cases h
    exact ⟨_, rd_bool (H0 := H) (H := H1) (.inl r1), q Hs1 H1 g1⟩⟩
theorem dt_lt (ha : DE X O .rd a ta fa) (hb : DE X O .rd b tb fb) : DT X O (.Compare a [.Lt] [b] pos) (tTest (tOp rLtI ta tb)) (tV (fBin dLt fa fb)) := dt_cmpR op_lt opd_B0 ha hb (nomark _)
theorem dt_le (ha : DE X O .rd a ta fa) (hb : DE X O .rd b tb fb) : DT X O (.Compare a [.LtE] [b] pos) (tTest (tOp rLeI ta tb)) (tV (fBin dLe fa fb)) := dt_cmpR op_le opd_B0 ha hb (nomark _)
theorem dt_gt (ha : DE X O .rd a ta fa) (hb : DE X O .rd b tb fb) : DT X O (.Compare a [.Gt] [b] pos) (tTest (tOp rGtI ta tb)) (tV (fBin dGt fa fb)) := dt_cmpR op_gt opd_B0 ha hb (nomark _)
theorem dt_ge (ha : DE X O .rd a ta fa) (hb : DE X O .rd b tb fb) : DT X O (.Compare a [.GtE] [b] pos) (tTest (tOp rGeI ta tb)) (tV (fBin dGe fa fb)) := dt_cmpR op_ge opd_B0 ha hb (nomark _)
theorem dt_eq (hu : X.A.units + 64 < cLine) (hK : X.K = KF.K) (ha : DE X O .rd a ta fa) (hb : DE X O .rd b tb fb) : DT X O (.Compare a [.Eq] [b] pos) (tTest (tOp (rEqD X.K) ta tb)) (tV (fBin dEq fa fb)) := dt_cmpR (op_eqD hu) (by rw [hK]; exact opd_eq) ha hb (nomark _)
theorem dt_ne (hu : X.A.units + 64 < cLine) (hK : X.K = KF.K) (ha : DE X O .rd a ta fa) (hb : DE X O .rd b tb fb) : DT X O (.Compare a [.NotEq] [b] pos) (tTest (tOp (rNeD X.K) ta tb)) (tV (fBin dNe fa fb)) := dt_cmpR (op_neD hu) (by rw [hK]; exact opd_ne) ha hb (nomark _)
theorem dt_is (ha : DE X O .rd a ta fa) (hb : DE X O .rd b tb fb) : DT X O (.Compare a [.Is] [b] pos) (tTest (tOp rIsD ta tb)) (tV (fBin dIs fa fb)) := dt_cmpR op_isN opd_is ha hb (nomark _)
theorem dt_isnot (ha : DE X O .rd a ta fa) (hb : DE X O .rd b tb fb) : DT X O (.Compare a [.IsNot] [b] pos) (tTest (tOp rIsNotD ta tb)) (tV (fBin dIsNot fa fb)) := dt_cmpR op_notN opd_isnot ha hb (nomark _)
theorem dt_chain {op op' : CmpOp} {r r' : R2} {g g' : PyData → PyData → Option PyData} (ho : OpR X (compareOp op) r) (hg : OpD r .cl g) (ho' : OpR X (compareOp op') r') (hg' : OpD r' .cl g') (ha : DE X O .rd a ta fa) (hb : DE X O .rd b tb fb) (hc : DE X O .rd c tc fc)
    (hm : lastMarks [op, op'] [b, c] = false := by with_unfolding_all rfl) : DT X O (.Compare a [op, op'] [b, c] pos) (tTest (tChain r r' ta tb tc)) (tV (fChain g g' fa fb fc)) :=
  ⟨pt_chain ho ho' ha.pe hb.pe hc.pe hm, fun ρ σ Hs H k s h Q q => by
    obtain ⟨x, hx, h⟩ := bind_some h
    refine (de_chain (pos := pos) ho hg ho' hg' ha hb hc hm).ev ρ σ Hs H x s hx _ fun v Hs1 H1 g1 r1 => ?_
    cases x <;> try (cases h; done)
    cases h
    exact ⟨_, rd_bool (H0 := H) (H := H1) (.inl r1), q Hs1 H1 g1⟩⟩
end
section
variable {X : Cx} {O : List Nat} {e a b c : Expr} {es : List Expr} {te ta tb tc : TE} {tA' tB' : TT} {f fa fb fc : F} {ft fu : FT} {m : Md} {pos : Pos}
theorem de_eqK (hu : X.A.units + 64 < cLine) (hK : X.K = KF.K) (ha : DE X O .rd a ta fa) (hb : DE X O .rd b tb fb) : DE X O .cl (.Compare a [.Eq] [b] pos) (tOp (rEqD KF.K) ta tb) (fBin dEq fa fb) := by
  rw [← hK]
  exact de_eq hu hK ha hb
end
section
variable {X : Cx} {O : List Nat} {e a b c : Expr} {es : List Expr} {te ta tb tc : TE} {tA' tB' : TT} {f fa fb fc : F} {ft fu : FT} {m : Md} {pos : Pos}
theorem de_neK (hu : X.A.units + 64 < cLine) (hK : X.K = KF.K) (ha : DE X O .rd a ta fa) (hb : DE X O .rd b tb fb) : DE X O .cl (.Compare a [.NotEq] [b] pos) (tOp (rNeD KF.K) ta tb) (fBin dNe fa fb) := by
  rw [← hK]
  exact de_ne hu hK ha hb
end
section
variable {X : Cx} {O : List Nat} {e a b c : Expr} {es : List Expr} {te ta tb tc : TE} {tA' tB' : TT} {f fa fb fc : F} {ft fu : FT} {m : Md} {pos : Pos}
theorem dt_truK (hK : X.K = KF.K) (ha : DE X O .rd a ta fa) (he : ∀ whole, isTrue a X.env whole = (do let v ← whole; standAt a.pos; holding [v] (truthy v)) := by intro _; rfl) : DT X O a (fun σ H Q => ta σ H fun x H' => ∃ k, TruV KF.K x H' k ∧ Q k H') (tTr fa) := by
  rw [← hK]
  exact dt_tru hK ha he
end
section
variable {X : Cx} {O : List Nat} {a b c : Expr} {ta tb tc : TE} {fa fb fc : F} {pos : Pos}
theorem dt_eqK (hu : X.A.units + 64 < cLine) (hK : X.K = KF.K) (ha : DE X O .rd a ta fa) (hb : DE X O .rd b tb fb) : DT X O (.Compare a [.Eq] [b] pos) (tTest (tOp (rEqD KF.K) ta tb)) (tV (fBin dEq fa fb)) := by
  rw [← hK]
  exact dt_eq hu hK ha hb
end
section
variable {X : Cx} {O : List Nat} {a b c : Expr} {ta tb tc : TE} {fa fb fc : F} {pos : Pos}
theorem dt_neK (hu : X.A.units + 64 < cLine) (hK : X.K = KF.K) (ha : DE X O .rd a ta fa) (hb : DE X O .rd b tb fb) : DT X O (.Compare a [.NotEq] [b] pos) (tTest (tOp (rNeD KF.K) ta tb)) (tV (fBin dNe fa fb)) := by
  rw [← hK]
  exact dt_ne hu hK ha hb
end
section
variable {X : Cx} {O : List Nat} {e a b c : Expr} {es : List Expr} {te ta tb tc : TE} {t : TA} {f fa fb fc : F} {fs : FA} {m : Md} {pos : Pos}
theorem de_ixK (hK : X.K = KF.K) (ha : DE X O .rd a ta fa) (hb : DE X O .rd b tb fb) (hs : PlainIx b := by intro _ _; rfl) : DE X O .cl (.Subscript a b pos) (tOp (rIx KF.K) ta tb) (fBin dIx fa fb) := by
  rw [← hK]
  exact de_ix hK ha hb hs
end
section
variable {X : Cx} {O : List Nat} {e a b c : Expr} {es : List Expr} {te ta tb tc : TE} {t : TA} {f fa fb fc : F} {fs : FA} {m : Md} {pos : Pos}
theorem de_sliceK (hK : X.K = KF.K) {lo hi : Option Expr} {tl th : TO} {fl fh : Rho → Option (Option Int)} {p2 : Pos} (ha : DE X O .rd a ta fa) (hl : DO X O lo tl fl) (hh : DO X O hi th fh) : DE X O .ow (.Subscript a (.Slice lo hi none p2) pos) (tSl (rSlL KF.K) ta tl th) (fSl fa fl fh) := by
  rw [← hK]
  exact de_slice hK ha hl hh
end
section
variable {X : Cx} {O : List Nat} {e a b c : Expr} {es : List Expr} {te ta tb tc : TE} {t : TA} {f fa fb fc : F} {fs : FA} {m : Md} {pos : Pos}
theorem de_lenK {p : Pos} (hK : X.K = KF.K) (gl : Gl X "len") (hm : X.mg "len" = none) (ha : DE X O .rd e te f) (hs : starEach [e] X.env = [(false, eval e X.env)] := by rfl) : DE X O .cl (.Call (.Name "len" p) [e] [] pos) (tCB (rLenD KF.K) (tCons te tNil)) (fFn (g1 dLen) (fConsA f fNilA)) := by
  rw [← hK]
  exact de_len hK gl hm ha hs
end
section
variable {X : Cx} {O : List Nat} {e a b c : Expr} {es : List Expr} {te ta tb tc : TE} {t : TA} {f fa fb fc : F} {fs : FA} {m : Md} {pos : Pos}
theorem de_listcK {p : Pos} (hK : X.K = KF.K) (gl : Gl X "list") (hm : X.mg "list" = none) (ha : DE X O .rd e te f) (hs : starEach [e] X.env = [(false, eval e X.env)] := by rfl) : DE X O .ow (.Call (.Name "list" p) [e] [] pos) (tCB (rListD KF.K) (tCons te tNil)) (fFn (g1 dListOf) (fConsA f fNilA)) := by
  rw [← hK]
  exact de_listc hK gl hm ha hs
end
section
variable {X : Cx} {O : List Nat} {e a b c : Expr} {es : List Expr} {te ta tb tc : TE} {t : TA} {f fa fb fc : F} {fs : FA} {m : Md} {pos : Pos}
theorem de_sumK {p : Pos} (hK : X.K = KF.K) (hc : X.calm = true) (gl : Gl X "sum") (hm : X.mg "sum" = none) (ha : DE X O .rd e te f) (hs : starEach [e] X.env = [(false, eval e X.env)] := by rfl) : DE X O .cl (.Call (.Name "sum" p) [e] [] pos) (tCB (rSum KF.K) (tCons te tNil)) (fFn (g1 dSum) (fConsA f fNilA)) := by
  rw [← hK]
  exact de_sum hK hc gl hm ha hs
end
section
variable {X : Cx} {O : List Nat} {e a b c : Expr} {es : List Expr} {te ta tb tc : TE} {t : TA} {f fa fb fc : F} {fs : FA} {m : Md} {pos : Pos}
theorem de_anyK {p : Pos} (hK : X.K = KF.K) (hc : X.calm = true) (gl : Gl X "any") (hm : X.mg "any" = none) (ha : DE X O .rd e te f) (hs : starEach [e] X.env = [(false, eval e X.env)] := by rfl) : DE X O .cl (.Call (.Name "any" p) [e] [] pos) (tCB (rAny KF.K) (tCons te tNil)) (fFn (g1 dAny) (fConsA f fNilA)) := by
  rw [← hK]
  exact de_any hK hc gl hm ha hs
end
section
variable {X : Cx} {O : List Nat} {e a b c : Expr} {es : List Expr} {te ta tb tc : TE} {t : TA} {f fa fb fc : F} {fs : FA} {m : Md} {pos : Pos}
theorem de_allK {p : Pos} (hK : X.K = KF.K) (hc : X.calm = true) (gl : Gl X "all") (hm : X.mg "all" = none) (ha : DE X O .rd e te f) (hs : starEach [e] X.env = [(false, eval e X.env)] := by rfl) : DE X O .cl (.Call (.Name "all" p) [e] [] pos) (tCB (rAll KF.K) (tCons te tNil)) (fFn (g1 dAll) (fConsA f fNilA)) := by
  rw [← hK]
  exact de_all hK hc gl hm ha hs
end
section
variable {X : Cx} {O : List Nat} {e : Expr} {te : TE} {f : F} {pos : Pos}
theorem de_anyIK {p : Pos} (hK : X.K = KF.K) (hc : X.calm = true) (gl : Gl X "any") (hm : X.mg "any" = none) (ha : DE X O .rd e te f) (hs : starEach [e] X.env = [(false, eval e X.env)] := by rfl) : DE X O .cl (.Call (.Name "any" p) [e] [] pos) (tCB (rAnyI KF.K) (tCons te tNil)) (fFn (g1 dAnyI) (fConsA f fNilA)) := by
  rw [← hK]
  exact de_anyI hK hc gl hm ha hs
end
section
variable {X : Cx} {O : List Nat} {e : Expr} {te : TE} {f : F} {pos : Pos}
theorem de_isiK (hK : X.K = KF.K) {T : String} {c : Expr} {p : Pos} (gl : Gl X "isinstance") (hm : X.mg "isinstance" = none) (ha : DE X O .rd e te f) (hc : PE X c (tC (.ty T)))
    (he : starEach [e, c] X.env = (false, eval e X.env) :: starEach [c] X.env := by rfl) (he2 : starEach [c] X.env = (false, eval c X.env) :: starEach [] X.env := by rfl) (hpl : (backTo pos (starEach [c] X.env)).any (·.1) = false := by rfl) :
    DE X O .cl (.Call (.Name "isinstance" p) [e, c] [] pos) (tCB (rIsi KF.K) (tCons te (tCons (tC (.ty T)) tNil))) (fUn (isTy T) f) := by
  rw [← hK]
  exact de_isi hK gl hm ha hc he he2 hpl
end
section
variable {X : Cx} {O : List Nat} {e a b c tg : Expr} {te ta tb tc : TE} {f fa fb fc : F} {pos p : Pos}
theorem di_seqK (hK : X.K = KF.K) (h : DE X O .cl e te f) : DI X O tg e (fun σ H R => iList KF.K te σ H R ∨ iTup KF.K te σ H R) (iSeq f) := by
  rw [← hK]
  exact di_seq hK h
end
section
variable {X : Cx} {O : List Nat} {e a b c tg : Expr} {te ta tb tc : TE} {f fa fb fc : F} {pos p : Pos}
theorem di_zipK (hK : X.K = KF.K) {elts : List Expr} {kk : Nat} {tpos : Pos} (gl : Gl X "zip") (hm : X.mg "zip" = none) (ha : DE X O .cl a ta fa) (hb : DE X O .cl b tb fb) (hs : starEach [a, b] X.env = (false, eval a X.env) :: starEach [b] X.env := by rfl) (hs2 : starEach [b] X.env = (false, eval b X.env) :: starEach [] X.env := by rfl)
    (hpl : (backTo pos (starEach [b] X.env)).any (·.1) = false := by rfl) : DI X O (.Tuple elts kk tpos) (.Call (.Name "zip" p) [a, b] [] pos) (iZip KF.K (tCons ta (tCons tb tNil))) (iZ fa fb) := by
  rw [← hK]
  exact di_zip hK gl hm ha hb hs hs2 hpl
end
section
variable {X : Cx} {O : List Nat} {e a b c tg : Expr} {te ta tb tc : TE} {f fa fb fc : F} {pos p : Pos}
theorem di_revK (hK : X.K = KF.K) (gl : Gl X "reversed") (hm : X.mg "reversed" = none) (ha : DE X O .cl a ta fa) (hs : starEach [a] X.env = [(false, eval a X.env)] := by rfl) : DI X O tg (.Call (.Name "reversed" p) [a] [] pos) (iRev KF.K (tCons ta tNil)) (iRv fa) := by
  rw [← hK]
  exact di_rev hK gl hm ha hs
end
section
variable {X : Cx} {O : List Nat} {a b : Expr} {ta tb : TE} {fa fb : F} {pos : Pos}
theorem dg_tupK (hK : X.K = KF.K) {ts : List Expr} {n k : Nat} {p : Pos} {gs : TGs} {ks : List FG} {js : List Nat} (hc : X.calm = true) (h : DGs X O ts gs ks js) (hn : ts.length = n := by rfl) (hn2 : (assignEach ts X.env).length = n := by rfl) (hst : (assignEach ts X.env).findIdx? (·.1) = none := by rfl) : DG X O (.Tuple ts k p) (gTup KF.K n gs) (gT ks) js := by
  rw [← hK]
  exact dg_tup hc h hn hn2 hst
theorem de_inK (hu : X.A.units + 65 < cLine) (hK : X.K = KF.K) (ha : DE X O .rd a ta fa) (hb : DE X O .rd b tb fb) (hm : behindInMarks .In b = false := by rfl) : DE X O .cl (.Compare a [.In] [b] pos) (tOp (rInD KF.K) ta tb) (fBin dIn fa fb) := by
  rw [← hK]
  exact de_cmp (op_inD hu) (by rw [hK]; exact opd_in) ha hb hm
theorem de_notinK (hu : X.A.units + 65 < cLine) (hK : X.K = KF.K) (ha : DE X O .rd a ta fa) (hb : DE X O .rd b tb fb) (hm : behindInMarks .NotIn b = false := by rfl) : DE X O .cl (.Compare a [.NotIn] [b] pos) (tOp (rNotInD KF.K) ta tb) (fBin dNotIn fa fb) := by
  rw [← hK]
  exact de_cmp (op_notInD hu) (by rw [hK]; exact opd_notin) ha hb hm
end
theorem GA.u65 {k : Nat} {A : Around} (r : GA k A) : A.units + 65 < cLine := by have := r.rm.un; omega
theorem nn_ret {f : F} : ∀ ρ ρ', sRet f ρ ≠ some (.nx ρ') := fun ρ ρ' h => by
  obtain ⟨d, _, e⟩ := Option.map_eq_some_iff.mp h
  cases e
theorem nn_seq {a b : FS} (h : ∀ ρ ρ', b ρ ≠ some (.nx ρ')) : ∀ ρ ρ', sSeq a b ρ ≠ some (.nx ρ') := fun ρ ρ' q => by
  obtain ⟨o, _, q⟩ := bind_some q
  cases o with
  | nx ρ1 => exact h ρ1 ρ' q
  | rt d => cases q
  | bk ρ1 => cases q
  | ct ρ1 => cases q
theorem nn_if {c : FT} {a b : FS} (h1 : ∀ ρ ρ', a ρ ≠ some (.nx ρ')) (h2 : ∀ ρ ρ', b ρ ≠ some (.nx ρ')) : ∀ ρ ρ', sIf c a b ρ ≠ some (.nx ρ') := fun ρ ρ' q => by
  obtain ⟨k, _, q⟩ := bind_some q
  cases k with
  | true => exact h1 ρ ρ' q
  | false => exact h2 ρ ρ' q
theorem frames_deeper' {A : Around} {env : Env} {outer : List Env} (h : A.frames = some outer) : (A.deeper env).frames = some (env :: outer) := Around.frames_deeper h
section
variable {X : Cx} {m : Md} {OB O O' : List Nat} {e : Expr} {te : TE} {f : F} {pos : Pos}
theorem dsn (i : Nat) {x : Str} {p : Pos} (hN : X.N.Nodup) (h : DE X O .cl e te f) (hi : X.N[i]? = some x := by rfl) (hx : Loc X.env.scope x := by first | exact Or.inl rfl | exact Or.inr rfl) (hs : swapsWith e (some (.Name x p)) pos.line X.env = pure false := by rfl)
    (hf : X.fn x = true ∨ X.env.scope.names.lookup x = some .local := by first | exact .inl rfl | exact .inr rfl) : DS X m OB O (del i O) [i] (.Assign [.Name x p] e pos) (tAsg te (gName i)) (sAsg i f) := ds_asg i h (ps_set hN hi hx h.pe hs hf)
theorem dsnO (i : Nat) {x : Str} {p : Pos} (hN : X.N.Nodup) (h : DE X O .ow e te f) (hi : X.N[i]? = some x := by rfl) (hx : Loc X.env.scope x := by first | exact Or.inl rfl | exact Or.inr rfl) (hs : swapsWith e (some (.Name x p)) pos.line X.env = pure false := by rfl)
    (hf : X.fn x = true ∨ X.env.scope.names.lookup x = some .local := by first | exact .inl rfl | exact .inr rfl) : DS X m OB O (i :: del i O) [i] (.Assign [.Name x p] e pos) (tAsg te (gName i)) (sAsg i f) := ds_asgOw i h (ps_set hN hi hx h.pe hs hf)
theorem dgn (i : Nat) {x : Str} {p : Pos} (hN : X.N.Nodup) (ho : O.contains i = false := by rfl) (hi : X.N[i]? = some x := by rfl) (hx : Loc X.env.scope x := by first | exact Or.inl rfl | exact Or.inr rfl)
    (hf : X.fn x = true ∨ X.env.scope.names.lookup x = some .local := by first | exact .inl rfl | exact .inr rfl) : DG X O (.Name x p) (gName i) (gN i) [i] := dg_name i ho (pg_name hN hi hx hf)
theorem dsapp (i : Nat) {x : Str} {p p2 p3 : Pos} (h : DE X O .cl e te f) (hv : PE X (.Name x p) (tVar i))
    (hs : swapsWith (.Call (.Attribute (.Name x p) "append" p2) [e] [] p3) none pos.line X.env = pure false := by rfl)
    (hb : PE X e te → PE X (.Call (.Attribute (.Name x p) "append" p2) [e] [] p3) (tBM X.K "list" rAppend (tVar i) (tCons te tNil))) (ho : O.contains i = true := by rfl) :
    DS X m OB O O [i] (.Expr (.Call (.Attribute (.Name x p) "append" p2) [e] [] p3) pos) (tDrop (tBM X.K "list" rAppend (tVar i) (tCons te tNil))) (sApp i f) := ds_append i ho h hv (ps_expr (hb h.pe) hs)
theorem dssetI (i : Nat) {x : Str} {p p2 : Pos} {j : Expr} {tj : TE} {fj : F} (h : DE X O .cl e te f) (hj : DE X O .rd j tj fj) (hp : PE X e te → PE X j tj → PS X (.Assign [.Subscript (.Name x p) j p2] e pos) (tAsg te (gSub (tVar i) tj rSetL))) (ho : O.contains i = true := by rfl) :
    DS X m OB O O [i] (.Assign [.Subscript (.Name x p) j p2] e pos) (tAsg te (gSub (tVar i) tj rSetL)) (sSetI i fj f) := ds_setI i ho h hj (hp h.pe hj.pe)
section
variable {elt tg iter : Expr} {ifs : List Expr} {scope : Scope} {own : List (Str × Nat)} {spos py : Pos} {wi : TI} {g : TG} {tt : TT} {k : FG} {t : FT} {el : F} {src : FA} {js : List Nat}
theorem dlc_mk (own : List (Str × Nat)) (hi : DI X O tg iter wi src) (ok : BlkOk X.N X.env.scope scope own) (hg : ∀ (s : Shared) (H : Hp) (C : Addr) (cl : List (Str × Addr)) (fp : List Addr), DG (X.blk s H scope (compEnvC scope cl C X.env) fp) O tg g k js)
    (ht : ∀ (s : Shared) (H : Hp) (C : Addr) (cl : List (Str × Addr)) (fp : List Addr), DTs (X.blk s H scope (compEnvC scope cl C X.env) fp) O ifs tt t) (he : ∀ (s : Shared) (H : Hp) (C : Addr) (cl : List (Str × Addr)) (fp : List Addr), DE (X.blk s H scope (compEnvC scope cl C X.env) fp) O .cl elt te el)
    (hj : js.all (own.map (·.2)).contains = true := by rfl) : DLc X O elt tg iter ifs scope own wi g tt te src k t el js := ⟨hi, ok, hg, ht, he, hj⟩
theorem de_lcv {vs : List Nat} (hc : X.calm = true) (hN : X.N.Nodup) (h : DLc X O elt tg iter ifs scope own wi g tt te src k t el js) (hv : own.map (·.2) = vs := by rfl) (hs : ∀ x, foldedSetIterable iter X.env x = pure x := by intro _; rfl) : DE X O .ow (.ListComp elt [⟨tg, iter, ifs, 0⟩] scope pos) (tLc wi g tt te (own.map (·.2))) (fLc src k t el vs) := by
  subst hv
  exact de_lc hc hN h hs
/-- x = [..], a list of one's own -/
theorem dslcO_ (i : Nat) {x : Str} (hc : X.calm = true) (hN : X.N.Nodup) (h : DLc X O elt tg iter ifs scope own wi g tt te src k t el js) (hsw : swapsWith (.ListComp elt [⟨tg, iter, ifs, 0⟩] scope pos) (some (.Name x py)) spos.line X.env = pure true) (hi : X.N[i]? = some x := by rfl)
    (hx : X.env.scope.names.lookup x = some .local := by rfl) (hs : ∀ x, foldedSetIterable iter X.env x = pure x := by intro _; rfl) : DS X m OB O (i :: del i O) [i] (.Assign [.Name x py] (.ListComp elt [⟨tg, iter, ifs, 0⟩] scope pos) spos) (tAsg (tLc wi g tt te (own.map (·.2))) (gName i)) (sAsg i (fLc src k t el (own.map (·.2)))) :=
  ds_asgOw i (de_lc hc hN h hs) (ps_setLc hc hN hi hx hsw h.hi.pi h.ok (fun s H C cl fp => (h.hg s H C cl fp).pg) (fun s H C cl fp => (h.ht s H C cl fp).pt) (fun s H C cl fp => (h.he s H C cl fp).pe) hs)
theorem dslc_ (i : Nat) {x : Str} (hc : X.calm = true) (hN : X.N.Nodup) (h : DLc X O elt tg iter ifs scope own wi g tt te src k t el js) (hsw : swapsWith (.ListComp elt [⟨tg, iter, ifs, 0⟩] scope pos) (some (.Name x py)) spos.line X.env = pure true) (hi : X.N[i]? = some x := by rfl)
    (hx : X.env.scope.names.lookup x = some .local := by rfl) (hs : ∀ x, foldedSetIterable iter X.env x = pure x := by intro _; rfl) : DS X m OB O (del i O) [i] (.Assign [.Name x py] (.ListComp elt [⟨tg, iter, ifs, 0⟩] scope pos) spos) (tAsg (tLc wi g tt te (own.map (·.2))) (gName i)) (sAsg i (fLc src k t el (own.map (·.2)))) :=
  ds_asg i (de_lc hc hN h hs).cl_ (ps_setLc hc hN hi hx hsw h.hi.pi h.ok (fun s H C cl fp => (h.hg s H C cl fp).pg) (fun s H C cl fp => (h.ht s H C cl fp).pt) (fun s H C cl fp => (h.he s H C cl fp).pe) hs)
theorem dslcO (i : Nat) {vs : List Nat} {x : Str} (hc : X.calm = true) (hN : X.N.Nodup) (h : DLc X O elt tg iter ifs scope own wi g tt te src k t el js) (hsw : swapsWith (.ListComp elt [⟨tg, iter, ifs, 0⟩] scope pos) (some (.Name x py)) spos.line X.env = pure true) (hv : own.map (·.2) = vs := by rfl) (hi : X.N[i]? = some x := by rfl)
    (hx : X.env.scope.names.lookup x = some .local := by rfl) (hs : ∀ x, foldedSetIterable iter X.env x = pure x := by intro _; rfl) : DS X m OB O (i :: del i O) [i] (.Assign [.Name x py] (.ListComp elt [⟨tg, iter, ifs, 0⟩] scope pos) spos) (tAsg (tLc wi g tt te (own.map (·.2))) (gName i)) (sAsg i (fLc src k t el vs)) := by
  subst hv
  exact dslcO_ i hc hN h hsw hi hx hs
theorem dslc (i : Nat) {vs : List Nat} {x : Str} (hc : X.calm = true) (hN : X.N.Nodup) (h : DLc X O elt tg iter ifs scope own wi g tt te src k t el js) (hsw : swapsWith (.ListComp elt [⟨tg, iter, ifs, 0⟩] scope pos) (some (.Name x py)) spos.line X.env = pure true) (hv : own.map (·.2) = vs := by rfl) (hi : X.N[i]? = some x := by rfl)
    (hx : X.env.scope.names.lookup x = some .local := by rfl) (hs : ∀ x, foldedSetIterable iter X.env x = pure x := by intro _; rfl) : DS X m OB O (del i O) [i] (.Assign [.Name x py] (.ListComp elt [⟨tg, iter, ifs, 0⟩] scope pos) spos) (tAsg (tLc wi g tt te (own.map (·.2))) (gName i)) (sAsg i (fLc src k t el vs)) := by
  subst hv
  exact dslc_ i hc hN h hsw hi hx hs
end
end
end DL
set_option Elab.async false
set_option linter.all false
set_option maxRecDepth 100000
namespace DL
open PySem PySem.Spec L2
open PyProof.Rows hiding St
variable [KF]
/-! ### a list of one's own stands for a while -/
def scalD : PyData → Bool
  | .none => true
  | .bool _ => true
  | .int _ => true
  | .str _ => true
  | _ => false
theorem scal_R {Hs Hs' : Hp} {v : V} {d : PyData} (h : scalD d = true) (r : R Hs v d) : R Hs' v d := by
  cases r with
  | non => exact .non
  | bl b => exact .bl b
  | int i => exact .int i
  | str x => exact .str x
  | lst _ _ => cases h
  | tup _ _ => cases h
theorem scal_RA {Hs Hs' : Hp} : ∀ {vs : List V} {ds : List PyData}, ds.all scalD = true → RA Hs vs ds → RA Hs' vs ds
  | _, _, _, .nil => .nil
  | _, _, h, .cons a b => by
    rw [List.all_cons, Bool.and_eq_true] at h
    exact .cons (scal_R h.1 a) (scal_RA h.2 b)
theorem StOK.of_slots {O : List Nat} {ρ : Rho} {σ : St} {Hs H : Hp} (s : Slots O ρ σ Hs H) : StOK O ρ σ Hs Hs Hs H := ⟨s, ⟨.refl _, s.sub, s.sub, fun _ h1 h2 => absurd h1 h2⟩, fun i hi d hd => by
  obtain ⟨v, h1, h2, _⟩ := s.val i d hd
  obtain ⟨a, _, _, rfl, _, n, _⟩ := h2 (mem_contains hi)
  exact ⟨a, h1, n⟩⟩
def fScal (f : F) : F := fun ρ => (f ρ).bind fun d => if scalD d = true then some d else none
def fScalL (f : F) : F := fun ρ => (f ρ).bind fun d => match d with
  | .list ds => if ds.all scalD = true then some (.list ds) else none
  | _ => none
theorem gr_stay {Hs H H' : Hp} (e : Same Hs H) (g : Same H H') : Gr Hs H Hs H' := ⟨.refl _, g, e.trans g, fun _ h _ => h⟩
section
variable {X : Cx} {m : Md} {OB O O' W : List Nat} {e : Expr} {st : Stmt} {te : TE} {tt : TT} {ts : TS} {f : F} {ft : FT} {G : FS}
theorem DE.thaw (i : Nat) (h : DE X (del i O) .cl e te f) : DE X O .cl e te (fScal f) := ⟨h.pe, fun ρ σ Hs H d s hf Q q => by
  obtain ⟨d', h1, h2⟩ := bind_some hf
  obtain ⟨c, rfl⟩ := if_some (show (if scalD d' = true then some d' else none) = some d from h2)
  obtain ⟨Hs', x⟩ := (StOK.of_slots s).freeze i
  exact h.ev ρ σ Hs' H d' x.sl h1 Q fun v Hs2 H2 g r => q v Hs H2 (gr_stay s.sub g.h) (scal_R c r)⟩
theorem DE.thawL (i : Nat) (h : DE X (del i O) .ow e te f) : DE X O .ow e te (fScalL f) := ⟨h.pe, fun ρ σ Hs H d s hf Q q => by
  obtain ⟨d', h1, h2⟩ := bind_some hf
  cases d' <;> try (cases h2; done)
  rename_i ds
  obtain ⟨c, rfl⟩ := if_some (show (if ds.all scalD = true then some (PyData.list ds) else none) = some d from h2)
  obtain ⟨Hs', x⟩ := (StOK.of_slots s).freeze i
  exact h.ev ρ σ Hs' H _ x.sl h1 Q fun v Hs2 H2 g ⟨⟨a, vs, es, ev, ed, n1, n2, n3⟩, b, eb, hb⟩ => q v Hs H2 (gr_stay s.sub g.h) ⟨⟨a, vs, es, ev, ed, Same.free (x.gr.s.trans g.s) n1, n2, by
    cases ed
    exact scal_RA c n3⟩, b, eb, hb⟩⟩
theorem DT.thaw (i : Nat) (h : DT X (del i O) e tt ft) : DT X O e tt ft := ⟨h.pt, fun ρ σ Hs H b s hf Q q => by
  obtain ⟨Hs', x⟩ := (StOK.of_slots s).freeze i
  exact h.ev ρ σ Hs' H b x.sl hf Q fun Hs2 H2 g => q Hs H2 (gr_stay s.sub g.h)⟩
/-- what a statement may leave, if a list of one's own is to be that again behind it -/
def scalO : Option (Option PyData) → Bool
  | some (some d) => scalD d
  | _ => true
def scalLO : Option (Option PyData) → Bool
  | some (some (.list ds)) => ds.all scalD
  | some (some _) => false
  | _ => true
def okThaw (i : Nat) (O W : List Nat) (ρ : Rho) : Bool := !W.contains i && (W.all fun j => O.contains j || scalO ρ[j]?) && (O.all fun j => j == i || scalLO ρ[j]?)
def sThaw (i : Nat) (O W : List Nat) (G : FS) : FS := fun ρ => (G ρ).bind fun o => match o with
  | .nx ρ' => if okThaw i O W ρ' = true then some (.nx ρ') else none
  | .rt d => some (.rt d)
  | _ => none
theorem DS.thaw_ (i : Nat) (hi : O.contains i = true) (h : DS X m OB (del i O) (del i O) W st ts G) : DS X m OB O O W st ts (sThaw i O W G) := ⟨h.ps, fun ρ σ Hs0 H0 Hs H D o x hg q => by
  obtain ⟨o1, h1, h2⟩ := bind_some hg
  obtain ⟨Hs', x', low, at_i⟩ := x.freezeS i
  -- from here on what stands now, Hs', is the entry's part
  have gb : Gr Hs0 H0 Hs' H := x'.gr
  have lift : ∀ {Ks K : Hp}, Gr Hs' (joinH H0 Hs') Ks K → Gr Hs0 H0 Ks K := fun g => (gr_join gb).trans g
  refine h.ev ρ σ Hs' (joinH H0 Hs') Hs' H D o1 (x'.rebase gb (.refl _)) h1 ?_
  cases o1 with
  | bk _ => cases h2
  | ct _ => cases h2
  | rt d =>
    cases h2
    exact fun v Ks K g r => q v Ks K (lift g) (r.back joinH_l)
  | nx ρ' =>
    obtain ⟨c, rfl⟩ := if_some (show (if okThaw i O W ρ' = true then some (Out.nx ρ') else none) = some o from h2)
    unfold okThaw at c
    rw [Bool.and_eq_true, Bool.and_eq_true] at c
    obtain ⟨⟨c1, c2⟩, c3⟩ := c
    have niW : i ∉ W := fun z => by
      rw [mem_contains z] at c1
      cases c1
    intro σ' Hs2 H2 x2 fx
    have iO : i ∈ O := by simpa using hi
    have up : Same Hs Hs2 := low.trans x2.gr.s
    have sub : Same Hs H2 := up.trans x2.sl.sub
    have x3 : StOK (del i O) ρ' σ' Hs0 H0 Hs2 H2 := StOK.unbase gb x2
    -- a place's value, standing in Hs again
    have scal_own : ∀ (j : Nat) (d : PyData), j ∈ O → j ≠ i → ρ'[j]? = some (some d) → ∃ v, σ'[j]? = some (some v) ∧ Own Hs H2 v d := fun j d hj hji hd => by
      obtain ⟨v, k1, k2, _⟩ := x3.sl.val j d hd
      obtain ⟨b, ws, es, rfl, rfl, m1, m2, m3⟩ := k2 (by rw [del_contains, mem_contains hj]; simpa using hji)
      have cj := List.all_eq_true.mp c3 j hj
      rw [hd] at cj
      have cs : es.all scalD = true := by
        rcases Bool.or_eq_true_iff.mp cj with z | z
        · exact absurd (by simpa using z) hji
        · exact z
      exact ⟨_, k1, b, ws, es, rfl, rfl, Same.free up m1, m2, scal_RA cs m3⟩
    have itself : ∀ d, ρ'[i]? = some (some d) → ∃ v, σ'[i]? = some (some v) ∧ Own Hs H2 v d ∧ ∃ a, v = .ref a ∧ H0 a = none ∧ Hs2 a ≠ none := fun d hd => by
      have e1 := (fx i niW).1
      have e2 := (fx i niW).2
      rw [e2] at hd
      obtain ⟨v, k1, k2, _⟩ := x.sl.val i d hd
      obtain ⟨a, vs, ds, rfl, rfl, n1, n2, n3⟩ := k2 hi
      obtain ⟨a', ka, kb⟩ := x.new i iO _ hd
      rw [k1] at ka
      obtain rfl := V.ref.inj (Option.some.inj (Option.some.inj ka))
      have s1 : Hs' a = some (.lst vs) := by rw [at_i a _ iO hd k1]; exact n2
      have s2 : Hs2 a = some (.lst vs) := x2.gr.s _ _ s1
      exact ⟨_, by rw [e1]; exact k1, ⟨a, vs, ds, rfl, rfl, n1, x2.sl.sub _ _ s2, n3⟩, a, rfl, kb, by rw [s2]; simp⟩
    refine q σ' Hs H2 ⟨⟨sub, x2.sl.len, fun j d hd => ?_, fun j k dj dk v hn o1 o2 e1 e2 s1 s2 => ?_⟩, ⟨x.gr.s, x3.gr.h, sub, x.gr.non⟩, fun j hj d hd => ?_⟩ fx
    · by_cases hji : j = i
      · subst hji
        obtain ⟨v, k1, k2, _⟩ := itself d hd
        exact ⟨v, k1, fun _ => k2, fun z => by rw [hi] at z; cases z⟩
      · by_cases hjO : j ∈ O
        · obtain ⟨v, k1, k2⟩ := scal_own j d hjO hji hd
          exact ⟨v, k1, fun _ => k2, fun z => by rw [mem_contains hjO] at z; cases z⟩
        · have ho : O.contains j = false := by simpa using hjO
          by_cases hjW : j ∈ W
          · have cj := List.all_eq_true.mp c2 j hjW
            rw [hd, ho] at cj
            obtain ⟨v, k1, _, k3⟩ := x3.sl.val j d hd
            exact ⟨v, k1, fun z => (by rw [ho] at z; cases z), fun _ => scal_R (show scalD d = true by rw [Bool.false_or] at cj; exact cj) (k3 (by rw [del_contains, ho]; rfl))⟩
          · obtain ⟨e1, e2⟩ := fx j hjW
            rw [e2] at hd
            obtain ⟨v, k1, _, k3⟩ := x.sl.val j d hd
            exact ⟨v, by rw [e1]; exact k1, fun z => (by rw [ho] at z; cases z), fun _ => k3 ho⟩
    · have hj : j ∈ O := by simpa using o1
      have hk : k ∈ O := by simpa using o2
      by_cases hji : j = i
      · subst hji
        have hkj : k ≠ j := fun z => hn z.symm
        obtain ⟨v1, k1, _, a, rfl, _, k4⟩ := itself dj e1
        rw [s1] at k1
        obtain rfl := Option.some.inj (Option.some.inj k1)
        obtain ⟨v2, m1, m2, _⟩ := x3.sl.val k dk e2
        obtain ⟨b, _, _, rfl, _, n1, _⟩ := m2 (by rw [del_contains, o2]; simpa using hkj)
        rw [s2] at m1
        obtain rfl := V.ref.inj (Option.some.inj (Option.some.inj m1))
        exact k4 n1
      · by_cases hki : k = i
        · subst hki
          obtain ⟨v1, k1, _, a, rfl, _, k4⟩ := itself dk e2
          rw [s2] at k1
          obtain rfl := Option.some.inj (Option.some.inj k1)
          obtain ⟨v2, m1, m2, _⟩ := x3.sl.val j dj e1
          obtain ⟨b, _, _, rfl, _, n1, _⟩ := m2 (by rw [del_contains, o1]; simpa using hji)
          rw [s1] at m1
          obtain rfl := V.ref.inj (Option.some.inj (Option.some.inj m1))
          exact k4 n1
        · exact x3.sl.dis j k dj dk v hn (by rw [del_contains, o1]; simpa using hji) (by rw [del_contains, o2]; simpa using hki) e1 e2 s1 s2
    · by_cases hji : j = i
      · subst hji
        obtain ⟨v, k1, _, a, rfl, k3, _⟩ := itself d hd
        exact ⟨a, k1, k3⟩
      · exact x3.new j (mem_del.mpr ⟨hj, hji⟩) d hd⟩
theorem DS.thaw (i : Nat) {V : List Nat} (h : DS X m OB (del i O) (del i O) W st ts G) (hi : O.contains i = true := by rfl) (hW : W = V := by rfl) : DS X m OB O O W st ts (sThaw i O V G) := by
  subst hW
  exact DS.thaw_ i hi h
end
end DL
namespace DL
open PySem PySem.Spec L2
open PyProof.Rows hiding St
theorem cx_dead {P : Program} {w : World} {H : Hp} {s : Shared} {e : Value} {s' : Shared} (h : L2.CX P w [] H s (fun _ _ _ => False) e s') : False := by
  obtain ⟨_, _, _, _, _, _, _, _, _, _, _, _, z⟩ := h
  exact z
end DL
set_option Elab.async false
set_option linter.all false
set_option maxRecDepth 100000
namespace DL
open PySem PySem.Spec L2
open PyProof.Rows hiding St
/-! ### reckoning -/
theorem fBin_eq {g : PyData → PyData → Option PyData} {a b : F} {ρ : Rho} {x y : PyData} (ha : a ρ = some x) (hb : b ρ = some y) : fBin g a b ρ = g x y := by
  unfold fBin
  rw [ha, Option.bind_some, hb, Option.bind_some]
theorem dAdd_i (a b : Int) : dAdd (.int a) (.int b) = some (.int (a + b)) := rfl
theorem dSub_i (a b : Int) : dSub (.int a) (.int b) = some (.int (a - b)) := rfl
theorem gI_pos {C : Int → Int → Bool} {k : Int → Int → PyData} {i j : Int} (h : C i j = true) : gI C k (.int i) (.int j) = some (k i j) := if_pos h
theorem intBits_le {i : Int} {n : Nat} (h : i.natAbs < 2 ^ n) : Builtin.Int.intBits i ≤ n := by
  unfold Builtin.Int.intBits
  split
  · exact Nat.zero_le _
  · rename_i h0
    have hn : i.natAbs ≠ 0 := by
      intro z
      apply h0
      simpa using z
    have := (Nat.log2_lt hn).mpr h
    omega
theorem dMul_b {a b : Int} {n m : Nat} (ha : a.natAbs < 2 ^ n) (hb : b.natAbs < 2 ^ m) (h : n + m ≤ 134217728) : dMul (.int a) (.int b) = some (.int (a * b)) := gI_pos (decide_eq_true (by
  have h1 := intBits_le ha
  have h2 := intBits_le hb
  omega))
theorem dMod_i {a b : Int} (h : b ≠ 0) : dMod (.int a) (.int b) = some (.int (a.fmod b)) := gI_pos (decide_eq_true h)
theorem dMod_p {a b : Int} (h : 0 < b) : dMod (.int a) (.int b) = some (.int (a % b)) := by
  rw [dMod_i (by omega), Int.fmod_eq_emod_of_nonneg _ (by omega)]
theorem log2_lt' {n k : Nat} (h : n < 2 ^ k) (hk : 0 < k) : n.log2 < k := by
  by_cases h0 : n = 0
  · subst h0
    simpa using hk
  · exact (Nat.log2_lt h0).mpr h
theorem dDiv_b {a b : Int} {n : Nat} (h : b ≠ 0) (hb : b.natAbs < 2 ^ n) (hn : n ≤ 9000) (h0 : 0 < n) : dDiv (.int a) (.int b) = some (.int (a.fdiv b)) := gI_pos (decide_eq_true ⟨h, Nat.lt_of_lt_of_le (log2_lt' hb h0) hn⟩)
theorem dDiv_p {a b : Int} {n : Nat} (h : 0 < b) (hb : b.natAbs < 2 ^ n) (hn : n ≤ 9000) (h0 : 0 < n) : dDiv (.int a) (.int b) = some (.int (a / b)) := by
  rw [dDiv_b (by omega) hb hn h0, Int.fdiv_eq_ediv_of_nonneg _ (by omega)]
theorem dLt_i (a b : Int) : dLt (.int a) (.int b) = some (.bool (decide (a < b))) := rfl
theorem dLe_i (a b : Int) : dLe (.int a) (.int b) = some (.bool (decide (a ≤ b))) := rfl
theorem dGt_i (a b : Int) : dGt (.int a) (.int b) = some (.bool (decide (b < a))) := rfl
theorem dGe_i (a b : Int) : dGe (.int a) (.int b) = some (.bool (decide (b ≤ a))) := rfl
theorem dEq_i (a b : Int) : dEq (.int a) (.int b) = some (.bool (a == b)) := rfl
theorem dNe_i (a b : Int) : dNe (.int a) (.int b) = some (.bool (!(a == b))) := rfl
theorem dEq_s (a b : Str) (h : (SeqAt.shaped (.str a) && SeqAt.shaped (.str b)) = true) : dEq (.str a) (.str b) = some (.bool (a == b)) := if_pos h
/-- vectors -/
def vecD (ns : List Int) : PyData := .list (ns.map .int)
theorem shaped_ints_all : ∀ ns : List Int, PyData.canLayAll0 (ns.map PyData.int) = true
  | [] => by simp [PyData.canLayAll0]
  | n :: r => by simp [PyData.canLayAll0, PyData.canLay0, shaped_ints_all r]
theorem depth_ints_all : ∀ ns : List Int, PyData.depthAll (ns.map PyData.int) ≤ 1
  | [] => by simp [PyData.depthAll]
  | n :: r => by
    have := depth_ints_all r
    simp only [List.map_cons, PyData.depthAll, PyData.depth]
    omega
theorem shaped_ints (ns : List Int) : SeqAt.shaped (vecD ns) = true := by
  have h1 : PyData.canLay0 (vecD ns) = true := by
    simp only [vecD, PyData.canLay0]
    exact shaped_ints_all ns
  have h2 : PyData.depth (vecD ns) ≤ 64 := by
    simp only [vecD, PyData.depth]
    have := depth_ints_all ns
    omega
  show (PyData.canLay0 (vecD ns) && decide (PyData.depth (vecD ns) ≤ 64)) = true
  rw [h1, Bool.true_and]
  exact decide_eq_true h2
theorem eqv_ints_all : ∀ xs ys : List Int, PyData.eqvAll (xs.map PyData.int) (ys.map PyData.int) = decide (xs = ys)
  | [], [] => by simp [PyData.eqvAll]
  | [], _ :: _ => by simp [PyData.eqvAll]
  | _ :: _, [] => by simp [PyData.eqvAll]
  | x :: xs, y :: ys => by
    simp only [List.map_cons, PyData.eqvAll, PyData.eqv, eqv_ints_all xs ys, List.cons.injEq]
    by_cases h : x = y <;> simp [h]
theorem eqv_ints (xs ys : List Int) : PyData.eqv (vecD xs) (vecD ys) = decide (xs = ys) := by
  simp only [vecD, PyData.eqv]
  exact eqv_ints_all xs ys
theorem dEq_v (xs ys : List Int) : dEq (vecD xs) (vecD ys) = some (.bool (decide (xs = ys))) := by
  unfold dEq
  rw [shaped_ints, shaped_ints, eqv_ints] <;> rfl
theorem dNe_v (xs ys : List Int) : dNe (vecD xs) (vecD ys) = some (.bool (!decide (xs = ys))) := by
  unfold dNe
  rw [shaped_ints, shaped_ints, eqv_ints] <;> rfl
theorem dIx_v {xs : List Int} {i : Int} {j : Nat} {x : Int} (hi : i = j) (h : xs[j]? = some x) : dIx (vecD xs) (.int i) = some (.int x) := by
  subst hi
  show atI (xs.map PyData.int) (j : Int) = _
  exact atI_nat (by rw [List.getElem?_map, h]; rfl)
theorem dLen_v (xs : List Int) : dLen (vecD xs) = some (.int xs.length) := by
  show some (PyData.int ((xs.map PyData.int).length : Int)) = _
  rw [List.length_map]
theorem intsOf_v : ∀ ns : List Int, intsOf (ns.map PyData.int) = some ns
  | [] => rfl
  | n :: r => by
    show (intsOf (r.map PyData.int)).map (n :: ·) = some (n :: r)
    rw [intsOf_v r] <;> rfl
theorem boolsOf_v : ∀ ns : List Bool, boolsOf (ns.map PyData.bool) = some ns
  | [] => rfl
  | n :: r => by
    show (boolsOf (r.map PyData.bool)).map (n :: ·) = some (n :: r)
    rw [boolsOf_v r] <;> rfl
theorem dSum_v (xs : List Int) : dSum (vecD xs) = some (.int xs.sum) := by
  show (intsOf (xs.map PyData.int)).map _ = _
  rw [intsOf_v] <;> rfl
theorem dAnyI_v (xs : List Int) : dAnyI (vecD xs) = some (.bool (xs.any fun n => n != 0)) := by
  show (intsOf (xs.map PyData.int)).map _ = _
  rw [intsOf_v] <;> rfl
/-- loops whose turns all go on -/
theorem loop_go {k : FG} {B : FS} (Inv : Nat → Rho → Prop) : ∀ {ds : List PyData} (i : Nat) {ρ : Rho}, Inv i ρ →
    (∀ (j : Nat) (d : PyData) (ρ : Rho), ds[j]? = some d → Inv (i + j) ρ → ∃ ρ1 ρ2, k d ρ = some ρ1 ∧ (B ρ1 = some (.nx ρ2) ∨ B ρ1 = some (.ct ρ2)) ∧ Inv (i + j + 1) ρ2) → ∃ ρ', loopF k B ds ρ = some (.nx ρ') ∧ Inv (i + ds.length) ρ'
  | [], i, ρ, h0, _ => ⟨ρ, rfl, h0⟩
  | d :: ds, i, ρ, h0, step => by
    obtain ⟨ρ1, ρ2, h1, h2, h3⟩ := step 0 d ρ rfl h0
    obtain ⟨ρ', e, h⟩ := loop_go (ds := ds) Inv (i + 1) h3 fun j e ρ he hI => by
      have q := step (j + 1) e ρ (by simpa using he) (by rw [show i + (j + 1) = i + 1 + j by omega]; exact hI)
      rw [show i + (j + 1) + 1 = i + 1 + j + 1 by omega] at q
      exact q
    refine ⟨ρ', ?_, by rw [show i + (d :: ds).length = i + 1 + ds.length by rw [List.length_cons]; omega]; exact h⟩
    show (k d ρ).bind _ = _
    rw [h1, Option.bind_some]
    rcases h2 with h2 | h2 <;> (rw [h2, Option.bind_some]; exact e)
theorem seq_nx {a b : FS} {ρ ρ' : Rho} {o : Option Out} (h : a ρ = some (.nx ρ')) (h2 : b ρ' = o) : sSeq a b ρ = o := by
  unfold sSeq
  rw [h, Option.bind_some]
  exact h2
theorem seq_rt {a b : FS} {ρ : Rho} {d : PyData} (h : a ρ = some (.rt d)) : sSeq a b ρ = some (.rt d) := by
  unfold sSeq
  rw [h, Option.bind_some]
theorem asg_nx {i : Nat} {f : F} {ρ : Rho} {d : PyData} (h : f ρ = some d) : sAsg i f ρ = some (.nx (ρ.set i (some d))) := by
  unfold sAsg
  rw [h] <;> rfl
theorem if_t {c : FT} {a b : FS} {ρ : Rho} (h : c ρ = some true) : sIf c a b ρ = a ρ := by
  unfold sIf
  rw [h, Option.bind_some, if_pos rfl]
theorem if_f {c : FT} {a b : FS} {ρ : Rho} (h : c ρ = some false) : sIf c a b ρ = b ρ := by
  unfold sIf
  rw [h, Option.bind_some, if_neg Bool.false_ne_true]
theorem ret_rt {f : F} {ρ : Rho} {d : PyData} (h : f ρ = some d) : sRet f ρ = some (.rt d) := by
  unfold sRet
  rw [h] <;> rfl
theorem runF_rt {nl : Nat} {B : FS} {ds : List PyData} {d : PyData} (h : B (ds.map some ++ List.replicate (nl - ds.length) none) = some (.rt d)) : runF nl B ds = some d := by
  unfold runF
  rw [h] <;> rfl
/-- comprehensions -/
theorem lcF_map {k : FG} {t : FT} {el : F} {ρ : Rho} {α : Type} {h : α → PyData} {g : α → PyData} : ∀ {xs : List α}, (∀ x ∈ xs, ∃ ρ1, k (h x) ρ = some ρ1 ∧ t ρ1 = some true ∧ el ρ1 = some (g x)) → lcF k t el ρ (xs.map h) = some (xs.map g)
  | [], _ => rfl
  | x :: xs, hx => by
    obtain ⟨ρ1, h1, h2, h3⟩ := hx x (List.mem_cons_self ..)
    have ih := lcF_map (xs := xs) fun y hy => hx y (List.mem_cons_of_mem _ hy)
    show (k (h x) ρ).bind _ = _
    rw [h1, Option.bind_some, h2, Option.bind_some, if_pos rfl, h3, Option.bind_some, ih] <;> rfl
theorem catC_le {n m : Nat} (h : n + m ≤ 100000) : catC n m = true := decide_eq_true h
theorem fLc_map {src : FA} {k : FG} {t : FT} {el : F} {vs : List Nat} {ρ : Rho} {α : Type} {h : α → PyData} {g : α → PyData} {xs : List α} (hs : src ρ = some (xs.map h)) (hl : xs.length ≤ 90000) (hx : ∀ x ∈ xs, ∃ ρ1, k (h x) (wipeR ρ vs) = some ρ1 ∧ t ρ1 = some true ∧ el ρ1 = some (g x)) :
    fLc src k t el vs ρ = some (.list (xs.map g)) := by
  unfold fLc
  rw [hs, Option.bind_some, if_pos (catC_le (by rw [List.length_map]; omega)), lcF_map hx] <;> rfl
theorem iR1_ok {f : F} {ρ : Rho} {j : Int} (h : f ρ = some (.int j)) (hr : rgC j = true) : iR1 f ρ = some (rangeD 0 j.toNat) := by
  unfold iR1
  rw [h, Option.bind_some]
  exact if_pos hr
theorem iR2_ok {f g : F} {ρ : Rho} {i j : Int} (h : f ρ = some (.int i)) (h' : g ρ = some (.int j)) (hr : rgC i = true) (hr' : rgC j = true) : iR2 f g ρ = some (rangeD i (j - i).toNat) := by
  unfold iR2
  rw [h, Option.bind_some, h', Option.bind_some]
  exact if_pos (by rw [hr, hr'] <;> rfl)
theorem iR3_ok {f g h : F} {ρ : Rho} {i j c : Int} (h1 : f ρ = some (.int i)) (h2 : g ρ = some (.int j)) (h3 : h ρ = some (.int c)) (hr : rg3C i j c = true) : iR3 f g h ρ = some (rangeC i c (Builtin.Range.rangeSize i j c).toNat) := by
  unfold iR3
  rw [h1, Option.bind_some, h2, Option.bind_some, h3, Option.bind_some]
  exact if_pos hr
theorem for_eq {src : FA} {k : FG} {B : FS} {ρ : Rho} {ds : List PyData} (h : src ρ = some ds) : sFor src k B ρ = loopF k B ds ρ := by
  unfold sFor
  rw [h, Option.bind_some]
theorem rgC_ok {i : Int} (h1 : -(2 ^ 62) ≤ i) (h2 : i < 2 ^ 62) : rgC i = true := decide_eq_true ⟨h1, h2⟩
end DL
set_option Elab.async false
set_option linter.all false
set_option maxRecDepth 100000
namespace DL
open PySem PySem.Spec L2
open PyProof.Rows hiding St
/-! ### the text of data of numbers -/
mutual
def plainB (k : Nat) : PyData → Bool
  | .none => true
  | .bool _ => true
  | .int i => decide (i.natAbs < 10 ^ k)
  | .list xs => plainAll k xs
  | .tuple xs => plainAll k xs
  | .str _ => false
  | .dict _ => false
def plainAll (k : Nat) : List PyData → Bool
  | [] => true
  | x :: xs => plainB k x && plainAll k xs
end
mutual
def nodesD : PyData → Nat
  | .none => 1
  | .bool _ => 1
  | .int _ => 1
  | .list xs => 1 + nodesAll xs
  | .tuple xs => 1 + nodesAll xs
  | .str _ => 1
  | .dict _ => 1
def nodesAll : List PyData → Nat
  | [] => 0
  | x :: xs => nodesD x + nodesAll xs
end
set_option exponentiation.threshold 2000 in
theorem pow_log {n k : Nat} (h : n < 10 ^ k) (hk : k ≤ 479) : n.log2 < 1920 := by
  have h1 : n < 2 ^ 1920 := Nat.lt_of_lt_of_le h (Nat.le_trans (Nat.pow_le_pow_left (by omega : 10 ≤ 2 ^ 4) k) (by rw [← Nat.pow_mul]; exact Nat.pow_le_pow_right (by decide) (by omega)))
  exact log2_lt' h1 (by omega)
mutual
theorem plain_showable {k : Nat} (hk : k ≤ 479) : ∀ d : PyData, plainB k d = true → d.showable = true
  | .none, _ => rfl
  | .bool _, _ => rfl
  | .int i, h => by
    unfold plainB at h
    unfold PyData.showable
    exact decide_eq_true (pow_log (of_decide_eq_true h) hk)
  | .list xs, h => by
    unfold plainB at h
    unfold PyData.showable
    exact plain_showableAll hk xs h
  | .tuple xs, h => by
    unfold plainB at h
    unfold PyData.showable
    exact plain_showableAll hk xs h
  | .str _, h => by
    unfold plainB at h
    cases h
  | .dict _, h => by
    unfold plainB at h
    cases h
theorem plain_showableAll {k : Nat} (hk : k ≤ 479) : ∀ xs : List PyData, plainAll k xs = true → PyData.showableAll xs = true
  | [], _ => rfl
  | x :: xs, h => by
    unfold plainAll at h
    rw [Bool.and_eq_true] at h
    unfold PyData.showableAll
    rw [plain_showable hk x h.1, plain_showableAll hk xs h.2] <;> rfl
end
mutual
theorem plain_nodict {k : Nat} : ∀ d : PyData, plainB k d = true → d.hasDict = false
  | .none, _ => rfl
  | .bool _, _ => rfl
  | .int i, h => rfl
  | .list xs, h => by
    unfold plainB at h
    unfold PyData.hasDict
    exact plain_nodictAll xs h
  | .tuple xs, h => by
    unfold plainB at h
    unfold PyData.hasDict
    exact plain_nodictAll xs h
  | .str _, h => rfl
  | .dict _, h => by
    unfold plainB at h
    cases h
theorem plain_nodictAll {k : Nat} : ∀ xs : List PyData, plainAll k xs = true → PyData.hasDictAll xs = false
  | [], _ => rfl
  | x :: xs, h => by
    unfold plainAll at h
    rw [Bool.and_eq_true] at h
    unfold PyData.hasDictAll
    rw [plain_nodict x h.1, plain_nodictAll xs h.2] <;> rfl
end
mutual
theorem plain_lay {k : Nat} : ∀ d : PyData, plainB k d = true → d.canLay0 = true
  | .none, _ => rfl
  | .bool _, _ => rfl
  | .int i, h => rfl
  | .list xs, h => by
    unfold plainB at h
    unfold PyData.canLay0
    exact plain_layAll xs h
  | .tuple xs, h => by
    unfold plainB at h
    unfold PyData.canLay0
    exact plain_layAll xs h
  | .str _, h => by
    unfold plainB at h
    cases h
  | .dict _, h => by
    unfold plainB at h
    cases h
theorem plain_layAll {k : Nat} : ∀ xs : List PyData, plainAll k xs = true → PyData.canLayAll0 xs = true
  | [], _ => rfl
  | x :: xs, h => by
    unfold plainAll at h
    rw [Bool.and_eq_true] at h
    unfold PyData.canLayAll0
    rw [plain_lay x h.1, plain_layAll xs h.2] <;> rfl
end
theorem shaped_plain {k : Nat} {d : PyData} (h : plainB k d = true) (hd : d.depth ≤ 60) : SeqAt.shaped d = true := by
  show (PyData.canLay0 d && decide (PyData.depth d ≤ 64)) = true
  rw [plain_lay d h, Bool.true_and]
  exact decide_eq_true (by omega)
theorem dEq_p {k : Nat} {x y : PyData} (h : plainB k x = true) (hd : x.depth ≤ 60) (h2 : plainB k y = true) (hd2 : y.depth ≤ 60) : dEq x y = some (.bool (PyData.eqv x y)) := by
  unfold dEq
  rw [shaped_plain h hd, shaped_plain h2 hd2] <;> rfl
theorem dNe_p {k : Nat} {x y : PyData} (h : plainB k x = true) (hd : x.depth ≤ 60) (h2 : plainB k y = true) (hd2 : y.depth ≤ 60) : dNe x y = some (.bool (!PyData.eqv x y)) := by
  unfold dNe
  rw [shaped_plain h hd, shaped_plain h2 hd2] <;> rfl
def lenAll : List Str → Nat
  | [] => 0
  | t :: ts => t.length + 2 + lenAll ts
theorem join_len : ∀ ts : List Str, (Str.join ", " ts).length ≤ lenAll ts
  | [] => Nat.zero_le _
  | [x] => by
    show x.length ≤ x.length + 2 + 0
    omega
  | x :: y :: r => by
    have ih := join_len (y :: r)
    show (x ++ ((", " : String) : Str) ++ Str.join ", " (y :: r)).length ≤ x.length + 2 + lenAll (y :: r)
    rw [strLen_append, strLen_append]
    have : ((", " : String) : Str).length = 2 := by decide +kernel
    omega
theorem intlen {i : Int} {k : Nat} (hk : 0 < k) (h : i.natAbs < 10 ^ k) : ((toString i : String) : Str).length ≤ k + 1 := by
  have e := int_text_length_le10 hk h
  have e2 : ((toString i : String) : Str).length = (toString i).length := by
    exact PySem.ofString_length _
  omega
mutual
theorem plain_len {k : Nat} (hk : 0 < k) : ∀ d : PyData, plainB k d = true → d.shown.length + 2 ≤ (k + 8) * nodesD d
  | .none, _ => by
    rw [PyData.shown_none]
    have : ((("None" : String) : Str)).length = 4 := by decide +kernel
    unfold nodesD
    omega
  | .bool b, _ => by
    rw [PyData.shown_bool]
    unfold nodesD
    cases b with
    | true =>
      have : ((("True" : String) : Str)).length = 4 := by decide +kernel
      rw [if_pos rfl]
      omega
    | false =>
      have : ((("False" : String) : Str)).length = 5 := by decide +kernel
      rw [if_neg Bool.false_ne_true]
      omega
  | .int i, h => by
    unfold plainB at h
    rw [PyData.shown_int]
    have := intlen hk (of_decide_eq_true h)
    unfold nodesD
    omega
  | .list xs, h => by
    unfold plainB at h
    rw [PyData.shown_list, strLen_append, strLen_append]
    have h1 := join_len (PyData.shownAll xs)
    have h2 := plain_lenAll hk xs h
    have : ((("[" : String) : Str)).length = 1 := by decide +kernel
    have : ((("]" : String) : Str)).length = 1 := by decide +kernel
    unfold nodesD
    rw [Nat.mul_add]
    omega
  | .tuple xs, h => by
    unfold plainB at h
    rw [PyData.shown_tuple, strLen_append, strLen_append]
    have h1 := join_len (PyData.shownAll xs)
    have h2 := plain_lenAll hk xs h
    have : ((("(" : String) : Str)).length = 1 := by decide +kernel
    have : (((if xs.length == 1 then ",)" else ")" : String) : Str)).length ≤ 2 := by split <;> decide +kernel
    unfold nodesD
    rw [Nat.mul_add]
    omega
  | .str _, h => by
    unfold plainB at h
    cases h
  | .dict _, h => by
    unfold plainB at h
    cases h
theorem plain_lenAll {k : Nat} (hk : 0 < k) : ∀ xs : List PyData, plainAll k xs = true → lenAll (PyData.shownAll xs) ≤ (k + 8) * nodesAll xs
  | [], _ => by
    rw [PyData.shownAll_nil]
    exact Nat.zero_le _
  | x :: xs, h => by
    unfold plainAll at h
    rw [Bool.and_eq_true] at h
    rw [PyData.shownAll_cons]
    have h1 := plain_len hk x h.1
    have h2 := plain_lenAll hk xs h.2
    show (PyData.shown x).length + 2 + lenAll (PyData.shownAll xs) ≤ _
    unfold nodesAll
    rw [Nat.mul_add]
    omega
end
theorem reprC_plain {k : Nat} {d : PyData} (hk0 : 0 < k) (hk : k ≤ 479) (h : plainB k d = true) (hd : d.depth ≤ 60) (hn : (k + 8) * nodesD d ≤ 16000000) : reprC d = true := by
  unfold reprC
  rw [plain_showable hk d h, plain_nodict d h, decide_eq_true hd]
  have := plain_len hk0 d h
  rw [decide_eq_true (show d.shown.length ≤ 16000000 by omega)] <;> rfl
theorem strOk_of (s : String) : PyData.strOk (Str.ofString s) = true := by
  rw [Str.ofString_eq_toList]
  unfold PyData.strOk
  simp only [Array.all_eq_true_iff_forall_mem, List.mem_toArray, List.mem_map]
  rintro x ⟨c, _, rfl⟩
  have := c.valid
  rcases this with h | h
  · exact decide_eq_true (Nat.lt_trans h (by decide))
  · exact decide_eq_true h.2
theorem strOk_append (a b : Str) (ha : PyData.strOk a = true) (hb : PyData.strOk b = true) : PyData.strOk (a ++ b) = true := by
  have e : (a ++ b).cps = a.cps ++ b.cps := rfl
  unfold PyData.strOk at *
  rw [e]
  simp only [Array.all_append, ha, hb, Bool.and_self]
def okAll (ts : List Str) : Prop := ∀ t ∈ ts, PyData.strOk t = true
theorem join_ok : ∀ ts : List Str, okAll ts → PyData.strOk (Str.join ", " ts) = true
  | [], _ => strOk_of ""
  | [x], h => h x (List.mem_cons_self ..)
  | x :: y :: r, h => by
    show PyData.strOk (x ++ ((", " : String) : Str) ++ Str.join ", " (y :: r)) = true
    exact strOk_append _ _ (strOk_append _ _ (h x (List.mem_cons_self ..)) (strOk_of _)) (join_ok (y :: r) fun t ht => h t (List.mem_cons_of_mem _ ht))
mutual
theorem plain_strOk {k : Nat} : ∀ d : PyData, plainB k d = true → PyData.strOk d.shown = true
  | .none, _ => by
    rw [PyData.shown_none]
    exact strOk_of _
  | .bool b, _ => by
    rw [PyData.shown_bool]
    split <;> exact strOk_of _
  | .int i, h => by
    rw [PyData.shown_int]
    exact strOk_of _
  | .list xs, h => by
    unfold plainB at h
    rw [PyData.shown_list]
    exact strOk_append _ _ (strOk_append _ _ (strOk_of _) (join_ok _ (plain_strOkAll xs h))) (strOk_of _)
  | .tuple xs, h => by
    unfold plainB at h
    rw [PyData.shown_tuple]
    exact strOk_append _ _ (strOk_append _ _ (strOk_of _) (join_ok _ (plain_strOkAll xs h))) (strOk_of _)
  | .str _, h => by
    unfold plainB at h
    cases h
  | .dict _, h => by
    unfold plainB at h
    cases h
theorem plain_strOkAll {k : Nat} : ∀ xs : List PyData, plainAll k xs = true → okAll (PyData.shownAll xs)
  | [], _ => by
    rw [PyData.shownAll_nil]
    exact fun _ h => nomatch h
  | x :: xs, h => by
    unfold plainAll at h
    rw [Bool.and_eq_true] at h
    rw [PyData.shownAll_cons]
    intro t ht
    rcases List.mem_cons.mp ht with rfl | ht
    · exact plain_strOk x h.1
    · exact plain_strOkAll xs h.2 t ht
end
theorem eqv_str (s : Str) : PyData.eqv (.str s) (.str s) = true := by
  simp [PyData.eqv]
theorem shaped_str {s : Str} (h : PyData.strOk s = true) : SeqAt.shaped (.str s) = true := by
  show (PyData.canLay0 (.str s) && decide (PyData.depth (.str s) ≤ 64)) = true
  rw [show PyData.canLay0 (.str s) = PyData.strOk s by unfold PyData.canLay0; rfl, h]
  rfl
theorem dNe_s {s : Str} (h : PyData.strOk s = true) : dNe (.str s) (.str s) = some (.bool false) := by
  unfold dNe
  rw [shaped_str h, eqv_str] <;> rfl
/-- the text of data of numbers, as a text that is equal to itself -/
theorem repr_plain {k : Nat} {xs : List PyData} (hk0 : 0 < k) (hk : k ≤ 479) (h : plainB k (.list xs) = true) (hd : (PyData.list xs).depth ≤ 60) (hn : (k + 8) * nodesD (.list xs) ≤ 16000000) : ∃ s, dRepr (.list xs) = some (.str s) ∧ PyData.strOk s = true :=
  ⟨_, if_pos (reprC_plain hk0 hk h hd hn), plain_strOk _ h⟩
theorem plain_ints {k : Nat} {v : List Int} (h : ∀ x ∈ v, x.natAbs < 10 ^ k) : plainAll k (v.map .int) = true := by
  induction v with
  | nil => rfl
  | cons x v ih =>
    rw [List.map_cons]
    unfold plainAll
    rw [ih fun y hy => h y (List.mem_cons_of_mem _ hy)]
    unfold plainB
    rw [decide_eq_true (h x (List.mem_cons_self ..))] <;> rfl
theorem nodes_ints (v : List Int) : nodesAll (v.map .int) = v.length := by
  induction v with
  | nil => rfl
  | cons x v ih =>
    rw [List.map_cons, List.length_cons]
    unfold nodesAll
    rw [ih]
    unfold nodesD
    omega
end DL
set_option Elab.async false
set_option linter.all false
set_option maxRecDepth 100000
namespace DL
open PySem PySem.Spec L2
open PyProof.Rows hiding St
variable [KF]
/-! ### what is raised: a second reading beside the first -/
abbrev GXs := Rho → Option Str
/-- a class of the program's own, without own __init__, that is raised with a text -/
structure ErrC (K : PySem.W.Frag) (mg : Str → Option Value) (n : Str) (C : Addr) : Prop where
  g : mg n = some (.ref C)
  q : ∃ bmB, ExcBaseFacts "ValueError" "ValueError.__new__" "ValueError.__init__" bmB ∧ PySem.W.excIn K C bmB "ValueError.__new__" = true
  k : PySem.W.keepIn K (.ref C) = true
  s : PySem.W.subIn K (.ref C) (.type "BaseException") = some true
  t : PySem.W.typeIn K (.ref C) = some (.type "type")
def SemX (X : Cx) (O : List Nat) (ts : TS) (GX : GXs) (Wx : WX) : Prop := ∀ (ρ : Rho) (σ : St) (Hs0 H0 Hs H : Hp) (D : Ends) (n : Str), StOK O ρ σ Hs0 H0 Hs H → GX ρ = some n →
  (∀ (C : Addr) (σ' : St) (Hs' H' : Hp), X.mg n = some (.ref C) → Gr Hs0 H0 Hs' H' → Wx (.ref C) none σ' H') → ts D σ H
structure DX (X : Cx) (m : Md) (OB O O' W : List Nat) (st : Stmt) (ts : TS) (G : FS) (Wx : WX) (GX : GXs) : Prop where
  ds : DS X m OB O O' W st ts G
  ex : SemX X O ts GX Wx
structure DXs (X : Cx) (m : Md) (OB O O' W : List Nat) (st : List Stmt) (ts : TS) (G : FS) (Wx : WX) (GX : GXs) : Prop where
  ds : DSs X m OB O O' W st ts G
  ex : SemX X O ts GX Wx
def xNo : GXs := fun _ => none
def xIf (c : FT) (a b : GXs) : GXs := fun ρ => (c ρ).bind fun k => if k = true then a ρ else b ρ
def xSeq (a : GXs) (g : FS) (b : GXs) : GXs := fun ρ => match a ρ with
  | some n => some n
  | none => (g ρ).bind fun o => match o with
    | .nx ρ' => b ρ'
    | _ => none
def sErr : FS := fun _ => none
section
variable {X : Cx} {m : Md} {OB O O' O'' W W' : List Nat} {st : Stmt} {rest s1 s2 : List Stmt} {t u : TS} {G G' : FS} {e c : Expr} {te : TE} {f : F} {ft : FT} {tc : TT} {pos : Pos} {Wx : WX} {GX GX' : GXs}
theorem dx_of (h : DS X m OB O O' W st t G) : DX X m OB O O' W st t G Wx xNo := ⟨h, fun ρ σ Hs0 H0 Hs H D n x hg => nomatch hg⟩
theorem dxs_of (h : DSs X m OB O O' W rest t G) : DXs X m OB O O' W rest t G Wx xNo := ⟨h, fun ρ σ Hs0 H0 Hs H D n x hg => nomatch hg⟩
theorem dxs_one (h : DX X m OB O O' W st t G Wx GX) : DXs X m OB O O' W [st] t G Wx GX := ⟨dss_one h.ds, h.ex⟩
theorem dxs_cons (h : DX X m OB O O' W st t G Wx GX) (hr : DXs X m OB O' O'' W' rest u G' Wx GX') : DXs X m OB O O'' (W ++ W') (st :: rest) (tSeq t u) (sSeq G G') Wx (xSeq GX G GX') := ⟨dss_cons h.ds hr.ds, fun ρ σ Hs0 H0 Hs H D n x hg q => by
  unfold xSeq at hg
  cases ha : GX ρ with
  | some n' =>
    rw [ha] at hg
    cases hg
    exact h.ex ρ σ Hs0 H0 Hs H { D with nx := u D } n x ha q
  | none =>
    rw [ha] at hg
    obtain ⟨o, h1, h2⟩ := bind_some hg
    refine h.ds.ev ρ σ Hs0 H0 Hs H { D with nx := u D } o x h1 ?_
    cases o with
    | nx ρ' => exact fun σ' Hs' H' x' fx => hr.ex ρ' σ' Hs0 H0 Hs' H' D n x' h2 q
    | rt d => cases h2
    | bk _ => cases h2
    | ct _ => cases h2⟩
theorem dx_if (hc : DT X O c tc ft) (ha : DXs X m OB O O' W s1 t G Wx GX) (hb : DXs X m OB O O' W' s2 u G' Wx GX') : DX X m OB O O' (W ++ W') (.If c s1 s2 pos) (tIfS tc t u) (sIf ft G G') Wx (xIf ft GX GX') := ⟨ds_if hc ha.ds hb.ds, fun ρ σ Hs0 H0 Hs H D n x hg q => by
  obtain ⟨k, h1, h2⟩ := bind_some hg
  refine hc.ev ρ σ Hs H k x.sl h1 _ fun Hs1 H1 g1 => ?_
  cases k with
  | true => exact iteT (ha.ex ρ σ Hs0 H0 Hs1 H1 D n (x.mono g1) h2 q)
  | false => exact iteF (hb.ex ρ σ Hs0 H0 Hs1 H1 D n (x.mono g1) h2 q)⟩
theorem dx_raise {n msg : Str} {C : Addr} {j : Nat} {p p2 p3 : Pos} (hc : X.calm = true) (tk : Takes X Wx) (er : ErrC X.K X.mg n C) (hg : Gl X n) (hdb : (n == ("__debug__" : Str)) = false := by decide) :
    DX X m OB O O' [] (.Raise (some (.Call (.Name n p) [.Constant (.str msg) j p2] [] p3)) none pos) (fun _ σ H => Wx (.ref C) none σ H) sErr Wx (fun _ => some n) := by
  obtain ⟨bmB, F, q⟩ := er.q
  exact ⟨⟨ps_raise hc tk (pmk_own F q er.g er.k (raises_own er.s er.t) hg hdb), fun ρ σ Hs0 H0 Hs H D o x hg => nomatch hg⟩, fun ρ σ Hs0 H0 Hs H D n' x hg q => by
    cases hg
    exact q C σ Hs H er.g x.gr⟩
end
/-! ### defs that may raise -/
def runX (nl : Nat) (GX : GXs) (ds : List PyData) : Option Str := GX (ds.map some ++ List.replicate (nl - ds.length) none)
def spX (n : Nat) (m : Md) (Fn : List PyData → Option PyData) (FX : List PyData → Option Str) (mg : Str → Option Value) : Sp := fun vs H Q E => ∃ (ds : List PyData) (Hs : Hp), ds.length = n ∧ Same Hs H ∧ RA Hs vs ds ∧
  ((∃ d, Fn ds = some d ∧ ∀ v Hs' H', Gr Hs H Hs' H' → Res m H Hs' H' v d → Q v H') ∨ ∃ c, FX ds = some c ∧ ∀ (C : Addr) (Hs' H' : Hp), mg c = some (.ref C) → Gr Hs H Hs' H' → E (.ref C) none H')
theorem spX_len {n : Nat} {m : Md} {Fn : List PyData → Option PyData} {FX : List PyData → Option Str} {mg : Str → Option Value} : ∀ vs H Q E, spX n m Fn FX mg vs H Q E → vs.length = n := fun vs H Q E h => by
  obtain ⟨ds, Hs, h1, _, h2, _⟩ := h
  rw [h2.length, h1]
theorem def_ofX {P : Program} {w : World} {K : PySem.W.Frag} {mg : Str → Option Value} {base : Heap} {x qual : Str} {st : Stmt} {f : Addr} {fd : FuncData} {N ps : List Str} {k : Nat} {m : Md} {B : FS} {GX : GXs} {O' W : List Nat} {n : Nat} (F : Fun K x qual st f fd) (S : FnScope N ps (defScope st)) (hn : ps.length = n)
    (none_ok : m = .cl ∨ ∀ ρ ρ', B ρ ≠ some (.nx ρ'))
    (body : ∀ (cdv : Value) (A : Around) (outer : List Env) (s : Shared) (H : Hp) (E : XK), GA k (A.deeper (envOfC qual (defScope st) s.heap.objs.size f cdv)) →
      ∃ t, DXs (cxOf (L2.CX P w) P w K mg base N qual (defScope st) f cdv A outer s H E) m [] [] O' W (defBody st) t B (fun cls d _ H' => E cls d H') GX) : FnG P w K mg base (L2.CX P w) (k + 1) f fd ps (spX n m (runF N.length B) (runX N.length GX) mg) := by
  subst hn
  refine fnG_of F S spX_len fun cdv A outer s H vs Q E ga want => ?_
  obtain ⟨t, h⟩ := body cdv A outer s H E ga
  obtain ⟨ds, Hs, hl, e, r, want⟩ := want
  refine ⟨t, h.ds.ps, ?_⟩
  rcases want with ⟨d, hf, q⟩ | ⟨c, hf, q⟩
  · obtain ⟨o, ho, hd⟩ := bind_some hf
    refine h.ds.ev _ _ Hs H Hs H _ o (start_slots e r) ho ?_
    cases o with
    | nx ρ' =>
      cases hd
      rcases none_ok with rfl | hno
      · exact fun σ' Hs' H' x _ => q _ Hs' H' x.gr .non
      · exact absurd ho (hno _ _)
    | rt d' =>
      cases hd
      exact fun v Hs' H' g r' => q v Hs' H' g r'
    | bk _ => cases hd
    | ct _ => cases hd
  · exact h.ex _ _ Hs H Hs H _ c (start_slots e r) hf fun C σ' Hs' H' hC g => q C Hs' H' hC g
theorem FnG.plain {P : Program} {w : World} {K : PySem.W.Frag} {mg : Str → Option Value} {base : Heap} {CX : CXT} {k : Nat} {f : Addr} {fd : FuncData} {ps : List Str} {n : Nat} {m : Md} {Fn : List PyData → Option PyData} {FX : List PyData → Option Str} (F : FnG P w K mg base CX k f fd ps (spX n m Fn FX mg)) : FnG P w K mg base CX k f fd ps (spF n m Fn) :=
  F.imp fun vs H Q E ⟨ds, d, Hs, h1, h2, h3, h4, h5⟩ => ⟨ds, Hs, h1, h2, h3, .inl ⟨d, h4, h5⟩⟩
section
variable {X : Cx} {CX : CXT} {k : Nat} {f : Addr} {fd : FuncData} {ps : List Str} {sp : Sp} {E : St → XK} {x : Str} {p pos : Pos} {e : Expr} {es : List Expr} {t : TA}
theorem runSG {pins : List (Addr × Obj)} {σ : St} {H : Hp} {s : Shared} {Q : VK} {us : List Value} {vs : List V} (F : FnG X.prog X.w X.K X.mg X.base CX k f fd ps sp) (ga : GA k X.A) (hb : Binds X.K fd ps []) (hx : PassesAt CX X σ (E σ)) (inv : Inv X pins σ H s) (rel : Vals vs us)
    (want : sp vs H Q (E σ)) : wpAny (model X.prog X.w) X.A (call (.ref f) us) (EP X pins σ Q) X.xe s := by
  have hl : us.length = ps.length := rel.length.symm.trans (F.len _ _ _ _ want)
  have bind := hb s us inv.kIn (by rw [List.append_nil]; exact hl)
  rw [List.append_nil] at bind
  refine wpAny_call (codeAny_mono (F.run X.A X.stack s H ⟨us, []⟩ us vs Q (E σ) ga inv.env0 bind rel want) fun r s' out => ?_)
  match r, out with
  | .error e, out => exact hx pins H s e s' inv out
  | .ok (.ret u), out => exact inv.after out
  | .ok .next, out => exact False.elim out
  | .ok .brk, out => exact False.elim out
  | .ok .cont, out => exact False.elim out
theorem pe_callSG (F : FnG X.prog X.w X.K X.mg X.base CX k f fd ps sp) (ga : GA k X.A) (hg : Gl X x) (hm : X.mg x = some (.ref f)) (hk : PySem.W.keepIn X.K (.ref f) = true) (hb : Binds X.K fd ps []) (hx : ∀ σ, PassesAt CX X σ (E σ)) (ha : PA X (e :: es) t)
    (hdb : (x == ("__debug__" : Str)) = false := by decide) (he : starEach (e :: es) X.env = (false, eval e X.env) :: starEach es X.env := by rfl) (hpl : (backTo pos (starEach es X.env)).any (·.1) = false := by rfl) : PE X (.Call (.Name x p) (e :: es) [] pos) (tCallS sp E t) :=
  ⟨fun pins s σ H Q inv h => wpAny_Call_Name_kw (ld_glob inv hg hm (PySem.W.callWith_K (h₀ := X.base) inv.ok.mod.kin hk (thn (ha.run pos pins s σ H _ inv h) fun us s1 ⟨vs, H1, inv1, rel, want⟩ =>
    ⟨inv1.kIn, runSG F ga hb (hx σ) inv1 rel want⟩) he hpl) hdb)⟩
end
/-! ### a call alone in a try, whose clause returns a truth about the error -/
/-- a test about the error at a, in slot i -/
structure BT (X : Cx) (i : Nat) (a : Addr) (e : Expr) (te : TE) (b : Bool) : Prop where
  pe : PE X e te
  ev : ∀ (σ : St) (H : Hp) (Q : VK), σ[i]? = some (some (.ref a)) → Q (.bl b) H → te σ H Q
def sTry (i : Nat) (fs : FA) (Fn : List PyData → Option PyData) (FX : List PyData → Option Str) (n : Str) (b : Bool) : FS := fun ρ => (fs ρ).bind fun ds => match Fn ds with
  | some _ => some (.nx ρ)
  | none => if FX ds = some n ∧ i < ρ.length then some (.rt (.bool b)) else none
theorem ds_try {X : Cx} {OB O : List Nat} {k nn : Nat} {f C : Addr} {fd : FuncData} {ps : List Str} {m : Md} {Fn : List PyData → Option PyData} {FX : List PyData → Option Str} {x xc n : Str} {i : Nat} {p p2 p3 np pos pos' rp : Pos} {e r : Expr} {es : List Expr} {t : TA} {fs : FA} {b : Bool} {tr : Addr → TE}
    (hs : X.stack = X.env :: X.outer) (hf : X.env.frame = some X.env.locals) (hN : X.N.Nodup) (hi : X.N[i]? = some n) (hln : X.env.kindOf n = some .local) (hc : Names X xc (.ref C)) (gC : X.mg xc = some (.ref C)) (hex : PySem.W.exmOne X.K (.ref C) (.ref C) = some true)
    (F : FnG X.prog X.w X.K X.mg X.base (L2.CX X.prog X.w) k f fd ps (spX nn m Fn FX X.mg)) (ga : GA k X.A) (hm : X.mg x = some (.ref f)) (hk : PySem.W.keepIn X.K (.ref f) = true) (hb : Binds X.K fd ps [])
    (ha : ∀ pn xe, DAc (X.tr pn xe) O (e :: es) t fs) (hlen : (e :: es).length = nn) (hfs : ∀ ρ ds, fs ρ = some ds → ds.length = (e :: es).length) (hg : Gl X x)
    (tk : Takes X fun _ _ _ _ => False)
    (hr : ∀ (a : Addr) (oe : Obj) (pn : List (Addr × Obj)), Zc (.ref C) none oe → (∃ vs, oe.data = .fields vs) → BT (X.suite a ((a, oe) :: pn)) i a r (tr a) b)
    (hdb : (x == ("__debug__" : Str)) = false := by decide) (he : starEach (e :: es) X.env = (false, eval e X.env) :: starEach es X.env := by rfl) (hpl : (backTo p2 (starEach es X.env)).any (·.1) = false := by rfl)
    (hsw : swapsWith (.Call (.Name x p) (e :: es) [] p2) none p3.line X.env = pure false := by rfl) :
    DS X .cl OB O O [] (.Try [.Expr (.Call (.Name x p) (e :: es) [] p2) p3] [.ExceptHandler (some (.Name xc np)) (some n) [.Return (some r) rp] pos'] [] [] pos)
      (fun D σ H => tDrop (tCallS (spX nn m Fn FX X.mg) (WE (wAs X.K (.ref C) i (fun a cls d D σ H => cls = .ref C ∧ d = none ∧ tRet (tr a) D σ H) (fun _ _ _ _ => False) D)) t) D σ H) (sTry i fs Fn FX xc b) := by
  refine ⟨ps_try_as (tb := fun W => tDrop (tCallS (spX nn m Fn FX X.mg) (WE W) t)) hs hf hN hi hln hc tk (fun W pn xe tkW _ => pss_one (ps_expr (pe_callSG (X := X.tr pn xe) F ga hg hm hk hb (fun σ => passAt tkW σ) (ha pn xe).pa hdb he hpl) hsw)) (fun a oe cls d pn hz hfv => ?_), fun ρ σ Hs0 H0 Hs H D o s hgo q => ?_⟩
  · refine ⟨fun pins s σ H D I h => ?_⟩
    obtain ⟨rfl, rfl, h⟩ := h
    exact (pss_one (ps_ret (hr a oe pn hz hfv).pe)).run pins s σ H D I h
  · obtain ⟨ds, h1, h2⟩ := bind_some hgo
    refine (ha [] (fun _ _ => False)).ev ρ σ Hs H ds s.sl h1 _ fun vs Hs1 H1 g1 r1 => ?_
    refine ⟨ds, Hs1, (hfs ρ ds h1).trans hlen, g1.sub, r1, ?_⟩
    cases hF : Fn ds with
    | some d =>
      rw [hF] at h2
      cases h2
      refine .inl ⟨d, rfl, fun v Hs' H' g2 _ => q σ Hs' H' (s.mono (g1.trans g2)) (.refl _ _ _)⟩
    | none =>
      rw [hF] at h2
      have h3 : (if FX ds = some xc ∧ i < ρ.length then some (Out.rt (.bool b)) else none) = some o := h2
      by_cases hc : FX ds = some xc ∧ i < ρ.length
      · rw [if_pos hc] at h3
        cases h3
        refine .inr ⟨xc, hc.1, fun C' Hs' H' hC g2 => ?_⟩
        rw [gC] at hC
        cases hC
        refine ⟨true, hex, fun _ a na => ⟨rfl, rfl, ?_⟩, fun z => Bool.noConfusion z⟩
        refine (hr a ⟨.ref C, none, .fields #[], #[]⟩ [] ⟨rfl, rfl⟩ ⟨_, rfl⟩).ev _ _ _ ?_ ?_
        · exact List.getElem?_set_self (by rw [s.sl.len]; exact hc.2)
        · exact q (.bl b) Hs' H' (s.gr.trans (g1.trans g2)) (show R Hs' _ _ from .bl _)
      · rw [if_neg hc] at h3
        cases h3
section
variable {X : Cx} {i : Nat} {a : Addr} {e e2 : Expr} {rest : List Expr} {t u : TE} {b b' : Bool} {pos : Pos}
theorem bt_one {op : BoolOp} (h : BT X i a e t b) : BT X i a (.BoolOp op [e] pos) t b := ⟨pe_one h.pe, h.ev⟩
theorem bt_and (h : BT X i a e t b) (h2 : BT X i a (.BoolOp .And (e2 :: rest) pos) u b') : BT X i a (.BoolOp .And (e :: e2 :: rest) pos) (tAndV t u) (b && b') := ⟨pe_and h.pe h2.pe, fun σ H Q hs q => by
  refine h.ev σ H _ hs ⟨b, rfl, ?_⟩
  cases b with
  | true => exact iteT (h2.ev σ H Q hs q)
  | false => exact iteF q⟩
theorem bt_not (h : BT X i a e t b) : BT X i a (.UnaryOp .Not e pos) (tNotV t) (!b) := ⟨pe_not h.pe, fun σ H Q hs q => h.ev σ H _ hs ⟨b, rfl, q⟩⟩
end
theorem bt_is {X : Cx} {i : Nat} {a D : Addr} {oe : Obj} {pn : List (Addr × Obj)} {c : Expr} {v : V} {cv : Value} {b : Bool} {n : Str} {p p2 pos : Pos} (C : ExcC X.K D) (hz : Zc (.ref D) none oe) (hf : ∃ vs, oe.data = .fields vs) (gl : Gl (X.suite a ((a, oe) :: pn)) "isinstance") (hm : X.mg "isinstance" = none)
    (hv : PE (X.suite a ((a, oe) :: pn)) (.Name n p2) (tVar i)) (hc : PE (X.suite a ((a, oe) :: pn)) c (tC v)) (hcv : ∀ u, RelV v u → u = cv) (hk : PySem.W.kitOne X.K (.ref D) cv = some b)
    (he : starEach [.Name n p2, c] X.env = (false, eval (.Name n p2) X.env) :: starEach [c] X.env := by rfl) (he2 : starEach [c] X.env = (false, eval c X.env) :: starEach [] X.env := by rfl) (hpl : (backTo pos (starEach [c] X.env)).any (·.1) = false := by rfl) :
    BT (X.suite a ((a, oe) :: pn)) i a (.Call (.Name "isinstance" p) [.Name n p2, c] [] pos) (tCB (rIsE X.K D a) (tCons (tVar i) (tCons (tC v) tNil))) b :=
  ⟨pe_callB (call_isE C hz hf) gl hm (by decide +kernel) (pa_cons hv (pa_cons hc pa_nil he2) he) (by decide) (by decide) he hpl, fun σ H Q hs q => ⟨.ref a, hs, v, cv, b, rfl, hcv, hk, q⟩⟩
end DL
namespace DL
open PySem PySem.Spec L2
open PyProof.Rows hiding St
variable [KF]
section
variable {X : Cx} {O : List Nat} {a b : Expr} {ta tb : TE} {fa fb : F} {pos : Pos}
theorem op_divK {k : Nat} (hs : X.base.NoSeer) (hP : X.prog.given.tree = none) (ga : GA k X.A) (hst : X.stack = X.env :: X.outer) (h2 : X.env.scope.isGenerator = false) (h3 : X.env.scope.isCoroutine = false) : OpR X (binaryOp .FloorDiv) rDivW := by
  intro pins s σ H x y v u Q I rx ry h
  obtain ⟨i, j, rfl, rfl, hj, q⟩ := h
  obtain ⟨t, rfl⟩ := rx
  obtain ⟨t', rfl⟩ := ry
  refine PyProof.Rows.floordiv_int hj ⟨.int _, H, I.tok _, ⟨_, rfl⟩, q⟩ (.inr (PylongRoom.of I.nolimit (by have := ga.dp; show X.A.depth + 100 < recursionLimit; omega) (SeerAt.of (hs.keeps I.bk) hP (by rw [I.ok.frames, hst]) h2 h3 I.ok.blt I.ok.glob)))
theorem de_divK {k : Nat} (hs : X.base.NoSeer) (hP : X.prog.given.tree = none) (ga : GA k X.A) (ha : DE X O .rd a ta fa) (hb : DE X O .rd b tb fb) (hst : X.stack = X.env :: X.outer := by rfl) (h2 : X.env.scope.isGenerator = false := by rfl) (h3 : X.env.scope.isCoroutine = false := by rfl) :
    DE X O .cl (.BinOp a .FloorDiv b pos) (tOp rDivW ta tb) (fBin dDivW fa fb) := de_op (op_divK hs hP ga hst h2 h3) (opd_I fun i j h => of_decide_eq_true (p := j ≠ 0) h) ha hb
end
theorem def_nxX {P : Program} {w : World} {K : PySem.W.Frag} {mg : Str → Option Value} {base : Heap} {x qual : Str} {st : Stmt} {f : Addr} {fd : FuncData} {N ps : List Str} {k : Nat} {m : Md} {B : FS} {GX : GXs} {O' W : List Nat} {n nl : Nat} (F : Fun K x qual st f fd) (S : FnScope N ps (defScope st)) (hn : ps.length = n) (hnl : N.length = nl)
    (none_ok : m = .cl ∨ ∀ ρ ρ', B ρ ≠ some (.nx ρ'))
    (body : ∀ (cdv : Value) (A : Around) (outer : List Env) (s : Shared) (H : Hp) (E : XK), GA k (A.deeper (envOfC qual (defScope st) s.heap.objs.size f cdv)) →
      ∃ t, DXs (cxOf (L2.CX P w) P w K mg base N qual (defScope st) f cdv A outer s H E) m [] [] O' W (defBody st) t B (fun cls d _ H' => E cls d H') GX) : FnG P w K mg base (L2.CX P w) (k + 1) f fd ps (spX n m (runF nl B) (runX nl GX) mg) := by
  subst hnl
  exact def_ofX F S hn none_ok body
end DL
namespace DL
open PySem PySem.Spec L2
open PyProof.Rows hiding St
theorem kit_own {K : PySem.W.Frag} {C D : Addr} {b : Bool} (h2 : PySem.W.isClsIn K D = true) (h3 : PySem.W.typeIn K (.ref D) = some (.type "type")) (h4 : PySem.W.subIn K (.ref C) (.ref D) = some b) (hb : b = true ∨ C ≠ D) : PySem.W.kitOne K (.ref C) (.ref D) = some b := by
  have h2' : (PySem.W.clsIn K D).isSome = true := h2
  have e2 : ((PySem.W.clsIn K D).isSome && PySem.W.typeIn K (.ref D) == some (.type "type")) = true := by rw [h2', h3] <;> rfl
  have k : PySem.W.kitCls K (.ref C) (.ref D) = some b := by
    show (if ((PySem.W.clsIn K D).isSome && PySem.W.typeIn K (.ref D) == some (.type "type")) = true then PySem.W.subIn K (.ref C) (.ref D) else none) = some b
    rw [if_pos e2]
    exact h4
  unfold PySem.W.kitOne
  by_cases e : C = D
  · rcases hb with rfl | n
    · rw [e, if_pos (by simp)]
    · exact absurd e n
  · rw [if_neg (by simpa using e)]
    exact k
theorem kit_bt {K : PySem.W.Frag} {C : Addr} {T : String} {b : Bool} (hm : PySem.W.kitMeta T = true) (h4 : PySem.W.subIn K (.ref C) (.type T) = some b) : PySem.W.kitOne K (.ref C) (.type T) = some b := by
  unfold PySem.W.kitOne
  rw [if_neg (by simp)]
  show (if PySem.W.kitMeta T = true then PySem.W.subIn K (.ref C) (.type T) else none) = some b
  rw [if_pos hm]
  exact h4
end DL
set_option Elab.async false
set_option linter.all false
set_option maxRecDepth 100000
namespace DL
open PySem PySem.Spec L2
open PyProof.Rows hiding St
variable [KF]
/-! ### list(range(a, b)) -/
def rg2C (i j : Int) : Bool := decide (-(2 ^ 62) ≤ i ∧ i < 2 ^ 62 ∧ -(2 ^ 62) ≤ j ∧ j < 2 ^ 62 ∧ (j - i).toNat ≤ 90000)
def dRg2 : PyData → PyData → Option PyData
  | .int i, .int j => if rg2C i j = true then some (.list (rangeD i (j - i).toNat)) else none
  | _, _ => none
theorem ra_rg {Hs : Hp} (a : Int) : ∀ l : List Nat, RA Hs (l.map fun (i : Nat) => V.int (a + (i : Int))) (l.map fun (i : Nat) => PyData.int (a + (i : Int)))
  | [] => .nil
  | i :: l => .cons (.int _) (ra_rg a l)
theorem de_listR2 {X : Cx} {O : List Nat} {a b : Expr} {ta tb : TE} {fa fb : F} {p p2 p3 pos : Pos} (hc : X.calm = true) (hg : Gl X "list") (hm : X.mg "list" = none) (hg2 : Gl X "range") (hm2 : X.mg "range" = none) (ha : DE X O .rd a ta fa) (hb : DE X O .rd b tb fb)
    (na : starEach [.Call (.Name "range" p2) [a, b] [] p3] X.env = (false, eval (.Call (.Name "range" p2) [a, b] [] p3) X.env) :: starEach [] X.env := by rfl) (n1 : starEach [a, b] X.env = (false, eval a X.env) :: starEach [b] X.env := by rfl) (n2 : starEach [b] X.env = (false, eval b X.env) :: starEach [] X.env := by rfl) (n3 : (backTo p3 (starEach [b] X.env)).any (·.1) = false := by rfl) :
    DE X O .ow (.Call (.Name "list" p) [.Call (.Name "range" p2) [a, b] [] p3] [] pos) (tLstRg (tRg2 ta tb)) (fBin dRg2 fa fb) :=
  ⟨pe_listRg hc hg hm (prg_2 hg2 hm2 ha.pe hb.pe n1 n2 n3) na, fun ρ σ Hs H d s h Q q => by
    obtain ⟨x, hx, h⟩ := bind_some h
    obtain ⟨y, hy, h⟩ := bind_some h
    obtain ⟨i, j, rfl, rfl, c, rfl⟩ : ∃ i j : Int, x = .int i ∧ y = .int j ∧ rg2C i j = true ∧ d = .list (rangeD i (j - i).toNat) := by
      match x, y, h with
      | .int i, .int j, h =>
        obtain ⟨c, e⟩ := if_some (show (if rg2C i j = true then some (PyData.list (rangeD i (j - i).toNat)) else none) = some d from h)
        exact ⟨i, j, rfl, rfl, c, e.symm⟩
    have c := of_decide_eq_true c
    refine ha.ev ρ σ Hs H _ s hx _ fun v Hs1 H1 g1 r1 => ?_
    refine hb.ev ρ σ Hs1 H1 _ (s.mono g1) hy _ fun w Hs2 H2 g2 r2 => ?_
    have g := g1.trans g2
    refine ⟨i, j, rd_int r1, rd_int r2, ⟨c.1, c.2.1, c.2.2.1, c.2.2.2.1, by omega⟩, fun p hp => ?_⟩
    exact q _ Hs2 _ (g.trans (Gr.own g.sub hp)) (Res.back g.h (res_new g.sub hp (ra_rg i _)))⟩
end DL
set_option Elab.async false
set_option linter.all false
set_option maxRecDepth 100000
namespace DL
open PySem PySem.Spec L2
open PyProof.Rows hiding St
/-! ### fresh data: all its lists are new, none of the module's own -/
abbrev kS [k : KF] : KF := ⟨k.K, false⟩
/-- the part of Hs that is not in H0 -/
def outH (H0 Hs : Hp) : Hp := fun a => match H0 a with
  | none => Hs a
  | some _ => none
theorem outH_some {H0 Hs : Hp} {a : Addr} {u : HO} (h : outH H0 Hs a = some u) : H0 a = none ∧ Hs a = some u := by
  unfold outH at h
  cases q : H0 a with
  | none =>
    rw [q] at h
    exact ⟨rfl, h⟩
  | some o =>
    rw [q] at h
    cases h
theorem outH_of {H0 Hs : Hp} {a : Addr} (h : H0 a = none) : outH H0 Hs a = Hs a := by
  unfold outH
  rw [h]
theorem outH_sub {H0 Hs : Hp} : Same (outH H0 Hs) Hs := fun a u h => (outH_some h).2
theorem outH_mono {H0 Hs Hs' : Hp} (e : Same Hs Hs') : Same (outH H0 Hs) (outH H0 Hs') := fun a u h => by
  obtain ⟨h1, h2⟩ := outH_some h
  rw [outH_of h1]
  exact e _ _ h2
theorem outH_base {H0 H1 Hs : Hp} (e : Same H0 H1) : Same (outH H1 Hs) (outH H0 Hs) := fun a u h => by
  obtain ⟨h1, h2⟩ := outH_some h
  rw [outH_of (Same.free e h1)]
  exact h2
mutual
theorem up_R (k2 : KF) [k1 : KF] (e : ∀ H a vs, @LsK k1 H a vs → @LsK k2 H a vs) {H : Hp} : ∀ {v : V} {d : PyData}, @R k1 H v d → @R k2 H v d
  | _, _, .non => @R.non k2 _
  | _, _, .bl b => @R.bl k2 _ b
  | _, _, .int i => @R.int k2 _ i
  | _, _, .str x => @R.str k2 _ x
  | _, _, .lst h r => @R.lst k2 _ _ _ _ (e _ _ _ h) (up_RA k2 e r)
  | _, _, .tup h r => @R.tup k2 _ _ _ _ h (up_RA k2 e r)
theorem up_RA (k2 : KF) [k1 : KF] (e : ∀ H a vs, @LsK k1 H a vs → @LsK k2 H a vs) {H : Hp} : ∀ {vs : List V} {ds : List PyData}, @RA k1 H vs ds → @RA k2 H vs ds
  | _, _, .nil => @RA.nil k2 _
  | _, _, .cons h r => @RA.cons k2 _ _ _ _ _ (up_R k2 e h) (up_RA k2 e r)
end
variable [kf : KF]
abbrev RS (H : Hp) (v : V) (d : PyData) : Prop := @R kS H v d
abbrev RSA (H : Hp) (vs : List V) (ds : List PyData) : Prop := @RA kS H vs ds
theorem RS.up {H : Hp} {v : V} {d : PyData} (h : RS H v d) : R H v d := @up_R kf kS (fun H a vs h => h.elim .inl fun z => Bool.noConfusion (show false = true from z.1)) _ _ _ h
theorem RSA.up {H : Hp} {vs : List V} {ds : List PyData} (h : RSA H vs ds) : RA H vs ds := @up_RA kf kS (fun H a vs h => h.elim .inl fun z => Bool.noConfusion (show false = true from z.1)) _ _ _ h
theorem scal_RS {Hs Hs' : Hp} {v : V} {d : PyData} (h : scalD d = true) (r : R Hs v d) : RS Hs' v d := by
  cases r with
  | non => exact @R.non kS _
  | bl b => exact @R.bl kS _ b
  | int i => exact @R.int kS _ i
  | str x => exact @R.str kS _ x
  | lst _ _ => cases h
  | tup _ _ => cases h
theorem scal_RSA {Hs Hs' : Hp} : ∀ {vs : List V} {ds : List PyData}, ds.all scalD = true → RA Hs vs ds → RSA Hs' vs ds
  | _, _, _, .nil => @RA.nil kS _
  | _, _, h, .cons a b => by
    rw [List.all_cons, Bool.and_eq_true] at h
    exact @RA.cons kS _ _ _ _ _ (scal_RS h.1 a) (scal_RSA h.2 b)
def EvZ (te : TE) (σ : St) (Hs H : Hp) (d : PyData) : Prop := ∀ Q : VK, (∀ v Hs' H', Gr Hs H Hs' H' → R Hs' v d → RS (outH H Hs') v d → Q v H') → te σ H Q
/-- an expression whose value is fresh -/
structure DZ (X : Cx) (O : List Nat) (e : Expr) (te : TE) (f : F) : Prop where
  pe : PE X e te
  ev : ∀ (ρ : Rho) (σ : St) (Hs H : Hp) (d : PyData), Slots O ρ σ Hs H → f ρ = some d → EvZ te σ Hs H d
theorem DZ.cl_ {X : Cx} {O : List Nat} {e : Expr} {te : TE} {f : F} (h : DZ X O e te f) : DE X O .cl e te f := ⟨h.pe, fun ρ σ Hs H d s hf Q q => h.ev ρ σ Hs H d s hf Q fun v Hs' H' g r _ => q v Hs' H' g r⟩
/-- an own list comes to stand, and is fresh -/
theorem own_stand {Hs H Hs1 H1 : Hp} {a : Addr} {vs : List V} {ds : List PyData} (g : Gr Hs H Hs1 H1) (n0 : H a = none) (n1 : Hs1 a = none) (n2 : H1 a = some (.lst vs)) (r : RA Hs1 vs ds) (z : RSA (outH H (upd Hs1 a (.lst vs))) vs ds) :
    Gr Hs H (upd Hs1 a (.lst vs)) H1 ∧ R (upd Hs1 a (.lst vs)) (.ref a) (.list ds) ∧ RS (outH H (upd Hs1 a (.lst vs))) (.ref a) (.list ds) := by
  refine ⟨⟨g.s.trans (same_new n1), g.h, fun b u q => ?_, fun b z1 z2 => ?_⟩, .lst (ls_of upd_same) (r.mono (same_new n1)), @R.lst kS _ _ _ _ (.inl ?_) z⟩
  · by_cases hb : b = a
    · subst hb
      rw [upd_same] at q
      rw [n2]
      exact q
    · rw [upd_ne hb] at q
      exact g.sub _ _ q
  · rw [upd_ne (show b ≠ a from fun e => z2 (by rw [e]; exact n0))]
    exact g.non b z1 z2
  · rw [outH_of n0, upd_same]
/-- a new list of scalars is fresh -/
theorem DE.dz {X : Cx} {O : List Nat} {e : Expr} {te : TE} {f : F} (h : DE X O .ow e te f) : DZ X O e te (fScalL f) := ⟨h.pe, fun ρ σ Hs H d s hf Q q => by
  obtain ⟨d', h1, h2⟩ := bind_some hf
  cases d' <;> try (cases h2; done)
  rename_i ds
  obtain ⟨c, rfl⟩ := if_some (show (if ds.all scalD = true then some (PyData.list ds) else none) = some d from h2)
  refine h.ev ρ σ Hs H _ s h1 Q fun v Hs1 H1 g ⟨⟨a, vs, es, ev, ed, n1, n2, n3⟩, b, eb, hb⟩ => ?_
  cases ed
  rw [ev] at eb
  obtain rfl := V.ref.inj eb
  obtain ⟨g', r', z'⟩ := own_stand g hb n1 n2 n3 (scal_RSA c n3)
  rw [ev]
  exact q _ _ H1 g' r' z'⟩
/-- a comprehension whose items are fresh -/
theorem ev_lcZ {wi : TI} {g : TG} {tt : TT} {te : TE} {vs js : List Nat} {k : FG} {t : FT} {el : F} {src : FA} {O : List Nat}
    (hi : ∀ (ρ : Rho) (σ : St) (Hs H : Hp) (ds : List PyData), Slots O ρ σ Hs H → src ρ = some ds → ∀ Q : It → Hp → Prop, (∀ J Hs' H', Gr Hs H Hs' H' → Gives J ds Hs' → Q J H') → wi σ H Q)
    (hg : ∀ (d : PyData) (x : V) (ρ ρ' : Rho) (σ : St) (Hs H : Hp), Slots O ρ σ Hs H → R Hs x d → k d ρ = some ρ' → ∀ Q : St → Hp → Prop, (∀ σ', Slots O ρ' σ' Hs H → σ'.length = σ.length → (∀ j, j ∉ js → σ'[j]? = σ[j]? ∧ ρ'[j]? = ρ[j]?) → Q σ' H) → g x σ H Q)
    (ht : ∀ (ρ : Rho) (σ : St) (Hs H : Hp) (b : Bool), Slots O ρ σ Hs H → t ρ = some b → EvT tt σ Hs H b)
    (he : ∀ (ρ : Rho) (σ : St) (Hs H : Hp) (d : PyData), Slots O ρ σ Hs H → el ρ = some d → EvZ te σ Hs H d) (hj : ∀ j ∈ js, j ∈ vs)
    {ρ : Rho} {σ : St} {Hs H : Hp} {d : PyData} (s : Slots O ρ σ Hs H) (h : fLc src k t el vs ρ = some d) : EvZ (tLc wi g tt te vs) σ Hs H d := fun Q q => by
  obtain ⟨ds, hds, h⟩ := bind_some h
  obtain ⟨c, h⟩ : catC ds.length 1 = true ∧ (lcF k t el (wipeR ρ vs) ds).map (fun xs => PyData.list xs) = some d := by
    by_cases c : catC ds.length 1 = true
    · rw [if_pos c] at h
      exact ⟨c, h⟩
    · rw [if_neg c] at h
      cases h
  obtain ⟨xs, hxs, rfl⟩ := Option.map_eq_some_iff.mp h
  refine hi ρ σ Hs H ds s hds _ fun J Hs1 H1 gr1 giv D hD => ?_
  have s1 := s.mono gr1
  refine ⟨fun i m K => m = ds.length - i ∧ i ≤ ds.length ∧ ∃ (Ks : Hp) (acc : List V) (done rest : List PyData), Gr Hs1 H1 Ks K ∧ Ks D = none ∧ K D = some (.lst acc) ∧ RA Ks acc done ∧ RSA (outH H Ks) acc done ∧ done.length ≤ i ∧
    lcF k t el (wipeR ρ vs) (ds.drop i) = some rest ∧ done ++ rest = xs, ⟨ds.length, by simp, Nat.zero_le _, Hs1, [], [], xs, Gr.own gr1.sub hD, Same.free gr1.sub hD, upd_same, .nil, @RA.nil kS _, Nat.le_refl _, hxs, rfl⟩, ?_⟩
  rintro i m K ⟨rfl, hle, Ks, acc, done, rest, gr2, nD, eD, ra, rz, dl, hrest, hall⟩
  by_cases hlt : i < ds.length
  · have hdrop : ds.drop i = ds[i] :: ds.drop (i + 1) := List.drop_eq_getElem_cons hlt
    rw [hdrop] at hrest
    obtain ⟨ρ1, hk1, hrest⟩ := bind_some hrest
    obtain ⟨b, hb, hrest⟩ := bind_some hrest
    refine .inr ⟨giv.go i Ks K gr2.s gr2.sub hlt, fun K' => ∃ (Ks : Hp) (acc : List V) (done rest : List PyData), Gr Hs1 H1 Ks K' ∧ Ks D = none ∧ K' D = some (.lst acc) ∧ RA Ks acc done ∧ RSA (outH H Ks) acc done ∧ done.length ≤ i + 1 ∧
      lcF k t el (wipeR ρ vs) (ds.drop (i + 1)) = some rest ∧ done ++ rest = xs, fun K' hN => ⟨ds.length - (i + 1), by omega, rfl, by omega, hN⟩, fun x K' hy => ?_⟩
    obtain ⟨Ks', gr3, rx⟩ := giv.yld i Ks K x K' gr2.s gr2.sub hy ds[i] (List.getElem?_eq_getElem hlt)
    have nD3 : Ks' D = none := gr3.non D nD (by rw [eD]; simp)
    have eD3 : K' D = some (.lst acc) := gr3.h _ _ eD
    have sw : Slots O (wipeR ρ vs) (wipe σ vs) Ks' K' := ((s1.mono gr2).mono gr3).wiped vs
    refine hg _ x (wipeR ρ vs) ρ1 (wipe σ vs) Ks' K' sw rx hk1 _ fun σ2 sl2 len2 out2 => ?_
    refine ⟨wipe_same len2 hj fun j hjn => (out2 j hjn).1, ht ρ1 σ2 Ks' K' b sl2 hb _ fun Ks4 K4 gr4 => ?_⟩
    have nD4 : Ks4 D = none := gr4.non D nD3 (by rw [eD3]; simp)
    have eD4 : K4 D = some (.lst acc) := gr4.h _ _ eD3
    cases b with
    | true =>
      rw [if_pos rfl] at hrest ⊢
      obtain ⟨y, hy1, hrest⟩ := bind_some hrest
      obtain ⟨rest', hr1, rfl⟩ := Option.map_eq_some_iff.mp hrest
      refine he ρ1 σ2 Ks4 K4 y (sl2.mono gr4) hy1 _ fun v Ks5 K5 gr5 r5 z5 => ?_
      have nD5 : Ks5 D = none := gr5.non D nD4 (by rw [eD4]; simp)
      have eD5 : K5 D = some (.lst acc) := gr5.h _ _ eD4
      have gra : Gr Hs1 H1 Ks5 K5 := ((gr2.trans gr3).trans gr4).trans gr5
      have e35 : Same Ks Ks5 := (gr3.s.trans gr4.s).trans gr5.s
      have ra5 : RA Ks5 acc done := ra.mono e35
      have rz5 : RSA (outH H Ks5) acc done := @RA.mono kS _ _ (outH_mono e35) _ _ rz
      have hK4 : Same H K4 := (gr1.h.trans ((gr2.trans gr3).trans gr4).h)
      have z5' : RS (outH H Ks5) v y := @R.mono kS _ _ (outH_base hK4) _ _ z5
      refine ⟨acc, eD5, ?_, Ks5, acc ++ [v], done ++ [y], rest', ⟨gra.s, fun a o z => ?_, fun a o z => ?_, gra.non⟩, nD5, upd_same, ra5.snoc r5, @RA.snoc kS _ _ _ _ _ rz5 z5', ?_, hr1, ?_⟩
      · rw [ra5.length]
        have := of_decide_eq_true (p := ds.length + 1 ≤ 100000) c
        exact Nat.lt_of_le_of_lt (show done.length ≤ 100000 by omega) (by decide)
      · rw [upd_ne (ne_of_none z hD)]
        exact gra.h a o z
      · rw [upd_ne (ne_of_none z nD5)]
        exact gra.sub a o z
      · rw [List.length_append, List.length_singleton]
        omega
      · rw [List.append_assoc]
        exact hall
    | false =>
      rw [if_neg Bool.false_ne_true] at hrest ⊢
      have e34 : Same Ks Ks4 := gr3.s.trans gr4.s
      exact ⟨Ks4, acc, done, rest, (gr2.trans gr3).trans gr4, nD4, eD4, ra.mono e34, @RA.mono kS _ _ (outH_mono e34) _ _ rz, by omega, hrest, hall⟩
  · have ei : i = ds.length := by omega
    subst ei
    rw [List.drop_length] at hrest
    cases hrest
    rw [List.append_nil] at hall
    subst hall
    have nH : H D = none := Same.free gr1.h hD
    obtain ⟨g', r', z'⟩ := own_stand (gr1.trans gr2) nH nD eD ra (@RA.mono kS _ _ (outH_mono (same_new nD)) _ _ rz)
    exact .inl ⟨giv.stop Ks K gr2.s gr2.sub, q _ _ K g' r' z'⟩
section
variable {X : Cx} {O : List Nat} {elt tg iter : Expr} {ifs : List Expr} {scope : Scope} {own : List (Str × Nat)} {pos : Pos} {wi : TI} {g : TG} {tt : TT} {te : TE} {k : FG} {t : FT} {el : F} {src : FA} {js : List Nat}
structure DLz (X : Cx) (O : List Nat) (elt tg iter : Expr) (ifs : List Expr) (scope : Scope) (own : List (Str × Nat)) (wi : TI) (g : TG) (tt : TT) (te : TE) (src : FA) (k : FG) (t : FT) (el : F) (js : List Nat) : Prop where
  hi : DI X O tg iter wi src
  ok : BlkOk X.N X.env.scope scope own
  hg : ∀ (s : Shared) (H : Hp) (C : Addr) (cl : List (Str × Addr)) (fp : List Addr), DG (X.blk s H scope (compEnvC scope cl C X.env) fp) O tg g k js
  ht : ∀ (s : Shared) (H : Hp) (C : Addr) (cl : List (Str × Addr)) (fp : List Addr), DTs (X.blk s H scope (compEnvC scope cl C X.env) fp) O ifs tt t
  he : ∀ (s : Shared) (H : Hp) (C : Addr) (cl : List (Str × Addr)) (fp : List Addr), DZ (X.blk s H scope (compEnvC scope cl C X.env) fp) O elt te el
  hj : js.all (own.map (·.2)).contains = true
theorem dlz_mk (own : List (Str × Nat)) (hi : DI X O tg iter wi src) (ok : BlkOk X.N X.env.scope scope own) (hg : ∀ (s : Shared) (H : Hp) (C : Addr) (cl : List (Str × Addr)) (fp : List Addr), DG (X.blk s H scope (compEnvC scope cl C X.env) fp) O tg g k js)
    (ht : ∀ (s : Shared) (H : Hp) (C : Addr) (cl : List (Str × Addr)) (fp : List Addr), DTs (X.blk s H scope (compEnvC scope cl C X.env) fp) O ifs tt t) (he : ∀ (s : Shared) (H : Hp) (C : Addr) (cl : List (Str × Addr)) (fp : List Addr), DZ (X.blk s H scope (compEnvC scope cl C X.env) fp) O elt te el)
    (hj : js.all (own.map (·.2)).contains = true := by rfl) : DLz X O elt tg iter ifs scope own wi g tt te src k t el js := ⟨hi, ok, hg, ht, he, hj⟩
/-- x = e, e fresh -/
structure DSz (X : Cx) (O : List Nat) (i : Nat) (st : Stmt) (ts : TS) (f : F) : Prop where
  ps : PS X st ts
  ev : ∃ te, ts = tAsg te (gName i) ∧ ∀ (ρ : Rho) (σ : St) (Hs H : Hp) (d : PyData), Slots O ρ σ Hs H → f ρ = some d → EvZ te σ Hs H d
theorem dsz_asg (i : Nat) {x : Str} {p : Pos} {e : Expr} {te : TE} {f : F} {pos : Pos} (hN : X.N.Nodup) (h : DZ X O e te f) (hi : X.N[i]? = some x := by rfl) (hx : Loc X.env.scope x := by first | exact Or.inl rfl | exact Or.inr rfl) (hs : swapsWith e (some (.Name x p)) pos.line X.env = pure false := by rfl)
    (hf : X.fn x = true ∨ X.env.scope.names.lookup x = some .local := by first | exact .inl rfl | exact .inr rfl) : DSz X O i (.Assign [.Name x p] e pos) (tAsg te (gName i)) f := ⟨ps_set hN hi hx h.pe hs hf, te, rfl, h.ev⟩
theorem dsz_lc (i : Nat) {vs : List Nat} {x : Str} {py spos : Pos} (hc : X.calm = true) (hN : X.N.Nodup) (h : DLz X O elt tg iter ifs scope own wi g tt te src k t el js) (hsw : swapsWith (.ListComp elt [⟨tg, iter, ifs, 0⟩] scope pos) (some (.Name x py)) spos.line X.env = pure true) (hv : own.map (·.2) = vs := by rfl) (hi : X.N[i]? = some x := by rfl)
    (hx : X.env.scope.names.lookup x = some .local := by rfl) (hs : ∀ x, foldedSetIterable iter X.env x = pure x := by intro _; rfl) : DSz X O i (.Assign [.Name x py] (.ListComp elt [⟨tg, iter, ifs, 0⟩] scope pos) spos) (tAsg (tLc wi g tt te (own.map (·.2))) (gName i)) (fLc src k t el vs) := by
  subst hv
  exact ⟨ps_setLc hc hN hi hx hsw h.hi.pi h.ok (fun s H C cl fp => (h.hg s H C cl fp).pg) (fun s H C cl fp => (h.ht s H C cl fp).pt) (fun s H C cl fp => (h.he s H C cl fp).pe) hs, _, rfl, fun ρ σ Hs H d s hf =>
    ev_lcZ h.hi.ev (h.hg ({} : Shared) (fun _ => none) 0 [] []).ev (h.ht ({} : Shared) (fun _ => none) 0 [] []).ev (h.he ({} : Shared) (fun _ => none) 0 [] []).ev (lc_js h.hj) s hf⟩
end
/-! ### defs whose result is fresh -/
def spZ (n : Nat) (Fn : List PyData → Option PyData) : Sp := fun vs H Q _ => ∃ (ds : List PyData) (d : PyData) (Hs : Hp), ds.length = n ∧ Same Hs H ∧ RA Hs vs ds ∧ Fn ds = some d ∧ ∀ v Hs' H', Gr Hs H Hs' H' → R Hs' v d → RS (outH H Hs') v d → Q v H'
theorem spZ_len {n : Nat} {Fn : List PyData → Option PyData} : ∀ vs H Q E, spZ n Fn vs H Q E → vs.length = n := fun vs H Q E h => by
  obtain ⟨ds, d, Hs, h1, _, h2, _⟩ := h
  rw [h2.length, h1]
theorem FnG.unz {P : Program} {w : World} {K : PySem.W.Frag} {mg : Str → Option Value} {base : Heap} {CX : CXT} {k : Nat} {f : Addr} {fd : FuncData} {ps : List Str} {n : Nat} {Fn : List PyData → Option PyData} (F : FnG P w K mg base CX k f fd ps (spZ n Fn)) : FnG P w K mg base CX k f fd ps (spF n .cl Fn) :=
  F.imp fun vs H Q E ⟨ds, d, Hs, h1, h2, h3, h4, h5⟩ => ⟨ds, d, Hs, h1, h2, h3, h4, fun v Hs' H' g r _ => h5 v Hs' H' g r⟩
theorem dz_call {X : Cx} {O : List Nat} {CX : CXT} {k n : Nat} {f : Addr} {fd : FuncData} {ps : List Str} {Fn : List PyData → Option PyData} {E : XK} {x : Str} {p pos : Pos} {e : Expr} {es : List Expr} {t : TA} {fs : FA} (F : FnG X.prog X.w X.K X.mg X.base CX k f fd ps (spZ n Fn)) (ga : GA k X.A)
    (hm : X.mg x = some (.ref f)) (hk : PySem.W.keepIn X.K (.ref f) = true) (hb : Binds X.K fd ps []) (hx : Passes CX X E) (ha : DAc X O (e :: es) t fs) (hlen : (e :: es).length = n := by rfl) (hfs : ∀ ρ ds, fs ρ = some ds → ds.length = (e :: es).length) (hg : Gl X x := by rfl)
    (hdb : (x == ("__debug__" : Str)) = false := by decide) (he : starEach (e :: es) X.env = (false, eval e X.env) :: starEach es X.env := by rfl) (hpl : (backTo pos (starEach es X.env)).any (·.1) = false := by rfl) : DZ X O (.Call (.Name x p) (e :: es) [] pos) (tCall (spZ n Fn) [] E t) (fFn Fn fs) :=
  ⟨pe_callG F ga hg hm hk hb hx ha.pa hdb he hpl, fun ρ σ Hs H d s h Q q => by
    obtain ⟨xs, hxs, h⟩ := bind_some h
    refine ha.ev ρ σ Hs H xs s hxs _ fun vs Hs1 H1 g1 r1 => ?_
    refine ⟨xs, d, Hs1, (hfs ρ xs hxs).trans hlen, g1.sub, ?_, h, fun v Hs2 H2 g2 r2 z2 => q v Hs2 H2 (g1.trans g2) r2 (@R.mono kS _ _ (outH_base g1.h) _ _ z2)⟩
    rw [List.append_nil]
    exact r1⟩
/-- what of the slots may be kept where the old heap is forgotten -/
def cutR (ρ : Rho) : Rho := ρ.map fun o => o.bind fun d => if scalD d = true then some d else none
def sCut (i : Nat) (f : F) (G : FS) : FS := fun ρ => (f ρ).bind fun d => G ((cutR ρ).set i (some d))
theorem cut_slots {ρ : Rho} {σ : St} {Hs H H1 Hs2 H2 : Hp} {i : Nat} {v : V} {d : PyData} (s : Slots [] ρ σ Hs H1) (hH : Same H H1) (g : Gr Hs H1 Hs2 H2) (z : RS (outH H1 Hs2) v d) : @StOK kS [] ((cutR ρ).set i (some d)) (σ.set i (some v)) (outH H Hs2) H2 (outH H Hs2) H2 := by
  have e0 : Same (outH H Hs2) H2 := outH_sub.trans g.sub
  have lc : (cutR ρ).length = ρ.length := List.length_map ..
  refine @StOK.mk kS _ _ _ _ _ _ _ (@Slots.mk kS _ _ _ _ _ e0 (by rw [List.length_set, List.length_set, lc]; exact s.len) (fun j e h => ?_) fun j k dj dk v hn (h1 : false = true) => Bool.noConfusion h1) (.refl e0) fun j hj => absurd hj List.not_mem_nil
  by_cases hj : i = j
  · subst hj
    have hl : i < ρ.length := by
      have := (List.getElem?_eq_some_iff.mp h).1
      rwa [List.length_set, lc] at this
    rw [List.getElem?_set_self (by rw [lc]; exact hl)] at h
    obtain rfl := Option.some.inj (Option.some.inj h)
    exact ⟨v, List.getElem?_set_self (by rw [s.len]; exact hl), fun z => Bool.noConfusion (show false = true from z), fun _ => @R.mono kS _ _ (outH_base hH) _ _ z⟩
  · have ec : (cutR ρ)[j]? = (ρ[j]?).map fun o => o.bind fun d => if scalD d = true then some d else none := List.getElem?_map ..
    rw [List.getElem?_set_ne hj, ec] at h
    obtain ⟨o, h1, h2⟩ := Option.map_eq_some_iff.mp h
    obtain ⟨d', h3, h4⟩ := bind_some h2
    obtain ⟨c, rfl⟩ := if_some (show (if scalD d' = true then some d' else none) = some e from h4)
    rw [h3] at h1
    obtain ⟨w, k1, _, k3⟩ := s.val j d' h1
    exact ⟨w, by rw [List.getElem?_set_ne hj]; exact k1, fun z => Bool.noConfusion (show false = true from z), fun _ => scal_RS c (k3 rfl)⟩
theorem cut_back {Hs H Hs2 H2 Hs3 H3 : Hp} (e0 : Same Hs H) (hH : Same H H2) (g : Gr (outH H Hs2) H2 Hs3 H3) : Gr Hs H (joinH Hs Hs3) H3 ∧ Same Hs3 (outH H (joinH Hs Hs3)) := by
  have out : ∀ a, H a ≠ none → Hs3 a = none := fun a h => by
    refine g.non a ?_ fun z => h (Same.free hH z)
    cases q : H a with
    | none => exact absurd q h
    | some o =>
      unfold outH
      rw [q]
  have both : ∀ a u, Hs3 a = some u → H a = none := fun a u h => by
    cases q : H a with
    | none => rfl
    | some o =>
      rw [out a (by rw [q]; simp)] at h
      cases h
  refine ⟨⟨joinH_l, hH.trans g.h, fun a u h => ?_, fun a h1 h2 => joinH_of h1 (out a h2)⟩, fun a u h => ?_⟩
  · unfold joinH at h
    cases q : Hs a with
    | none =>
      rw [q] at h
      exact g.sub _ _ h
    | some o =>
      rw [q] at h
      cases h
      exact g.h _ _ (hH _ _ (e0 _ _ q))
  · have n := both a u h
    rw [outH_of n]
    unfold joinH
    rw [Same.free e0 n]
    exact h
/-- a def: statements, then x = (something fresh), then statements that read nothing older -/
theorem def_cut {P : Program} {w : World} {K : PySem.W.Frag} {mg : Str → Option Value} {base : Heap} {CX : CXT} {x qual : Str} {st : Stmt} {f : Addr} {fd : FuncData} {N ps : List Str} {k : Nat} {nl : Nat} {s1 s2 : Stmt} {rest : List Stmt} {G1 G3 : FS} {f2 : F} {i : Nat} {n : Nat} (F : Fun K x qual st f fd) (S : FnScope N ps (defScope st)) (hn : ps.length = n) (hnl : N.length = nl) (hst : defBody st = s1 :: s2 :: rest)
    (none_ok : ∀ ρ ρ', G3 ρ ≠ some (.nx ρ')) (no_rt : ∀ ρ d, G1 ρ ≠ some (.rt d))
    (body : ∀ (cdv : Value) (A : Around) (outer : List Env) (s : Shared) (H : Hp) (E : XK), GA k (A.deeper (envOfC qual (defScope st) s.heap.objs.size f cdv)) →
      ∃ t1 t2 t3 W1 W3, DS (cxOf CX P w K mg base N qual (defScope st) f cdv A outer s H E).nox .cl [] [] [] W1 s1 t1 G1 ∧ DSz (cxOf CX P w K mg base N qual (defScope st) f cdv A outer s H E).nox [] i s2 t2 f2 ∧ @DSs kS (cxOf CX P w K mg base N qual (defScope st) f cdv A outer s H E).nox .cl [] [] [] W3 rest t3 G3) : FnG P w K mg base CX (k + 1) f fd ps (spZ n (runF nl (sSeq G1 (sCut i f2 G3)))) := by
  subst hn
  subst hnl
  refine fnG_of F S spZ_len fun cdv A outer s H vs Q E ga want => ?_
  obtain ⟨t1, t2, t3, W1, W3, h1, h2, h3⟩ := body cdv A outer s H E ga
  obtain ⟨ds, d, Hs, hl, e, r, hf, q⟩ := want
  refine ⟨_, by rw [hst]; exact (pss_cons h1.ps (pss_cons h2.ps (@DSs.ps kS _ _ _ _ _ _ _ _ _ h3))).nox, ?_⟩
  obtain ⟨o, ho, hd⟩ := bind_some hf
  obtain ⟨te, rfl, hev⟩ := h2.ev
  obtain ⟨o1, ho1, ho2⟩ := bind_some ho
  have go : ∀ (ρ1 : Rho) (σ1 : St) (Hs1 H1 : Hp), StOK [] ρ1 σ1 Hs H Hs1 H1 → sCut i f2 G3 ρ1 = some o → ∀ D : Ends, (∀ v Hs' H', Gr Hs H Hs' H' → R Hs' v d → RS (outH H Hs') v d → D.rt v H') → tSeq (tAsg te (gName i)) t3 D σ1 H1 := fun ρ1 σ1 Hs1 H1 x1 hc D qr => by
    obtain ⟨d2, hd2, hc⟩ := bind_some hc
    refine hev ρ1 σ1 Hs1 H1 d2 x1.sl hd2 _ fun v Hs2 H2 g2 r2 z2 => ?_
    refine @DSs.ev kS _ _ _ _ _ _ _ _ _ h3 ((cutR ρ1).set i (some d2)) (σ1.set i (some v)) (outH H Hs2) H2 (outH H Hs2) H2 D o (cut_slots x1.sl x1.gr.h g2 z2) hc ?_
    cases o with
    | nx ρ' => exact absurd hc (none_ok _ _)
    | rt d' =>
      cases hd
      intro u Hs3 H3 g3 r3
      obtain ⟨g4, e4⟩ := cut_back e (x1.gr.h.trans g2.h) g3
      have z4 : RS (outH H (joinH Hs Hs3)) u d := @R.mono kS _ _ e4 _ _ r3
      exact qr u _ H3 g4 (RS.up (@R.mono kS _ _ outH_sub _ _ z4)) z4
    | bk _ => cases hd
    | ct _ => cases hd
  refine h1.ev _ _ Hs H Hs H _ o1 (start_slots e r) ho1 ?_
  cases o1 with
  | nx ρ1 => exact fun σ1 Hs1 H1 x1 _ => go ρ1 σ1 Hs1 H1 x1 ho2 { nx := fun _ H' => Q .non H', rt := Q } q
  | rt d' =>
    exact absurd ho1 (no_rt _ _)
  | bk _ =>
    cases ho2
    cases hd
  | ct _ =>
    cases ho2
    cases hd
end DL
set_option Elab.async false
set_option linter.all false
set_option maxRecDepth 100000
namespace DL
open PySem PySem.Spec L2
open PyProof.Rows hiding St
variable [kf : KF]
/-! ### a fresh list of lists, whose lists are appended to in the end -/
/-- the state while the slot i holds fresh data: Hb stood, with Hc about it, where it was made; Wd: the slots written since -/
structure FrSt (O : List Nat) (i : Nat) (Wd : List Nat) (ρ : Rho) (σ : St) (Hb Hc Hs H : Hp) : Prop where
  st : StOK O ρ σ Hb Hc Hs H
  fr : ∀ d, ρ[i]? = some (some d) → ∃ v, σ[i]? = some (some v) ∧ RS (outH Hc Hs) v d
  old : ∀ k, k ≠ i → k ∉ Wd → ∀ d, ρ[k]? = some (some d) → ∃ v, σ[k]? = some (some v) ∧ R Hb v d
def SemF (m : Md) (OB O O' : List Nat) (i : Nat) (Wd W : List Nat) (ts : TS) (G : FS) : Prop := ∀ (ρ0 ρ : Rho) (σ0 σ : St) (Hs0 H0 Hb Hc Hs H : Hp) (D : Ends) (o : Out), Gr Hs0 H0 Hb Hc → FrSt O i Wd ρ σ Hb Hc Hs H → Fx (i :: Wd) σ0 σ ρ0 ρ → G ρ = some o → Post m OB O' (i :: Wd ++ W) σ0 ρ0 Hs0 H0 D o → ts D σ H
structure DF (X : Cx) (m : Md) (OB O O' : List Nat) (i : Nat) (Wd W : List Nat) (st : List Stmt) (ts : TS) (G : FS) : Prop where
  ps : PSs X st ts
  ev : SemF m OB O O' i Wd W ts G
theorem StOK.base {O : List Nat} {ρ : Rho} {σ : St} {Hs0 H0 Hb Hc Hs H : Hp} (g : Gr Hs0 H0 Hb Hc) (x : StOK O ρ σ Hb Hc Hs H) : StOK O ρ σ Hs0 H0 Hs H := ⟨x.sl, g.trans x.gr, fun i hi d hd => by
  obtain ⟨a, ka, kb⟩ := x.new i hi d hd
  exact ⟨a, ka, Same.free g.h kb⟩⟩
section
variable {X : Cx} {m : Md} {OB O O' O'' W W' Wd : List Nat} {i : Nat} {st : Stmt} {rest : List Stmt} {t u : TS} {G G' : FS}
theorem df_frz (k : Nat) (h : DF X m OB (del k O) O' i Wd W rest t G) : DF X m OB O O' i Wd W rest t G := ⟨h.ps, fun ρ0 ρ σ0 σ Hs0 H0 Hb Hc Hs H D o g x fx hg q => by
  obtain ⟨Hs', x', e, _⟩ := x.st.freezeS k
  exact h.ev ρ0 ρ σ0 σ Hs0 H0 Hb Hc Hs' H D o g ⟨x', fun d hd => let ⟨v, h1, h2⟩ := x.fr d hd; ⟨v, h1, @R.mono kS _ _ (outH_mono e) _ _ h2⟩, x.old⟩ fx hg q⟩
theorem df_cons (h : DS X m OB O O' W st t G) (hr : DF X m OB O' O'' i (Wd ++ W) W' rest u G') (hi : W.contains i = false := by rfl) : DF X m OB O O'' i Wd (W ++ W') (st :: rest) (tSeq t u) (sSeq G G') := ⟨pss_cons h.ps hr.ps, fun ρ0 ρ σ0 σ Hs0 H0 Hb Hc Hs H D o g x fx hg q => by
  obtain ⟨o1, h1, h2⟩ := bind_some hg
  have gb : Gr Hb Hc Hs H := x.st.gr
  have niW : i ∉ W := fun z => by
    rw [mem_contains z] at hi
    cases hi
  have low : Gr Hs0 H0 Hs (joinH Hc Hs) := g.trans (gr_join gb)
  have fxx : ∀ {σ' : St} {ρ' : Rho}, Fx W σ σ' ρ ρ' → Fx (i :: (Wd ++ W)) σ0 σ' ρ0 ρ' := fun f => (fx.app f).mono fun j z => by
    rcases List.mem_append.mp z with z | z
    · rcases List.mem_cons.mp z with z | z
      · exact List.mem_cons.mpr (.inl z)
      · exact List.mem_cons_of_mem _ (List.mem_append_left _ z)
    · exact List.mem_cons_of_mem _ (List.mem_append_right _ z)
  have sub : ∀ {j : Nat}, j ∈ i :: (Wd ++ W) → j ∈ i :: Wd ++ (W ++ W') := fun z => by
    rcases List.mem_cons.mp z with z | z
    · exact List.mem_cons.mpr (.inl z)
    · refine List.mem_cons_of_mem _ ?_
      rcases List.mem_append.mp z with z | z
      · exact List.mem_append_left _ z
      · exact List.mem_append_right _ (List.mem_append_left _ z)
  refine h.ev ρ σ Hs (joinH Hc Hs) Hs H { D with nx := u D } o1 (x.st.rebase gb (.refl _)) h1 ?_
  cases o1 with
  | nx ρ' =>
    refine fun σ' Hs' H' x' f' => hr.ev ρ0 ρ' σ0 σ' Hs0 H0 Hb Hc Hs' H' D o g ⟨StOK.unbase gb x', fun d hd => ?_, fun k hk hkW d hd => ?_⟩ (fxx f') h2 ?_
    · obtain ⟨e1, e2⟩ := f' i niW
      rw [e2] at hd
      obtain ⟨v, k1, k2⟩ := x.fr d hd
      exact ⟨v, by rw [e1]; exact k1, @R.mono kS _ _ (outH_mono x'.gr.s) _ _ k2⟩
    · obtain ⟨e1, e2⟩ := f' k fun z => hkW (List.mem_append_right _ z)
      rw [e2] at hd
      obtain ⟨v, k1, k2⟩ := x.old k hk (fun z => hkW (List.mem_append_left _ z)) d hd
      exact ⟨v, by rw [e1]; exact k1, k2⟩
    · have ass : ∀ j, j ∈ i :: (Wd ++ W) ++ W' → j ∈ i :: Wd ++ (W ++ W') := fun j z => by
        rcases List.mem_append.mp z with z | z
        · exact sub z
        · exact List.mem_cons_of_mem _ (List.mem_append_right _ (List.mem_append_right _ z))
      exact q.mono ass
  | rt d =>
    cases h2
    exact fun v Ks K gr r => q v Ks K (low.trans gr) (r.back low.h)
  | bk ρ' =>
    cases h2
    exact fun σ' Hs' H' x' f' => q σ' Hs' H' (StOK.base g (StOK.unbase gb x')) ((fxx f').mono fun j z => sub z)
  | ct ρ' =>
    cases h2
    exact fun σ' Hs' H' x' f' => q σ' Hs' H' (StOK.base g (StOK.unbase gb x')) ((fxx f').mono fun j z => sub z)⟩
/-- x = (fresh), then the rest -/
theorem df_asg {f : F} (h : DSz X O i st t f) (hO : O = []) (hr : DF X m OB O O' i [] W rest u G') : DSs X m OB O O' (i :: [] ++ W) (st :: rest) (tSeq t u) (sSeq (sAsg i f) G') := ⟨pss_cons h.ps hr.ps, fun ρ σ Hs0 H0 Hs H D o x hg q => by
  subst hO
  obtain ⟨o1, h1, h2⟩ := bind_some hg
  obtain ⟨d, hd, rfl⟩ := Option.map_eq_some_iff.mp h1
  obtain ⟨te, rfl, hev⟩ := h.ev
  refine hev ρ σ Hs H d x.sl hd _ fun v Hs1 H1 g1 r1 z1 => ?_
  have x1 : StOK [] (ρ.set i (some d)) (σ.set i (some v)) Hs H Hs1 H1 := by
    have y : StOK [] ρ σ Hs H Hs H := ⟨x.sl, .refl x.sl.sub, fun j hj => absurd hj List.not_mem_nil⟩
    exact (y.mono g1).del (i := i) r1
  refine hr.ev ρ _ σ _ Hs0 H0 Hs H Hs1 H1 D o x.gr ⟨x1, fun d' hd' => ?_, fun k hk _ d' hd' => ?_⟩ .set h2 q
  · have hl : i < ρ.length := by
      have := (List.getElem?_eq_some_iff.mp hd').1
      rwa [List.length_set] at this
    rw [List.getElem?_set_self hl] at hd'
    obtain rfl := Option.some.inj (Option.some.inj hd')
    exact ⟨v, List.getElem?_set_self (by rw [x.sl.len]; exact hl), z1⟩
  · rw [List.getElem?_set_ne (fun z => hk z.symm)] at hd' ⊢
    obtain ⟨w, k1, _, k3⟩ := x.sl.val k d' hd'
    exact ⟨w, k1, k3 rfl⟩⟩
end
/-! the lists of a fresh list, each with something appended -/
def appD : Nat → List PyData → List PyData
  | _, [] => []
  | k, .list ws :: r => .list (ws ++ [.int (k : Int)]) :: appD (k + 1) r
  | k, d :: r => d :: appD (k + 1) r
def rowOk : PyData → Bool
  | .list ws => ws.all scalD && decide (ws.length ≤ 1000)
  | _ => false
def appOk (ds : List PyData) : Prop := ds.all rowOk = true ∧ ds.Nodup ∧ ds.length ≤ 1000
open Classical in
noncomputable def sFin (i j : Nat) (Wd : List Nat) (G : FS) : FS := fun ρ => match ρ[i]? with
  | some (some (.list ds)) => if appOk ds ∧ j < ρ.length then G ((wipeR ρ (j :: Wd)).set i (some (.list (appD 0 ds)))) else none
  | _ => none
/-- the heap after k lists were appended to -/
def updN (H : Hp) (bs : List Addr) (us : List (List V)) : Nat → Hp
  | 0 => H
  | k + 1 => upd (updN H bs us k) (bs.getD k 0) (.lst (us.getD k [] ++ [.int (k : Int)]))
theorem scal_fun {H H' : Hp} {v : V} {d d' : PyData} (h : scalD d = true) (r : R H v d) (r' : R H' v d') : d = d' := by
  cases r with
  | non => cases r'; rfl
  | bl b => cases r'; rfl
  | int n => cases r'; rfl
  | str x => cases r'; rfl
  | lst _ _ => cases h
  | tup _ _ => cases h
theorem scal_funA {H H' : Hp} : ∀ {vs : List V} {ds ds' : List PyData}, ds.all scalD = true → RA H vs ds → RA H' vs ds' → ds = ds'
  | _, _, _, _, .nil, .nil => rfl
  | _, _, _, h, .cons a b, .cons a' b' => by
    rw [List.all_cons, Bool.and_eq_true] at h
    rw [scal_fun h.1 a a', scal_funA h.2 b b']
theorem scal_ref {H : Hp} {a : Addr} {d : PyData} (h : scalD d = true) (r : R H (.ref a) d) : False := by
  cases r with
  | lst _ _ => cases h
  | tup _ _ => cases h
/-- the rows of a fresh list of rows -/
theorem fresh_rows {H : Hp} (ds : List PyData) : ∀ {vs : List V}, RSA H vs ds → ds.all rowOk = true → ∃ (bs : List Addr) (us : List (List V)), vs = bs.map V.ref ∧ bs.length = ds.length ∧ us.length = ds.length ∧
    ∀ k, k < ds.length → ∃ ws, ds[k]? = some (.list ws) ∧ ws.all scalD = true ∧ ws.length ≤ 1000 ∧ H (bs.getD k 0) = some (.lst (us.getD k [])) ∧ RA H (us.getD k []) ws := by
  induction ds with
  | nil =>
    intro vs r _
    have r' : @RA kS H vs [] := r
    cases r'
    exact ⟨[], [], rfl, rfl, rfl, fun k hk => absurd hk (Nat.not_lt_zero _)⟩
  | cons d ds ih =>
    intro vs r h
    have r' : @RA kS H vs (d :: ds) := r
    cases r'
    rename_i v vs a b
    rw [List.all_cons, Bool.and_eq_true] at h
    obtain ⟨bs, us, h1, h2, h3, h4⟩ := ih b h.2
    obtain ⟨hd, _⟩ := h
    cases d <;> try (cases hd; done)
    rename_i ws
    have hd2 : (ws.all scalD && decide (ws.length ≤ 1000)) = true := hd
    rw [Bool.and_eq_true] at hd2
    obtain ⟨c1, c2⟩ := hd2
    have hx : ∃ b0 u0, v = .ref b0 ∧ H b0 = some (.lst u0) ∧ RA H u0 ws := by
      cases a with
      | lst p r => exact ⟨_, _, rfl, p.elim id fun z => Bool.noConfusion (show false = true from z.1), RSA.up r⟩
    obtain ⟨b0, u0, rfl, p, r⟩ := hx
    refine ⟨b0 :: bs, u0 :: us, by rw [List.map_cons, h1], by rw [List.length_cons, List.length_cons, h2], by rw [List.length_cons, List.length_cons, h3], fun k hk => ?_⟩
    cases k with
    | zero => exact ⟨ws, rfl, c1, of_decide_eq_true c2, p, r⟩
    | succ k =>
      obtain ⟨ws', q1, q2⟩ := h4 k (by rw [List.length_cons] at hk; omega)
      exact ⟨ws', q1, q2⟩
theorem updN_ne {H : Hp} {bs : List Addr} {us : List (List V)} {a : Addr} : ∀ {k : Nat}, (∀ l < k, a ≠ bs.getD l 0) → updN H bs us k a = H a
  | 0, _ => rfl
  | k + 1, h => by
    show upd (updN H bs us k) _ _ a = _
    rw [upd_ne (h k (by omega)), updN_ne fun l hl => h l (by omega)]
theorem updN_at {H : Hp} {bs : List Addr} {us : List (List V)} {l : Nat} : ∀ {k : Nat}, l < k → (∀ x y, x < k → y < k → bs.getD x 0 = bs.getD y 0 → x = y) → updN H bs us k (bs.getD l 0) = some (.lst (us.getD l [] ++ [.int (l : Int)]))
  | 0, h, _ => absurd h (Nat.not_lt_zero _)
  | k + 1, h, inj => by
    show upd (updN H bs us k) (bs.getD k 0) _ (bs.getD l 0) = _
    by_cases e : l = k
    · subst e
      rw [upd_same]
    · rw [upd_ne fun z => e (inj l k h (by omega) z)]
      exact updN_at (by omega) fun x y hx hy => inj x y (by omega) (by omega)
theorem appD_length : ∀ (k : Nat) (ds : List PyData), (appD k ds).length = ds.length
  | _, [] => rfl
  | k, d :: r => by
    cases d <;> (show (appD (k + 1) r).length + 1 = r.length + 1; rw [appD_length (k + 1) r])
theorem appD_RA {H : Hp} : ∀ {ds : List PyData} {bs : List Addr} {us : List (List V)} (k0 : Nat), bs.length = ds.length → us.length = ds.length →
    (∀ k, k < ds.length → ∃ ws, ds[k]? = some (.list ws) ∧ H (bs.getD k 0) = some (.lst (us.getD k [] ++ [.int ((k0 + k : Nat) : Int)])) ∧ RA H (us.getD k []) ws) → RA H (bs.map V.ref) (appD k0 ds)
  | [], [], _, _, _, _, _ => .nil
  | [], _ :: _, _, _, h, _, _ => by cases h
  | _ :: _, [], _, _, h, _, _ => by cases h
  | _ :: _, _ :: _, [], _, _, h, _ => by cases h
  | d :: ds, b :: bs, u :: us, k0, h1, h2, h => by
    obtain ⟨ws, e, p, r⟩ := h 0 (by rw [List.length_cons]; omega)
    have e' : d = .list ws := Option.some.inj e
    subst e'
    refine .cons (.lst (ls_of p) (r.append (.cons (.int _) .nil))) (appD_RA (ds := ds) (bs := bs) (us := us) (k0 + 1) (by rw [List.length_cons, List.length_cons] at h1; omega) (by rw [List.length_cons, List.length_cons] at h2; omega) fun k hk => ?_)
    obtain ⟨ws', q1, q2, q3⟩ := h (k + 1) (by rw [List.length_cons]; omega)
    rw [show k0 + (k + 1) = k0 + 1 + k by omega] at q2
    exact ⟨ws', q1, q2, q3⟩
end DL
set_option Elab.async false
set_option linter.all false
set_option maxRecDepth 100000
namespace DL
open PySem PySem.Spec L2
open PyProof.Rows hiding St
variable [kf : KF]
theorem getD_get {α : Type} {l : List α} {k : Nat} {d : α} (h : k < l.length) : l[k]? = some (l.getD k d) := by
  rw [List.getD_eq_getElem?_getD, List.getElem?_eq_getElem h] <;> rfl
theorem wipeR_some {ρ : Rho} {vs : List Nat} {k : Nat} {d : PyData} (h : (wipeR ρ vs)[k]? = some (some d)) : k ∉ vs ∧ ρ[k]? = some (some d) := by
  rw [wipeR_get] at h
  by_cases hk : k ∈ vs
  · rw [if_pos hk] at h
    split at h <;> cases h
  · rw [if_neg hk] at h
    exact ⟨hk, h⟩
/-- for j in range(len(x)): x[j].append(j), x fresh; then the rest -/
theorem df_app {X : Cx} {m : Md} {OB O' W Wd : List Nat} (i j : Nat) {st : Stmt} {fin : List Stmt} {e ix tg : Expr} {fx : F} {tlen : TE} {tf : TS} {Gf : FS} (hlen : DE X [] .rd e tlen (fFn (g1 dLen) (fConsA (fVar i) fNilA)))
    (hix : DE X [] .cl ix (tOp (rIx KF.K) (tVar i) (tVar j)) fx) (hgj : DG X [] tg (gName j) (gN j) [j])
    (hps : PE X e tlen → PE X ix (tOp (rIx KF.K) (tVar i) (tVar j)) → PG X tg (gName j) → PS X st (tFor (iRng1 (tCons tlen tNil)) (gName j) (tDrop (tBM X.K "list" rAppend (tOp (rIx KF.K) (tVar i) (tVar j)) (tCons (tVar j) tNil))))) (hK : X.K = KF.K) (hfin : DSs X m OB [] O' W fin tf Gf) (hij : i ≠ j := by decide) :
    DF X m OB [] O' i Wd (j :: W) (st :: fin) (tSeq (tFor (iRng1 (tCons tlen tNil)) (gName j) (tDrop (tBM X.K "list" rAppend (tOp (rIx KF.K) (tVar i) (tVar j)) (tCons (tVar j) tNil)))) tf) (sFin i j Wd Gf) := ⟨pss_cons (hps hlen.pe hix.pe hgj.pg) hfin.ps, fun ρ0 ρ σ0 σ Hs0 H0 Hb Hc Hs H D o g x fx hg q => by
  unfold sFin at hg
  cases hρ : ρ[i]? with
  | none => rw [hρ] at hg; cases hg
  | some od =>
  rw [hρ] at hg
  cases od with
  | none => cases hg
  | some d =>
  cases d <;> try (cases hg; done)
  rename_i ds
  by_cases hok : appOk ds ∧ j < ρ.length
  case neg => simp only [hok, if_false] at hg; cases hg
  have hg : Gf ((wipeR ρ (j :: Wd)).set i (some (.list (appD 0 ds)))) = some o := (if_pos hok).symm.trans hg
  obtain ⟨⟨hrow, hnd, hlen1000⟩, hjρ⟩ := hok
  obtain ⟨v, hv, hz⟩ := x.fr _ hρ
  -- the rows and their addresses
  obtain ⟨a0, vs0, rfl, p0, rz⟩ : ∃ a0 vs0, v = .ref a0 ∧ outH Hc Hs a0 = some (.lst vs0) ∧ RSA (outH Hc Hs) vs0 ds := by
    have hz2 : @R kS (outH Hc Hs) v (.list ds) := hz
    cases hz2 with
    | lst p r => exact ⟨_, _, rfl, p.elim id fun z => Bool.noConfusion (show false = true from z.1), r⟩
  obtain ⟨bs, us, rfl, lb, lu, hrows⟩ := fresh_rows ds rz hrow
  obtain ⟨n0, p0'⟩ := outH_some p0
  have at_ : ∀ k, k < ds.length → ∃ ws, ds[k]? = some (.list ws) ∧ ws.all scalD = true ∧ ws.length ≤ 1000 ∧ Hc (bs.getD k 0) = none ∧ Hs (bs.getD k 0) = some (.lst (us.getD k [])) ∧ RA (outH Hc Hs) (us.getD k []) ws := fun k hk => by
    obtain ⟨ws, q1, q2, q3, q4, q5⟩ := hrows k hk
    obtain ⟨q6, q7⟩ := outH_some q4
    exact ⟨ws, q1, q2, q3, q6, q7, q5⟩
  have inj : ∀ x y, x < ds.length → y < ds.length → bs.getD x 0 = bs.getD y 0 → x = y := fun x y hx hy e => by
    obtain ⟨ws, a1, a2, _, _, a5, a6⟩ := at_ x hx
    obtain ⟨ws', b1, b2, _, _, b5, b6⟩ := at_ y hy
    rw [e, b5] at a5
    have e2 : us.getD y [] = us.getD x [] := by
      have := Option.some.inj a5
      exact (HO.lst.inj this)
    rw [e2] at b6
    have e3 := scal_funA a2 a6 b6
    subst e3
    have hx' := List.getElem?_eq_some_iff.mp a1
    have hy' := List.getElem?_eq_some_iff.mp b1
    obtain ⟨x1, x2⟩ := hx'
    obtain ⟨y1, y2⟩ := hy'
    have nd := List.pairwise_iff_getElem.mp hnd
    rcases Nat.lt_trichotomy x y with h | h | h
    · exact absurd (x2.trans y2.symm) (nd x y x1 y1 h)
    · exact h
    · exact absurd (y2.trans x2.symm) (nd y x y1 x1 h)
  have na0 : ∀ k, k < ds.length → a0 ≠ bs.getD k 0 := fun k hk e => by
    obtain ⟨ws, a1, a2, _, _, a5, a6⟩ := at_ k hk
    rw [← e, p0'] at a5
    have e2 : us.getD k [] = bs.map V.ref := (HO.lst.inj (Option.some.inj a5)).symm
    rw [e2] at a6
    have hkb : k < bs.length := by omega
    have e3 : (bs.map V.ref)[k]? = some (.ref (bs.getD k 0)) := by rw [List.getElem?_map, getD_get hkb] <;> rfl
    cases ws with
    | nil =>
      have := a6.length
      rw [List.length_map, List.length_nil] at this
      omega
    | cons w ws =>
      rw [List.all_cons, Bool.and_eq_true] at a2
      cases bs with
      | nil => cases hkb
      | cons b bs =>
        rw [List.map_cons] at a6
        cases a6 with
        | cons a b => exact scal_ref a2.1 a
  -- len(x)
  refine hlen.ev ρ σ Hs H (.int (ds.length : Int)) x.st.sl ?_ _ fun vl Hs1 H1 g1 r1 => ?_
  · unfold fFn fConsA fNilA fVar
    rw [hρ] <;> rfl
  have hvl := rd_int r1
  subst hvl
  refine ⟨(ds.length : Int), rfl, by omega, by omega, ?_⟩
  have up : Same Hs H1 := g1.s.trans g1.sub
  have A0 : H1 a0 = some (.lst (bs.map V.ref)) := up _ _ p0'
  have AB : ∀ k, k < ds.length → H1 (bs.getD k 0) = some (.lst (us.getD k [])) := fun k hk => let ⟨_, _, _, _, _, a5, _⟩ := at_ k hk; up _ _ a5
  refine ⟨fun k n σ' K => n = ds.length - k ∧ k ≤ ds.length ∧ σ'.length = σ.length ∧ (∀ l, l ≠ j → σ'[l]? = σ[l]?) ∧ K = updN H1 bs us k, ⟨ds.length, by simp, Nat.zero_le _, rfl, fun _ _ => rfl, rfl⟩, ?_⟩
  rintro k n σ' K ⟨rfl, hk, hσl, hσ, rfl⟩
  by_cases hlt : k < ds.length
  · refine .inr ⟨by show k < (ds.length : Int).toNat; omega, fun σ'' K'' => σ''.length = σ.length ∧ (∀ l, l ≠ j → σ''[l]? = σ[l]?) ∧ K'' = updN H1 bs us (k + 1), fun σ'' K'' ⟨h1, h2, h3⟩ => ⟨ds.length - (k + 1), by omega, rfl, by omega, h1, h2, h3⟩, fun xv K' hy => ?_⟩
    obtain ⟨rfl, rfl⟩ := hy
    have hjl : j < σ'.length → (σ'.set j (some (V.int (0 + (k : Int)))))[j]? = some (some (V.int (0 + (k : Int)))) := fun h => List.getElem?_set_self h
    have hi' : (σ'.set j (some (V.int (0 + (k : Int)))))[i]? = some (some (.ref a0)) := by
      rw [List.getElem?_set_ne hij.symm, hσ i hij]
      exact hv
    have hjr : j < σ'.length := by rw [hσl, x.st.sl.len]; exact hjρ
    · obtain ⟨ws, b1, b2, b3, b4, b5, b6⟩ := at_ k hlt
      refine ⟨.ref a0, hi', .int (0 + (k : Int)), hjl hjr, ?_⟩
      refine .inl ⟨a0, bs.map V.ref, 0 + (k : Int), .ref (bs.getD k 0), rfl, rfl, .inl (.inl (by rw [updN_ne fun l hl => na0 l (by omega)]; exact A0)), ?_, ?_⟩
      · rw [Int.zero_add]
        refine atI_nat ?_
        rw [List.getElem?_map, getD_get (d := 0) (by omega)] <;> rfl
      · have at_k : updN H1 bs us k (bs.getD k 0) = some (.lst (us.getD k [])) := by
          rw [updN_ne fun l hl e => by have := inj k l hlt (by omega) e; omega]
          exact AB k hlt
        refine ⟨.inl ⟨rfl, _, .inl (.inl at_k)⟩, .int (0 + (k : Int)), hjl hjr, bs.getD k 0, us.getD k [], .int (0 + (k : Int)), rfl, rfl, at_k, ?_, ?_⟩
        · rw [b6.length]
          exact Nat.lt_of_le_of_lt b3 (by decide)
        · refine ⟨by rw [List.length_set, hσl], fun l hl => by rw [List.getElem?_set_ne (fun z => hl z.symm), hσ l hl], ?_⟩
          rw [Int.zero_add]
          rfl
  · have ek : k = ds.length := by omega
    subst ek
    refine .inl ⟨by show (ds.length : Int).toNat ≤ ds.length; omega, ?_⟩
    -- what stands now
    let New : Hp := fun a => if a = a0 ∨ a ∈ bs then updN H1 bs us ds.length a else Hb a
    have memb : ∀ a, a ∈ bs → ∃ k, k < ds.length ∧ a = bs.getD k 0 := fun a ha => by
      obtain ⟨k, hk, e⟩ := List.mem_iff_getElem.mp ha
      refine ⟨k, by omega, ?_⟩
      rw [List.getD_eq_getElem?_getD, List.getElem?_eq_getElem hk, e] <;> rfl
    have fresh : ∀ a, a = a0 ∨ a ∈ bs → Hc a = none := fun a h => by
      rcases h with rfl | h
      · exact n0
      · obtain ⟨k, hk, rfl⟩ := memb a h
        obtain ⟨_, _, _, _, b4, _⟩ := at_ k hk
        exact b4
    have gc : Gr Hb Hc Hs H := x.st.gr
    have bc : ∀ a u, Hb a = some u → H1 a = some u := fun a u h => up _ _ (gc.s _ _ h)
    have HbHc : Same Hb Hc := g.sub
    have notnew : ∀ a u, Hb a = some u → ¬ (a = a0 ∨ a ∈ bs) := fun a u h z => by
      have := fresh a z
      rw [HbHc _ _ h] at this
      cases this
    have keepU : ∀ a, ¬ (a = a0 ∨ a ∈ bs) → updN H1 bs us ds.length a = H1 a := fun a h => updN_ne fun l hl e => h (.inr (by
      rw [e, List.getD_eq_getElem?_getD, List.getElem?_eq_getElem (by omega)]
      exact List.getElem_mem _))
    have sNew : Same Hb New := fun a u h => by
      show (if a = a0 ∨ a ∈ bs then _ else Hb a) = some u
      rw [if_neg (notnew a u h)]
      exact h
    have subNew : Same New (updN H1 bs us ds.length) := fun a u h => by
      have h' : (if a = a0 ∨ a ∈ bs then updN H1 bs us ds.length a else Hb a) = some u := h
      by_cases c : a = a0 ∨ a ∈ bs
      · rw [if_pos c] at h'
        exact h'
      · rw [if_neg c] at h'
        rw [keepU a c]
        exact bc a u h'
    have rNew : R New (.ref a0) (.list (appD 0 ds)) := by
      refine .lst (vs := bs.map V.ref) (ls_of ?_) (appD_RA (us := us) 0 lb lu fun k hk => ?_)
      · show (if a0 = a0 ∨ a0 ∈ bs then _ else Hb a0) = _
        rw [if_pos (.inl rfl), updN_ne fun l hl => na0 l (by omega)]
        exact A0
      · obtain ⟨ws, b1, b2, b3, b4, b5, b6⟩ := at_ k hk
        refine ⟨ws, b1, ?_, scal_RA b2 b6⟩
        show (if bs.getD k 0 = a0 ∨ bs.getD k 0 ∈ bs then _ else Hb _) = _
        rw [if_pos (.inr (by
          rw [List.getD_eq_getElem?_getD, List.getElem?_eq_getElem (by omega)]
          exact List.getElem_mem _)), updN_at hk inj, Nat.zero_add]
    have hil : i < ρ.length := (List.getElem?_eq_some_iff.mp hρ).1
    have lenρ : σ'.length = ρ.length := by rw [hσl, x.st.sl.len]
    have st' : StOK [] ((wipeR ρ (j :: Wd)).set i (some (.list (appD 0 ds)))) σ' Hs0 H0 New (updN H1 bs us ds.length) := by
      refine ⟨⟨subNew, by rw [List.length_set, wipeR_length, lenρ], fun k d hd => ?_, fun k l dk dl v hn (h1 : false = true) => Bool.noConfusion h1⟩, ⟨g.s.trans sNew, fun a u h => ?_, subNew, fun a h1 h2 => ?_⟩, fun k hk => absurd hk List.not_mem_nil⟩
      · by_cases hki : i = k
        · subst hki
          rw [List.getElem?_set_self (by rw [wipeR_length]; exact hil)] at hd
          obtain rfl := Option.some.inj (Option.some.inj hd)
          exact ⟨.ref a0, by rw [hσ i hij]; exact hv, fun z => Bool.noConfusion (show false = true from z), fun _ => rNew⟩
        · rw [List.getElem?_set_ne hki] at hd
          obtain ⟨h1, h2⟩ := wipeR_some hd
          obtain ⟨w, k1, k2⟩ := x.old k (fun z => hki z.symm) (fun z => h1 (List.mem_cons_of_mem _ z)) d h2
          exact ⟨w, by rw [hσ k fun z => h1 (by rw [z]; exact List.mem_cons_self ..)]; exact k1, fun z => Bool.noConfusion (show false = true from z), fun _ => k2.mono sNew⟩
      · have hca : Hc a = some u := g.h _ _ h
        rw [keepU a fun z => by rw [fresh a z] at hca; cases hca]
        exact (gc.h.trans g1.h) _ _ hca
      · show (if a = a0 ∨ a ∈ bs then _ else Hb a) = none
        have hca : Hc a ≠ none := fun z => h2 (Same.free g.h z)
        rw [if_neg fun z => hca (fresh a z)]
        exact g.non a h1 h2
    have fx' : Fx (i :: j :: Wd) σ σ' ρ ((wipeR ρ (j :: Wd)).set i (some (.list (appD 0 ds)))) := fun k hk => by
      have hki : i ≠ k := fun z => hk (by rw [z]; exact List.mem_cons_self ..)
      have hkj : k ≠ j := fun z => hk (by rw [z]; exact List.mem_cons_of_mem _ (List.mem_cons_self ..))
      have hkW : k ∉ j :: Wd := fun z => hk (List.mem_cons_of_mem _ z)
      exact ⟨hσ k hkj, by rw [List.getElem?_set_ne hki, wipeR_get, if_neg hkW]⟩
    refine hfin.ev _ σ' Hs0 H0 New (updN H1 bs us ds.length) D o st' hg ?_
    have tot : ∀ {σ2 : St} {ρ2 : Rho}, Fx W σ' σ2 ((wipeR ρ (j :: Wd)).set i (some (.list (appD 0 ds)))) ρ2 → Fx (i :: Wd ++ j :: W) σ0 σ2 ρ0 ρ2 := fun f => ((fx.app fx').app f).mono fun l z => by
      simp only [List.mem_append, List.mem_cons] at z ⊢
      rcases z with ((z | z) | (z | z | z)) | z
      · exact .inl (.inl z)
      · exact .inl (.inr z)
      · exact .inl (.inl z)
      · exact .inr (.inl z)
      · exact .inl (.inr z)
      · exact .inr (.inr z)
    cases o with
    | nx ρ2 => exact fun σ2 Hs2 H2 x2 f2 => q σ2 Hs2 H2 x2 (tot f2)
    | rt d => exact q
    | bk ρ2 => exact fun σ2 Hs2 H2 x2 f2 => q σ2 Hs2 H2 x2 (tot f2)
    | ct ρ2 => exact fun σ2 Hs2 H2 x2 f2 => q σ2 Hs2 H2 x2 (tot f2)⟩
end DL
set_option Elab.async false
set_option linter.all false
set_option maxRecDepth 100000
set_option maxHeartbeats 2000000
namespace DL
open PySem PySem.Spec L2 PySem.W PySem.Calls
open PyProof.Rows hiding St
/-! ### numbers as binary texts -/
def binT (c : Nat) : PySem.Str := ⟨((Nat.toDigits 2 c).map Char.toNat).toArray⟩
section
open Builtin Builtin.Str Builtin.Int Builtin.Float
variable {t : Tok}
theorem fmtB0 : ∀ u, Meets («int.__format__» ⟨[.int (0 : Int) t, .str (PySem.Str.ofString "b") u], []⟩) (fun _ R s => ∀ t' k, R (.ok (.ret (.str (binT 0) t'))) { s with toks := k }) := by
  kxf_run_i
theorem fmtB1 : ∀ u, Meets («int.__format__» ⟨[.int (1 : Int) t, .str (PySem.Str.ofString "b") u], []⟩) (fun _ R s => ∀ t' k, R (.ok (.ret (.str (binT 1) t'))) { s with toks := k }) := by
  kxf_run_i
theorem fmtB2 : ∀ u, Meets («int.__format__» ⟨[.int (2 : Int) t, .str (PySem.Str.ofString "b") u], []⟩) (fun _ R s => ∀ t' k, R (.ok (.ret (.str (binT 2) t'))) { s with toks := k }) := by
  kxf_run_i
theorem fmtB3 : ∀ u, Meets («int.__format__» ⟨[.int (3 : Int) t, .str (PySem.Str.ofString "b") u], []⟩) (fun _ R s => ∀ t' k, R (.ok (.ret (.str (binT 3) t'))) { s with toks := k }) := by
  kxf_run_i
theorem fmtB4 : ∀ u, Meets («int.__format__» ⟨[.int (4 : Int) t, .str (PySem.Str.ofString "b") u], []⟩) (fun _ R s => ∀ t' k, R (.ok (.ret (.str (binT 4) t'))) { s with toks := k }) := by
  kxf_run_i
theorem fmtB5 : ∀ u, Meets («int.__format__» ⟨[.int (5 : Int) t, .str (PySem.Str.ofString "b") u], []⟩) (fun _ R s => ∀ t' k, R (.ok (.ret (.str (binT 5) t'))) { s with toks := k }) := by
  kxf_run_i
theorem fmtB6 : ∀ u, Meets («int.__format__» ⟨[.int (6 : Int) t, .str (PySem.Str.ofString "b") u], []⟩) (fun _ R s => ∀ t' k, R (.ok (.ret (.str (binT 6) t'))) { s with toks := k }) := by
  kxf_run_i
theorem fmtB7 : ∀ u, Meets («int.__format__» ⟨[.int (7 : Int) t, .str (PySem.Str.ofString "b") u], []⟩) (fun _ R s => ∀ t' k, R (.ok (.ret (.str (binT 7) t'))) { s with toks := k }) := by
  kxf_run_i
theorem fmtB8 : ∀ u, Meets («int.__format__» ⟨[.int (8 : Int) t, .str (PySem.Str.ofString "b") u], []⟩) (fun _ R s => ∀ t' k, R (.ok (.ret (.str (binT 8) t'))) { s with toks := k }) := by
  kxf_run_i
theorem fmtB9 : ∀ u, Meets («int.__format__» ⟨[.int (9 : Int) t, .str (PySem.Str.ofString "b") u], []⟩) (fun _ R s => ∀ t' k, R (.ok (.ret (.str (binT 9) t'))) { s with toks := k }) := by
  kxf_run_i
theorem fmtB10 : ∀ u, Meets («int.__format__» ⟨[.int (10 : Int) t, .str (PySem.Str.ofString "b") u], []⟩) (fun _ R s => ∀ t' k, R (.ok (.ret (.str (binT 10) t'))) { s with toks := k }) := by
  kxf_run_i
theorem fmtB11 : ∀ u, Meets («int.__format__» ⟨[.int (11 : Int) t, .str (PySem.Str.ofString "b") u], []⟩) (fun _ R s => ∀ t' k, R (.ok (.ret (.str (binT 11) t'))) { s with toks := k }) := by
  kxf_run_i
theorem fmtB12 : ∀ u, Meets («int.__format__» ⟨[.int (12 : Int) t, .str (PySem.Str.ofString "b") u], []⟩) (fun _ R s => ∀ t' k, R (.ok (.ret (.str (binT 12) t'))) { s with toks := k }) := by
  kxf_run_i
theorem fmtB13 : ∀ u, Meets («int.__format__» ⟨[.int (13 : Int) t, .str (PySem.Str.ofString "b") u], []⟩) (fun _ R s => ∀ t' k, R (.ok (.ret (.str (binT 13) t'))) { s with toks := k }) := by
  kxf_run_i
theorem fmtB14 : ∀ u, Meets («int.__format__» ⟨[.int (14 : Int) t, .str (PySem.Str.ofString "b") u], []⟩) (fun _ R s => ∀ t' k, R (.ok (.ret (.str (binT 14) t'))) { s with toks := k }) := by
  kxf_run_i
theorem fmtB15 : ∀ u, Meets («int.__format__» ⟨[.int (15 : Int) t, .str (PySem.Str.ofString "b") u], []⟩) (fun _ R s => ∀ t' k, R (.ok (.ret (.str (binT 15) t'))) { s with toks := k }) := by
  kxf_run_i
theorem fmtB16 : ∀ u, Meets («int.__format__» ⟨[.int (16 : Int) t, .str (PySem.Str.ofString "b") u], []⟩) (fun _ R s => ∀ t' k, R (.ok (.ret (.str (binT 16) t'))) { s with toks := k }) := by
  kxf_run_i
theorem fmtB17 : ∀ u, Meets («int.__format__» ⟨[.int (17 : Int) t, .str (PySem.Str.ofString "b") u], []⟩) (fun _ R s => ∀ t' k, R (.ok (.ret (.str (binT 17) t'))) { s with toks := k }) := by
  kxf_run_i
theorem fmtB18 : ∀ u, Meets («int.__format__» ⟨[.int (18 : Int) t, .str (PySem.Str.ofString "b") u], []⟩) (fun _ R s => ∀ t' k, R (.ok (.ret (.str (binT 18) t'))) { s with toks := k }) := by
  kxf_run_i
theorem fmtB19 : ∀ u, Meets («int.__format__» ⟨[.int (19 : Int) t, .str (PySem.Str.ofString "b") u], []⟩) (fun _ R s => ∀ t' k, R (.ok (.ret (.str (binT 19) t'))) { s with toks := k }) := by
  kxf_run_i
theorem fmtB20 : ∀ u, Meets («int.__format__» ⟨[.int (20 : Int) t, .str (PySem.Str.ofString "b") u], []⟩) (fun _ R s => ∀ t' k, R (.ok (.ret (.str (binT 20) t'))) { s with toks := k }) := by
  kxf_run_i
theorem fmtB21 : ∀ u, Meets («int.__format__» ⟨[.int (21 : Int) t, .str (PySem.Str.ofString "b") u], []⟩) (fun _ R s => ∀ t' k, R (.ok (.ret (.str (binT 21) t'))) { s with toks := k }) := by
  kxf_run_i
theorem fmtB22 : ∀ u, Meets («int.__format__» ⟨[.int (22 : Int) t, .str (PySem.Str.ofString "b") u], []⟩) (fun _ R s => ∀ t' k, R (.ok (.ret (.str (binT 22) t'))) { s with toks := k }) := by
  kxf_run_i
theorem fmtB23 : ∀ u, Meets («int.__format__» ⟨[.int (23 : Int) t, .str (PySem.Str.ofString "b") u], []⟩) (fun _ R s => ∀ t' k, R (.ok (.ret (.str (binT 23) t'))) { s with toks := k }) := by
  kxf_run_i
theorem fmtB24 : ∀ u, Meets («int.__format__» ⟨[.int (24 : Int) t, .str (PySem.Str.ofString "b") u], []⟩) (fun _ R s => ∀ t' k, R (.ok (.ret (.str (binT 24) t'))) { s with toks := k }) := by
  kxf_run_i
theorem fmtB25 : ∀ u, Meets («int.__format__» ⟨[.int (25 : Int) t, .str (PySem.Str.ofString "b") u], []⟩) (fun _ R s => ∀ t' k, R (.ok (.ret (.str (binT 25) t'))) { s with toks := k }) := by
  kxf_run_i
theorem fmtB26 : ∀ u, Meets («int.__format__» ⟨[.int (26 : Int) t, .str (PySem.Str.ofString "b") u], []⟩) (fun _ R s => ∀ t' k, R (.ok (.ret (.str (binT 26) t'))) { s with toks := k }) := by
  kxf_run_i
theorem fmtB27 : ∀ u, Meets («int.__format__» ⟨[.int (27 : Int) t, .str (PySem.Str.ofString "b") u], []⟩) (fun _ R s => ∀ t' k, R (.ok (.ret (.str (binT 27) t'))) { s with toks := k }) := by
  kxf_run_i
theorem fmtB28 : ∀ u, Meets («int.__format__» ⟨[.int (28 : Int) t, .str (PySem.Str.ofString "b") u], []⟩) (fun _ R s => ∀ t' k, R (.ok (.ret (.str (binT 28) t'))) { s with toks := k }) := by
  kxf_run_i
theorem fmtB29 : ∀ u, Meets («int.__format__» ⟨[.int (29 : Int) t, .str (PySem.Str.ofString "b") u], []⟩) (fun _ R s => ∀ t' k, R (.ok (.ret (.str (binT 29) t'))) { s with toks := k }) := by
  kxf_run_i
theorem fmtB30 : ∀ u, Meets («int.__format__» ⟨[.int (30 : Int) t, .str (PySem.Str.ofString "b") u], []⟩) (fun _ R s => ∀ t' k, R (.ok (.ret (.str (binT 30) t'))) { s with toks := k }) := by
  kxf_run_i
theorem fmtB31 : ∀ u, Meets («int.__format__» ⟨[.int (31 : Int) t, .str (PySem.Str.ofString "b") u], []⟩) (fun _ R s => ∀ t' k, R (.ok (.ret (.str (binT 31) t'))) { s with toks := k }) := by
  kxf_run_i
theorem fmtB {c : Nat} (h : c < 32) : ∀ u, Meets («int.__format__» ⟨[.int (c : Int) t, .str (PySem.Str.ofString "b") u], []⟩) (fun _ R s => ∀ t' k, R (.ok (.ret (.str (binT c) t'))) { s with toks := k }) := by
  match c, h with
  | 0, _ => exact fmtB0
  | 1, _ => exact fmtB1
  | 2, _ => exact fmtB2
  | 3, _ => exact fmtB3
  | 4, _ => exact fmtB4
  | 5, _ => exact fmtB5
  | 6, _ => exact fmtB6
  | 7, _ => exact fmtB7
  | 8, _ => exact fmtB8
  | 9, _ => exact fmtB9
  | 10, _ => exact fmtB10
  | 11, _ => exact fmtB11
  | 12, _ => exact fmtB12
  | 13, _ => exact fmtB13
  | 14, _ => exact fmtB14
  | 15, _ => exact fmtB15
  | 16, _ => exact fmtB16
  | 17, _ => exact fmtB17
  | 18, _ => exact fmtB18
  | 19, _ => exact fmtB19
  | 20, _ => exact fmtB20
  | 21, _ => exact fmtB21
  | 22, _ => exact fmtB22
  | 23, _ => exact fmtB23
  | 24, _ => exact fmtB24
  | 25, _ => exact fmtB25
  | 26, _ => exact fmtB26
  | 27, _ => exact fmtB27
  | 28, _ => exact fmtB28
  | 29, _ => exact fmtB29
  | 30, _ => exact fmtB30
  | 31, _ => exact fmtB31
  | n + 32, h => exact absurd h (by omega)
end
def onesN (c : Nat) : Nat := ((Nat.toDigits 2 c).filter (· == '1')).length
theorem count_ones : ∀ c, c < 32 → Txt.count (binT c) "1" = ((onesN c : Nat) : Int) := by decide +kernel
end DL
set_option Elab.async false
set_option linter.all false
set_option maxRecDepth 100000
set_option maxHeartbeats 2000000
namespace DL
open PySem PySem.Spec L2
open PyProof.Rows hiding St
variable [kf : KF]
section
variable {X : Cx} {O : List Nat} {a b e : Expr} {ta tb te : TE} {fa fb f : F} {pos p p2 p3 p4 p5 : Pos}
/-! ### bits -/
abbrev rOrI : R2 := rI0 fun i j => .int (Builtin.bitOr i j)
def dBor := gI (fun _ _ => true) fun i j => .int (Builtin.bitOr i j)
theorem de_bor (ha : DE X O .rd a ta fa) (hb : DE X O .rd b tb fb) : DE X O .cl (.BinOp a .BitOr b pos) (tOp rOrI ta tb) (fBin dBor fa fb) := de_op op_or opd_I0 ha hb
/-- {e:b}, for small numbers -/
def tFmtB (te : TE) : TE := fun σ H Q => te σ H fun x H1 => ∃ c : Nat, x = .int (c : Int) ∧ c < 32 ∧ Q (.str (binT c)) H1
theorem wp_b (X : Cx) {pins : List (Addr × Obj)} {σ : St} {H : Hp} {s : Shared} {Q : VK} {p6 p7 : Pos} {j : Nat} (I : Inv X pins σ H s) (q : Q (.str "b") H) : wpAny (model X.prog X.w) X.A (eval (.JoinedStr [.Constant (.str "b") j p6] p7) X.env) (EP X pins σ Q) X.xe s := (pe_joined1 (pe_str (X := X))).run pins s σ H Q I q
theorem pe_fmtB {p6 p7 : Pos} {j : Nat} (he : PE X e te) : PE X (.FormattedValue e (-1) (some (.JoinedStr [.Constant (.str "b") j p6] p7)) pos) (tFmtB te) := by
  refine ⟨fun pins s σ H Q I h => ?_⟩
  refine PySem.wpAny_FormattedValue_spec (thn (he.run pins s σ H _ I h) fun v s1 hv => ?_)
  obtain ⟨x, H1, I1, r1, c, rfl, hc, q⟩ := hv
  obtain ⟨t, rfl⟩ := r1
  refine thn (wp_b X (Q := fun v H2 => v = .str "b" ∧ H2 = H1) I1 ⟨rfl, rfl⟩) fun r s2 hr => ?_
  obtain ⟨y, H2, I2, r2, rfl, rfl⟩ := hr
  obtain ⟨t2, rfl⟩ := r2
  refine ⟨_, t2, rfl, ?_⟩
  exact PySem.W.KXf.field_int rfl (by decide +kernel) (by decide +kernel) (fmtB hc) fun t' k => ⟨.str (binT c), _, I2.tok _, ⟨_, rfl⟩, q⟩
def dOnes : PyData → Option PyData
  | .int i => if 0 ≤ i ∧ i < 32 then some (.int ((onesN i.toNat : Nat) : Int)) else none
  | _ => none
theorem de_ones {p6 p7 p8 : Pos} {j j2 : Nat} (he : DE X O .rd e te f)
    (hb : PE X e te → PE X (.Call (.Attribute (.JoinedStr [.FormattedValue e (-1) (some (.JoinedStr [.Constant (.str "b") j p6] p7)) p] p2) "count" p3) [.Constant (.str "1") j2 p8] [] pos) (tBM X.K "str" (fun x xs H Q => ∃ a b, x = .str a ∧ xs = [.str b] ∧ Q (.int (Txt.count a b)) H) (tFmtB te) (tCons (tC (.str "1")) tNil))) :
    DE X O .cl (.Call (.Attribute (.JoinedStr [.FormattedValue e (-1) (some (.JoinedStr [.Constant (.str "b") j p6] p7)) p] p2) "count" p3) [.Constant (.str "1") j2 p8] [] pos) (tBM X.K "str" (fun x xs H Q => ∃ a b, x = .str a ∧ xs = [.str b] ∧ Q (.int (Txt.count a b)) H) (tFmtB te) (tCons (tC (.str "1")) tNil)) (fUn dOnes f) :=
  ⟨hb he.pe, fun ρ σ Hs H d s h Q q => by
    obtain ⟨x, hx, h⟩ := bind_some h
    cases x <;> try (cases h; done)
    rename_i i
    have h : (if 0 ≤ i ∧ i < 32 then some (PyData.int ((onesN i.toNat : Nat) : Int)) else none) = some d := h
    by_cases hc : 0 ≤ i ∧ i < 32
    · rw [if_pos hc] at h
      cases h
      refine he.ev ρ σ Hs H _ s hx _ fun v Hs1 H1 g1 r1 => ?_
      refine ⟨i.toNat, by rw [rd_int r1]; congr 1; omega, by omega, rfl, _, _, rfl, rfl, ?_⟩
      rw [count_ones _ (by omega)]
      exact q _ Hs1 H1 g1 (show R Hs1 _ _ from .int _)
    · rw [if_neg hc] at h
      cases h⟩
/-! ### sorted lists of vectors -/
def rowI : PyData → Option (List Int)
  | .list xs => intsOf xs
  | _ => none
def rowsI : List PyData → Option (List (List Int))
  | [] => some []
  | d :: ds => (rowI d).bind fun v => (rowsI ds).map (v :: ·)
def leV (a b : List Int) : Bool := decide (a ≤ b)
def dSort : PyData → Option PyData
  | .list ds => if catC ds.length 1 = true then (rowsI ds).map fun m => .list ((m.mergeSort leV).map vecD) else none
  | _ => none
theorem intsOf_eq : ∀ {ds : List PyData} {v : List Int}, intsOf ds = some v → ds = v.map PyData.int
  | [], v, h => by
    cases h
    rfl
  | d :: ds, v, h => by
    cases d <;> try (cases h; done)
    rename_i i
    have h : (intsOf ds).map (i :: ·) = some v := h
    obtain ⟨w, hw, rfl⟩ := Option.map_eq_some_iff.mp h
    rw [List.map_cons, intsOf_eq hw]
theorem rowI_eq {d : PyData} {v : List Int} (h : rowI d = some v) : d = vecD v := by
  cases d <;> try (cases h; done)
  rename_i xs
  unfold vecD
  rw [intsOf_eq (show intsOf xs = some v from h)]
theorem rowsI_eq : ∀ {ds : List PyData} {m : List (List Int)}, rowsI ds = some m → ds = m.map vecD
  | [], m, h => by
    cases h
    rfl
  | d :: ds, m, h => by
    obtain ⟨v, hv, h⟩ := bind_some h
    obtain ⟨w, hw, rfl⟩ := Option.map_eq_some_iff.mp h
    rw [List.map_cons, rowI_eq hv, ← rowsI_eq hw]
theorem rowsI_of (m : List (List Int)) : rowsI (m.map vecD) = some m := by
  induction m with
  | nil => rfl
  | cons v m ih =>
    show (rowI (vecD v)).bind _ = _
    rw [show rowI (vecD v) = some v from intsOf_v v, Option.bind_some, ih] <;> rfl
/-- the items of a sorted list, with what they are -/
def srt (vs : List V) (m : List (List Int)) : List (V × List Int) := (vs.zip m).mergeSort fun p q => leV p.2 q.2
def rSortL (K : PySem.W.Frag) : List V → Hp → VK → Prop := fun xs H Q => ∃ (a : Addr) (vs : List V) (m : List (List Int)), xs = [.ref a] ∧ SqL K H a vs ∧ DpAll K H vs (m.map vecD) ∧ ∀ p, H p = none → Q (.ref p) (upd H p (.lst ((srt vs m).map (·.1))))
theorem dpall_zip {K : PySem.W.Frag} {H : Hp} : ∀ {vs : List V} {m : List (List Int)}, DpAll K H vs (m.map vecD) → vs.length = m.length
  | [], [], _ => rfl
  | [], _ :: _, h => by cases h
  | _ :: _, [], h => by cases h
  | _ :: vs, _ :: m, h => by
    cases h with
    | cons _ h => rw [List.length_cons, List.length_cons, dpall_zip h]
open PySem.W PySem.Calls in
theorem cr_sortL (hu : X.A.units + 64 < cLine) : CallR X (.builtin "sorted") (rSortL X.K) := by
  intro pins s σ H xs us Q I r h
  obtain ⟨a, vs, m, rfl, hs, hd, q⟩ := h
  obtain ⟨its, rv, hl, hz⟩ := I.list hs
  rw [Vals.ref1 r]
  have lvm := dpall_zip hd
  have each : ∀ {vs : List V} {us : List Value} {m : List (List Int)}, Vals vs us → DpAll X.K H vs (m.map vecD) → EachIs (fun v (b : V × List Int) => RelV b.1 v) us (vs.zip m) ∧ EachIs (fun v (b : V × List Int) => ∃ as, Reads s.heap v (PyData.list (b.2.map .int)) as) us (vs.zip m) := by
    intro vs us m rv
    induction rv generalizing m with
    | nil =>
      intro hd
      cases m with
      | nil => exact ⟨.nil, .nil⟩
      | cons v m => cases hd
    | cons h1 h2 ih =>
      intro hd
      cases m with
      | nil => cases hd
      | cons v m =>
        cases hd with
        | cons d1 d2 =>
          obtain ⟨e1, e2⟩ := ih d2
          obtain ⟨as, hr⟩ := Dp.reads I _ _ _ d1 h1
          exact ⟨.cons h1 e1, .cons ⟨as, hr⟩ e2⟩
  obtain ⟨e1, e2⟩ := each rv hd
  have hlen : (vs.zip m).length = vs.length := by rw [List.length_zip, lvm, Nat.min_self]
  refine PySem.W.sorted_data (β := V × List Int) (enc := fun b => PyData.list (b.2.map .int)) (R := fun v b => RelV b.1 v) hl.isList e1 e2 (AllAlike.of fun b b' => by
    show alikeAll (b.2.map .int) (b'.2.map .int) = true
    exact alike_ints _ _) (Sortable.others fun b => ⟨(by simp), (by simp)⟩) (by rw [hlen]; exact hz) (fun b _ => by
    have := PySem.W.depth_ints b.2
    simp only [PyData.depth]
    omega) fun out h1 h2 => ?_
  rw [dataLe_rows fun b : V × List Int => b.2] at h2
  have h3 : Vals ((srt vs m).map (·.1)) out := by
    have : ∀ {us : List Value} {bs : List (V × List Int)}, EachIs (fun v (b : V × List Int) => RelV b.1 v) us bs → Vals (bs.map (·.1)) us := by
      intro us bs h
      induction h with
      | nil => exact .nil
      | cons h _ ih => exact .cons h ih
    exact this h2
  obtain ⟨ep, he'⟩ := PyProof.Rows.sortedAll_at s.heap its (List.toArray out)
  refine ⟨.ref _, upd H (s.heap.objs.size + 1) (.lst ((srt vs m).map (·.1))), I.laid (t' := s.toks) (fun _ _ => PyProof.Rows.sortedAll_old) (Nat.le_succ _) ⟨by
    rw [h3.length, h1, hlen]
    exact hz, out, ep, by simpa using h3, by simpa using he'⟩, rfl, q _ (I.hok.fresh (Nat.le_succ _))⟩
theorem ra_zip {k : KF} {H : Hp} : ∀ {vs : List V} {m : List (List Int)}, @RA k H vs (m.map vecD) → ∀ p ∈ vs.zip m, @R k H p.1 (vecD p.2)
  | [], [], _ => fun p hp => by cases hp
  | [], _ :: _, h => by cases h
  | _ :: _, [], h => by cases h
  | v :: vs, w :: m, h => by
    cases h with
    | cons a b =>
      intro p hp
      rcases List.mem_cons.mp hp with rfl | hp
      · exact a
      · exact ra_zip b p hp
theorem ra_of_mem {k : KF} {H : Hp} : ∀ {ps : List (V × List Int)}, (∀ p ∈ ps, @R k H p.1 (vecD p.2)) → @RA k H (ps.map (·.1)) ((ps.map (·.2)).map vecD)
  | [], _ => @RA.nil k _
  | p :: ps, h => @RA.cons k _ _ _ _ _ (h p (List.mem_cons_self ..)) (ra_of_mem fun q hq => h q (List.mem_cons_of_mem _ hq))
theorem srt_snd {vs : List V} {m : List (List Int)} (h : vs.length = m.length) : (srt vs m).map (·.2) = m.mergeSort leV := by
  unfold srt
  rw [List.map_mergeSort (s := leV) (fun _ _ _ _ => rfl), List.map_snd_zip (by omega)]
theorem srt_RA {k : KF} {H : Hp} {vs : List V} {m : List (List Int)} (h : @RA k H vs (m.map vecD)) (hl : vs.length = m.length) : @RA k H ((srt vs m).map (·.1)) ((m.mergeSort leV).map vecD) := by
  rw [← srt_snd hl]
  exact ra_of_mem fun p hp => ra_zip h p ((List.mergeSort_perm _ _).mem_iff.mp hp)
theorem cd_sort : CallD (rSortL KF.K) .ow (g1 dSort) := by
  intro Hs H vs xs z e hv hz Q q
  obtain ⟨x, rfl, hz⟩ := g1_some hz
  obtain ⟨v, rfl, hr⟩ := rdA1 hv
  cases x <;> try (cases hz; done)
  rename_i ds _
  have hz : (if catC ds.length 1 = true then (rowsI ds).map fun m => PyData.list ((m.mergeSort leV).map vecD) else none) = some z := hz
  by_cases hc : catC ds.length 1 = true
  · rw [if_pos hc] at hz
    obtain ⟨m, hm, rfl⟩ := Option.map_eq_some_iff.mp hz
    rw [rowsI_eq hm] at hr
    obtain ⟨a, vs, rfl, p1, r1⟩ := rd_list e hr
    have hl : vs.length = m.length := by rw [r1.length, List.length_map]
    exact ⟨a, vs, m, rfl, p1.sq, RA.dp (r1.mono e), fun p hp => q _ Hs _ (Gr.own e hp) (res_new e hp (srt_RA r1 hl))⟩
  · rw [if_neg hc] at hz
    cases hz
theorem de_sort (hK : X.K = KF.K) (hu : X.A.units + 64 < cLine) (gl : Gl X "sorted") (hm : X.mg "sorted" = none) (ha : DE X O .rd e te f) (hs : starEach [e] X.env = [(false, eval e X.env)] := by rfl) : DE X O .ow (.Call (.Name "sorted" p) [e] [] pos) (tCB (rSortL X.K) (tCons te tNil)) (fFn (g1 dSort) (fConsA f fNilA)) :=
  de_b (cr_sortL hu) (by rw [hK]; exact cd_sort) gl hm (by decide +kernel) (da_cons ha da_nil hs) (he := hs)
theorem de_sortK (hK : X.K = KF.K) (hu : X.A.units + 64 < cLine) (gl : Gl X "sorted") (hm : X.mg "sorted" = none) (ha : DE X O .rd e te f) (hs : starEach [e] X.env = [(false, eval e X.env)] := by rfl) : DE X O .ow (.Call (.Name "sorted" p) [e] [] pos) (tCB (rSortL KF.K) (tCons te tNil)) (fFn (g1 dSort) (fConsA f fNilA)) := by
  have := de_sort (pos := pos) (p := p) hK hu gl hm ha hs
  rw [hK] at this
  exact this
end
end DL
set_option Elab.async false
set_option linter.all false
set_option maxRecDepth 100000
set_option maxHeartbeats 2000000
namespace DL
open PySem PySem.Spec L2
open PyProof.Rows hiding St
variable [kf : KF]
/-! ### x += e, ints -/
section
variable {X : Cx} {m : Md} {OB O : List Nat} {e : Expr} {te : TE} {f : F} {pos : Pos}
def sAug (i : Nat) (g : PyData → PyData → Option PyData) (f : F) : FS := fun ρ => match ρ[i]? with
  | some (some x) => (f ρ).bind fun y => (g x y).map fun z => .nx (ρ.set i (some z))
  | _ => none
theorem ds_aug (i : Nat) {x : Str} {p : Pos} {op : Operator} {r : R2} {g : PyData → PyData → Option PyData} (hN : X.N.Nodup) (ho : PIp X op r) (hg : OpD r .cl g) (h : DE X O .rd e te f) (hO : O.contains i = false := by rfl) (hi : X.N[i]? = some x := by rfl) (hx : Loc X.env.scope x := by first | exact Or.inl rfl | exact Or.inr rfl)
    (hf : X.fn x = true ∨ X.env.scope.names.lookup x = some .local := by first | exact .inl rfl | exact .inr rfl) : DS X m OB O O [i] (.AugAssign (.Name x p) op e pos) (tAug i te r) (sAug i g f) := ⟨ps_aug hN hi hx h.pe ho hf, fun ρ σ Hs0 H0 Hs H D o x hgo q => by
  unfold sAug at hgo
  cases hr : ρ[i]? with
  | none => rw [hr] at hgo; cases hgo
  | some w =>
    rw [hr] at hgo
    cases w with
    | none => cases hgo
    | some d =>
      obtain ⟨y, h1, h2⟩ := bind_some (show (f ρ).bind (fun y => (g d y).map fun z => Out.nx (ρ.set i (some z))) = some o from hgo)
      obtain ⟨z, h3, rfl⟩ := Option.map_eq_some_iff.mp h2
      obtain ⟨v, k1, _, k3⟩ := x.sl.val i d hr
      refine ⟨v, k1, h.ev ρ σ Hs H y x.sl h1 _ fun w Hs1 H1 g1 r1 => ?_⟩
      refine hg Hs1 H1 v w d y z g1.sub (.inl ((k3 hO).mono g1.s)) (r1.rd_mono (.refl g1.sub)) h3 _ fun u Hs2 H2 g2 r2 => ?_
      have x2 := (x.mono g1).mono g2
      exact q _ Hs2 H2 (x2.tgt (js := [i]) (fun j hj => by rw [List.mem_singleton.mp hj]; exact hO) (x2.sl.set hO r2) fun j hj => ⟨List.getElem?_set_ne fun z => hj (by rw [z]; exact List.mem_singleton.mpr rfl), List.getElem?_set_ne fun z => hj (by rw [z]; exact List.mem_singleton.mpr rfl)⟩) .set⟩
def smallC (i j : Int) : Bool := decide (i.natAbs < 2 ^ 60 ∧ j.natAbs < 2 ^ 60)
def dMulS := gI smallC fun i j => .int (i * j)
end
/-! ### three lists of one's own at once -/
structure Own3 (H0 Hs H : Hp) (v : V) (A B C : List PyData) : Prop where
  ex : ∃ (t a b c : Addr) (va vb vc : List V), v = .ref t ∧ Rd H t (.tup [.ref a, .ref b, .ref c]) ∧ H0 a = none ∧ H0 b = none ∧ H0 c = none ∧ Hs a = none ∧ Hs b = none ∧ Hs c = none ∧ a ≠ b ∧ a ≠ c ∧ b ≠ c ∧
    H a = some (.lst va) ∧ H b = some (.lst vb) ∧ H c = some (.lst vc) ∧ RA Hs va A ∧ RA Hs vb B ∧ RA Hs vc C
def sNew3 (i j l : Nat) : FS := fun ρ => some (.nx (((ρ.set i (some (.list []))).set j (some (.list []))).set l (some (.list []))))
/-- x, y, z = [], [], [] -/
theorem ds_new3 {X : Cx} {m : Md} {OB : List Nat} {i j l : Nat} {x y z : Str} {px py pz pt pos p1 p2 p3 : Pos} {kt k2 : Nat} {pt2 : Pos} (hc : X.calm = true) (hN : X.N.Nodup) (hi : X.N[i]? = some x := by rfl) (hj : X.N[j]? = some y := by rfl) (hl : X.N[l]? = some z := by rfl) (hij : i ≠ j := by decide) (hil : i ≠ l := by decide) (hjl : j ≠ l := by decide)
    (hx : X.env.scope.names.lookup x = some .local := by rfl) (hy : X.env.scope.names.lookup y = some .local := by rfl) (hz : X.env.scope.names.lookup z = some .local := by rfl)
    (n1 : starEach [.List [] p1, .List [] p2, .List [] p3] X.env = (false, eval (.List [] p1) X.env) :: starEach [.List [] p2, .List [] p3] X.env := by rfl) (n2 : starEach [.List [] p2, .List [] p3] X.env = (false, eval (.List [] p2) X.env) :: starEach [.List [] p3] X.env := by rfl) (n3 : starEach [.List [] p3] X.env = (false, eval (.List [] p3) X.env) :: starEach [] X.env := by rfl)
    (hw : swappedStores [.Tuple [.Name x px, .Name y py, .Name z pz] kt pt] (.Tuple [.List [] p1, .List [] p2, .List [] p3] k2 pt2) X.env = pure (some [x, y, z]))
    (hs : swapsWithSole [.Tuple [.Name x px, .Name y py, .Name z pz] kt pt] (.Tuple [.List [] p1, .List [] p2, .List [] p3] k2 pt2) pos.line X.env = pure false := by rfl) :
    DS X m OB [] [i, j, l] [i, j, l] (.Assign [.Tuple [.Name x px, .Name y py, .Name z pz] kt pt] (.Tuple [.List [] p1, .List [] p2, .List [] p3] k2 pt2) pos) (tPar3 i j l (tCons (tLst tNil) (tCons (tLst tNil) (tCons (tLst tNil) tNil)))) (sNew3 i j l) :=
  ⟨ps_par3 hc hN hi hj hl hij hil hjl hx hy hz (pa_cons (pe_lst pa_nil) (pa_cons (pe_lst pa_nil) (pa_cons (pe_lst pa_nil) pa_nil n3) n2) n1) hw hs, fun ρ σ Hs0 H0 Hs H D o x hg q => by
    cases hg
    refine ⟨Nat.zero_le _, fun a ha => ⟨Nat.zero_le _, fun b hb => ⟨Nat.zero_le _, fun c hc => ⟨_, _, _, rfl, ?_⟩⟩⟩⟩
    have e1 : Gr Hs H Hs (upd H a (.lst [])) := Gr.own x.sl.sub ha
    have e2 : Gr Hs (upd H a (.lst [])) Hs (upd (upd H a (.lst [])) b (.lst [])) := Gr.own e1.sub hb
    have e3 : Gr Hs (upd (upd H a (.lst [])) b (.lst [])) Hs (upd (upd (upd H a (.lst [])) b (.lst [])) c (.lst [])) := Gr.own e2.sub hc
    have hab : b ≠ a := fun z => by
      rw [z, upd_same] at hb
      cases hb
    have hac : c ≠ a := fun z => by
      rw [z, upd_ne (fun w => hab w.symm), upd_same] at hc
      cases hc
    have hbc : c ≠ b := fun z => by
      rw [z, upd_same] at hc
      cases hc
    have A : upd (upd (upd H a (.lst [])) b (.lst [])) c (.lst []) a = some (.lst []) := by rw [upd_ne (Ne.symm hac), upd_ne (Ne.symm hab), upd_same]
    have B : upd (upd (upd H a (.lst [])) b (.lst [])) c (.lst []) b = some (.lst []) := by rw [upd_ne (Ne.symm hbc), upd_same]
    have C : upd (upd (upd H a (.lst [])) b (.lst [])) c (.lst []) c = some (.lst []) := upd_same
    have na : Hs a = none := Same.free x.sl.sub ha
    have nb : Hs b = none := Same.free e1.sub hb
    have nc : Hs c = none := Same.free e2.sub hc
    have hb0 : H b = none := by
      rwa [upd_ne hab] at hb
    have hc0 : H c = none := by
      rwa [upd_ne hbc, upd_ne hac] at hc
    have g := (e1.trans e2).trans e3
    have vals : ∀ k, (k = i ∨ k = j ∨ k = l) → k < σ.length → ∃ p : Addr, (((σ.set i (some (.ref a))).set j (some (.ref b))).set l (some (.ref c)))[k]? = some (some (.ref p)) ∧ H0 p = none ∧ Hs p = none ∧ upd (upd (upd H a (.lst [])) b (.lst [])) c (.lst []) p = some (.lst []) ∧ (k = i → p = a) ∧ (k = j → p = b) ∧ (k = l → p = c) := fun k hk hlt => by
      rcases hk with rfl | rfl | rfl
      · exact ⟨a, by rw [List.getElem?_set_ne (Ne.symm hil), List.getElem?_set_ne (Ne.symm hij), List.getElem?_set_self hlt], Same.free x.gr.h ha, na, A, fun _ => rfl, fun z => absurd z hij, fun z => absurd z hil⟩
      · exact ⟨b, by rw [List.getElem?_set_ne (Ne.symm hjl), List.getElem?_set_self (by rw [List.length_set]; exact hlt)], Same.free x.gr.h hb0, nb, B, fun z => absurd z (Ne.symm hij), fun _ => rfl, fun z => absurd z hjl⟩
      · exact ⟨c, by rw [List.getElem?_set_self (by rw [List.length_set, List.length_set]; exact hlt)], Same.free x.gr.h hc0, nc, C, fun z => absurd z (Ne.symm hil), fun z => absurd z (Ne.symm hjl), fun _ => rfl⟩
    have dat : ∀ k d, (((ρ.set i (some (PyData.list []))).set j (some (.list []))).set l (some (.list [])))[k]? = some (some d) → k < σ.length ∧ ((k = i ∨ k = j ∨ k = l) → d = .list []) ∧ (¬ (k = i ∨ k = j ∨ k = l) → ρ[k]? = some (some d)) := fun k d hd => by
      have hlt : k < σ.length := by
        have := (List.getElem?_eq_some_iff.mp hd).1
        rw [List.length_set, List.length_set, List.length_set] at this
        rw [x.sl.len]
        exact this
      have hlr : k < ρ.length := by rw [← x.sl.len]; exact hlt
      refine ⟨hlt, fun hk => ?_, fun hk => ?_⟩
      · by_cases h1 : l = k
        · subst h1
          rw [List.getElem?_set_self (by rw [List.length_set, List.length_set]; exact hlr)] at hd
          exact (Option.some.inj (Option.some.inj hd)).symm
        · rw [List.getElem?_set_ne h1] at hd
          by_cases h2 : j = k
          · subst h2
            rw [List.getElem?_set_self (by rw [List.length_set]; exact hlr)] at hd
            exact (Option.some.inj (Option.some.inj hd)).symm
          · rw [List.getElem?_set_ne h2] at hd
            rcases hk with rfl | rfl | rfl
            · rw [List.getElem?_set_self hlr] at hd
              exact (Option.some.inj (Option.some.inj hd)).symm
            · exact absurd rfl h2
            · exact absurd rfl h1
      · rw [List.getElem?_set_ne fun z => hk (.inr (.inr z.symm)), List.getElem?_set_ne fun z => hk (.inr (.inl z.symm)), List.getElem?_set_ne fun z => hk (.inl z.symm)] at hd
        exact hd
    have inO : ∀ k, [i, j, l].contains k = true ↔ (k = i ∨ k = j ∨ k = l) := fun k => by simp
    refine q _ Hs _ ⟨⟨g.sub, by simp only [List.length_set]; exact x.sl.len, fun k d hd => ?_, fun k1 k2 d1 d2 v hn h1 h2 hd1 hd2 hs1 hs2 => ?_⟩, x.gr.trans g, fun k hk d hd => ?_⟩ fun k hk => ?_
    · obtain ⟨hlt, d1, d2⟩ := dat k d hd
      by_cases hk : k = i ∨ k = j ∨ k = l
      · obtain ⟨p, v1, v2, v3, v4, _⟩ := vals k hk hlt
        refine ⟨.ref p, v1, fun _ => ⟨p, [], [], rfl, d1 hk, v3, v4, .nil⟩, fun z => ?_⟩
        rw [(inO k).mpr hk] at z
        cases z
      · obtain ⟨v, k1, _, k3⟩ := x.sl.val k d (d2 hk)
        refine ⟨v, by rw [List.getElem?_set_ne fun z => hk (.inr (.inr z.symm)), List.getElem?_set_ne fun z => hk (.inr (.inl z.symm)), List.getElem?_set_ne fun z => hk (.inl z.symm)]; exact k1, fun z => absurd ((inO k).mp z) hk, fun _ => k3 rfl⟩
    · obtain ⟨t1, _⟩ := dat k1 d1 hd1
      obtain ⟨t2, _⟩ := dat k2 d2 hd2
      obtain ⟨p, v1, _, _, _, v5, v6, v7⟩ := vals k1 ((inO k1).mp h1) t1
      obtain ⟨p', w1, _, _, _, w5, w6, w7⟩ := vals k2 ((inO k2).mp h2) t2
      rw [v1] at hs1
      rw [w1] at hs2
      have ep : p = p' := V.ref.inj ((Option.some.inj (Option.some.inj hs1)).trans (Option.some.inj (Option.some.inj hs2)).symm)
      rcases (inO k1).mp h1 with e1 | e1 | e1 <;> rcases (inO k2).mp h2 with e2 | e2 | e2
      · exact hn (e1.trans e2.symm)
      · exact hab ((w6 e2).symm.trans (ep.symm.trans (v5 e1)))
      · exact hac ((w7 e2).symm.trans (ep.symm.trans (v5 e1)))
      · exact hab ((v6 e1).symm.trans (ep.trans (w5 e2)))
      · exact hn (e1.trans e2.symm)
      · exact hbc ((w7 e2).symm.trans (ep.symm.trans (v6 e1)))
      · exact hac ((v7 e1).symm.trans (ep.trans (w5 e2)))
      · exact hbc ((v7 e1).symm.trans (ep.trans (w6 e2)))
      · exact hn (e1.trans e2.symm)
    · obtain ⟨hlt, _⟩ := dat k d hd
      obtain ⟨p, v1, v2, _⟩ := vals k (by simpa using hk) hlt
      exact ⟨p, v1, v2⟩
    · have h1 : l ≠ k := fun z => hk (by simp [z])
      have h2 : j ≠ k := fun z => hk (by simp [z])
      have h3 : i ≠ k := fun z => hk (by simp [z])
      exact ⟨by rw [List.getElem?_set_ne h1, List.getElem?_set_ne h2, List.getElem?_set_ne h3], by rw [List.getElem?_set_ne h1, List.getElem?_set_ne h2, List.getElem?_set_ne h3]⟩⟩
end DL
set_option Elab.async false
set_option linter.all false
set_option maxRecDepth 100000
namespace DL
open PySem PySem.Spec L2
open PyProof.Rows hiding St
variable [kf : KF]
theorem opd_mulS : OpD (rI CMul fun i j => .int (i * j)) .cl dMulS := opd_I fun i j h => by
  have h := of_decide_eq_true h
  exact .inl (by omega)
/-! ### defs with a result of another kind -/
abbrev RR := Hp → Hp → Hp → V → PyData → Prop
def spR (Rr : RR) (n : Nat) (Fn : List PyData → Option PyData) : Sp := fun vs H Q _ => ∃ (ds : List PyData) (d : PyData) (Hs : Hp), ds.length = n ∧ Same Hs H ∧ RA Hs vs ds ∧ Fn ds = some d ∧ ∀ v Hs' H', Gr Hs H Hs' H' → Rr H Hs' H' v d → Q v H'
theorem spR_len {Rr : RR} {n : Nat} {Fn : List PyData → Option PyData} : ∀ vs H Q E, spR Rr n Fn vs H Q E → vs.length = n := fun vs H Q E h => by
  obtain ⟨ds, d, Hs, h1, _, h2, _⟩ := h
  rw [h2.length, h1]
structure DTl (X : Cx) (Rr : RR) (O : List Nat) (sts : List Stmt) (ts : TS) (G : FS) : Prop where
  ps : PSs X sts ts
  ev : ∀ (ρ : Rho) (σ : St) (Hs0 H0 Hs H : Hp) (D : Ends) (d : PyData), StOK O ρ σ Hs0 H0 Hs H → G ρ = some (.rt d) → (∀ v Hs' H', Gr Hs0 H0 Hs' H' → Rr H0 Hs' H' v d → D.rt v H') → ts D σ H
def noRt (G : FS) : Prop := ∀ ρ d, G ρ ≠ some (.rt d)
section
variable {X : Cx} {Rr : RR} {O O' W : List Nat} {st : Stmt} {rest : List Stmt} {t u : TS} {G G' : FS}
theorem tl_frz (i : Nat) (h : DTl X Rr (del i O) rest t G) : DTl X Rr O rest t G := ⟨h.ps, fun ρ σ Hs0 H0 Hs H D d x hg q => by
  obtain ⟨Hs', x', _⟩ := x.freezeS i
  exact h.ev ρ σ Hs0 H0 Hs' H D d x' hg q⟩
theorem tl_cons (h : DS X .cl [] O O' W st t G) (hr : DTl X Rr O' rest u G') (hn : noRt G) : DTl X Rr O (st :: rest) (tSeq t u) (sSeq G G') := ⟨pss_cons h.ps hr.ps, fun ρ σ Hs0 H0 Hs H D d x hg q => by
  obtain ⟨o1, h1, h2⟩ := bind_some hg
  refine h.ev ρ σ Hs0 H0 Hs H { D with nx := u D } o1 x h1 ?_
  cases o1 with
  | nx ρ' => exact fun σ' Hs' H' x' fx => hr.ev ρ' σ' Hs0 H0 Hs' H' D d x' h2 q
  | rt d => exact absurd h1 (hn _ _)
  | bk ρ' => cases h2
  | ct ρ' => cases h2⟩
end
theorem nr_asg {i : Nat} {f : F} : noRt (sAsg i f) := fun ρ d h => by
  obtain ⟨_, _, e⟩ := Option.map_eq_some_iff.mp h
  cases e
theorem nr_asgG {k : FG} {f : F} : noRt (sAsgG k f) := fun ρ d h => by
  obtain ⟨_, _, e⟩ := bind_some h
  obtain ⟨_, _, e⟩ := Option.map_eq_some_iff.mp e
  cases e
theorem nr_new3 {i j l : Nat} : noRt (sNew3 i j l) := fun ρ d h => by cases h
theorem nr_nil : noRt sNil := fun ρ d h => by cases h
theorem nr_app {i : Nat} {f : F} : noRt (sApp i f) := fun ρ d h => by
  obtain ⟨x, _, h⟩ := bind_some h
  split at h
  · obtain ⟨_, e⟩ := if_some h
    cases e
  · cases h
theorem nr_aug {i : Nat} {g : PyData → PyData → Option PyData} {f : F} : noRt (sAug i g f) := fun ρ d h => by
  unfold sAug at h
  split at h
  · obtain ⟨_, _, e⟩ := bind_some h
    obtain ⟨_, _, e⟩ := Option.map_eq_some_iff.mp e
    cases e
  · cases h
theorem nr_seq {G G' : FS} (h : noRt G) (h' : noRt G') : noRt (sSeq G G') := fun ρ d q => by
  obtain ⟨o, h1, h2⟩ := bind_some q
  cases o with
  | nx ρ' => exact h' _ _ h2
  | rt d => exact h _ _ h1
  | bk _ => cases h2
  | ct _ => cases h2
theorem nr_if {c : FT} {G G' : FS} (h : noRt G) (h' : noRt G') : noRt (sIf c G G') := fun ρ d q => by
  obtain ⟨k, _, q⟩ := bind_some q
  cases k with
  | true => exact h _ _ q
  | false => exact h' _ _ q
theorem dTup_some {xs : List PyData} {d : PyData} (h : dTup xs = some d) : d = .tuple xs := by
  obtain ⟨_, rfl⟩ := if_some (show (if catC xs.length 0 = true then some (PyData.tuple xs) else none) = some d from h)
  rfl
theorem fVar_some {i : Nat} {ρ : Rho} {d : PyData} (h : fVar i ρ = some d) : ρ[i]? = some (some d) := by
  unfold fVar at h
  cases hr : ρ[i]? with
  | none => rw [hr] at h; cases h
  | some y =>
    rw [hr] at h
    have h : y = some d := h
    rw [h]
theorem fConsA_some {f : F} {fs : FA} {ρ : Rho} {ds : List PyData} (h : fConsA f fs ρ = some ds) : ∃ d r, f ρ = some d ∧ fs ρ = some r ∧ ds = d :: r := by
  obtain ⟨d, h1, h2⟩ := bind_some h
  obtain ⟨r, h3, h4⟩ := bind_some (show (fs ρ).bind (fun xs => some (d :: xs)) = some ds from h2)
  cases h4
  exact ⟨d, r, h1, h3, rfl⟩
theorem def_tl {P : Program} {w : World} {K : PySem.W.Frag} {mg : Str → Option Value} {base : Heap} {CX : CXT} {x qual : Str} {st : Stmt} {f : Addr} {fd : FuncData} {N ps : List Str} {k : Nat} {nl : Nat} {Rr : RR} {G : FS} {n : Nat} (F : Fun K x qual st f fd) (S : FnScope N ps (defScope st)) (hn : ps.length = n) (hnl : N.length = nl)
    (none_ok : ∀ ρ ρ', G ρ ≠ some (.nx ρ'))
    (body : ∀ (cdv : Value) (A : Around) (outer : List Env) (s : Shared) (H : Hp) (E : XK), GA k (A.deeper (envOfC qual (defScope st) s.heap.objs.size f cdv)) →
      ∃ t, DTl (cxOf CX P w K mg base N qual (defScope st) f cdv A outer s H E).nox Rr [] (defBody st) t G) : FnG P w K mg base CX (k + 1) f fd ps (spR Rr n (runF nl G)) := by
  subst hn
  subst hnl
  refine fnG_of F S spR_len fun cdv A outer s H vs Q E ga want => ?_
  obtain ⟨t1, h1⟩ := body cdv A outer s H E ga
  obtain ⟨ds, d, Hs, hlen, e, r, hf, q⟩ := want
  refine ⟨t1, h1.ps.nox, ?_⟩
  obtain ⟨o, ho, hd⟩ := bind_some hf
  have ho' : G (ds.map some ++ List.replicate (N.length - ds.length) none) = some o := ho
  cases o with
  | rt d' =>
    cases hd
    exact h1.ev _ _ Hs H Hs H _ d (start_slots e r) ho' q
  | nx ρ' => exact absurd ho' (none_ok _ _)
  | bk _ => cases hd
  | ct _ => cases hd
/-! ### three lists: two stand, one is the caller's -/
def RL3 : RR := fun H0 Hs H v d => ∃ (t : Addr) (x y z : V) (da db dc : PyData), v = .ref t ∧ d = .tuple [da, db, dc] ∧ H t = some (.tup [x, y, z]) ∧ R Hs x da ∧ Res .ow H0 Hs H y db ∧ R Hs z dc
def sRet3 (i j l : Nat) : FS := sRet (fFn dTup (fConsA (fVar i) (fConsA (fVar j) (fConsA (fVar l) fNilA))))
theorem tl_ret3 {X : Cx} {O : List Nat} {s3 : Stmt} {i j l : Nat} (h3 : PS X s3 (tRet (tTup (tCons (tVar i) (tCons (tVar j) (tCons (tVar l) tNil)))))) (hO : O.contains j = true) (hi : O.contains i = false) (hl : O.contains l = false) : DTl X RL3 O [s3] (tRet (tTup (tCons (tVar i) (tCons (tVar j) (tCons (tVar l) tNil))))) (sRet3 i j l) := ⟨pss_one h3, fun ρ σ Hs0 H0 Hs H D d x hg q => by
  obtain ⟨d', hd1, e0⟩ := Option.map_eq_some_iff.mp (show (fFn dTup (fConsA (fVar i) (fConsA (fVar j) (fConsA (fVar l) fNilA))) ρ).map Out.rt = some (.rt d) from hg)
  cases e0
  obtain ⟨xs, hx, hdt⟩ := bind_some hd1
  obtain rfl := dTup_some hdt
  obtain ⟨da, _, ha, hx, e1⟩ := fConsA_some hx
  obtain ⟨db, _, hb, hx, e2⟩ := fConsA_some hx
  obtain ⟨dc, _, hc, hx, e3⟩ := fConsA_some hx
  cases hx
  subst e3
  subst e2
  subst e1
  obtain ⟨va, ka, _, ka3⟩ := x.sl.val i _ (fVar_some ha)
  obtain ⟨vb, kb, kb2, _⟩ := x.sl.val j _ (fVar_some hb)
  obtain ⟨vc, kc, _, kc3⟩ := x.sl.val l _ (fVar_some hc)
  obtain ⟨b, kb4, kb5⟩ := x.new j (by simpa using hO) _ (fVar_some hb)
  refine ⟨va, ka, vb, kb, vc, kc, (by show 3 ≤ sizeLine; decide), fun p hp => ?_⟩
  obtain ⟨a', ws, es, ev, ed, n1, n2, n3⟩ := kb2 hO
  have eb : b = a' := by
    rw [kb] at kb4
    have := Option.some.inj (Option.some.inj kb4)
    rw [ev] at this
    exact (V.ref.inj this).symm
  subst eb
  have hpb : b ≠ p := fun z => by
    rw [z] at n2
    rw [n2] at hp
    cases hp
  exact q _ Hs _ (x.gr.trans (Gr.own x.sl.sub hp)) ⟨p, va, vb, vc, da, db, dc, rfl, rfl, upd_same, ka3 hi, ⟨⟨b, ws, es, ev, ed, n1, by rw [upd_ne hpb]; exact n2, n3⟩, b, ev, kb5⟩, kc3 hl⟩⟩
/-- x, y, z = f(..) -/
theorem ds_call3 {X : Cx} {m : Md} {OB : List Nat} {CX : CXT} {k n : Nat} {f : Addr} {fd : FuncData} {ps : List Str} {Fn : List PyData → Option PyData} {E : XK} {x : Str} {p pos : Pos} {e tg : Expr} {es : List Expr} {t : TA} {fs : FA} {i j l : Nat} {spos : Pos} (F : FnG X.prog X.w X.K X.mg X.base CX k f fd ps (spR RL3 n Fn)) (ga : GA k X.A)
    (hm : X.mg x = some (.ref f)) (hk : PySem.W.keepIn X.K (.ref f) = true) (hb : Binds X.K fd ps []) (hx : Passes CX X E) (ha : DAc X [] (e :: es) t fs) (hlen : (e :: es).length = n) (hfs : ∀ ρ ds, fs ρ = some ds → ds.length = (e :: es).length)
    {kk : FG} {jj : List Nat} (hg2 : DG X [] tg (gTup KF.K 3 (gCons (gName i) (gCons (gName j) (gCons (gName l) gNil)))) kk jj)
    (hij : i ≠ j := by decide) (hjl : j ≠ l := by decide) (hg : Gl X x := by rfl)
    (hdb : (x == ("__debug__" : Str)) = false := by decide) (he : starEach (e :: es) X.env = (false, eval e X.env) :: starEach es X.env := by rfl) (hpl : (backTo pos (starEach es X.env)).any (·.1) = false := by rfl)
    (hs : swapsWithSole [tg] (.Call (.Name x p) (e :: es) [] pos) spos.line X.env = pure false := by rfl) (hw : swappedStores [tg] (.Call (.Name x p) (e :: es) [] pos) X.env = pure none := by rfl)
    (h1 : (assignEach [tg] X.env).map (·.2) = [assign tg X.env] := by rfl) :
    DS X m OB [] [j] [j, i, l] (.Assign [tg] (.Call (.Name x p) (e :: es) [] pos) spos) (tAsg (tCall (spR RL3 n Fn) [] E t) (gTup KF.K 3 (gCons (gName i) (gCons (gName j) (gCons (gName l) gNil))))) (sAsgG (gT [gN i, gN j, gN l]) (fFn Fn fs)) :=
  ⟨ps_asg (pe_callG F ga hg hm hk hb hx ha.pa hdb he hpl) hg2.pg hs hw h1, fun ρ σ Hs0 H0 Hs H D o x hx q => by
    obtain ⟨d, hd, hx⟩ := bind_some hx
    obtain ⟨ρ', h3, rfl⟩ := Option.map_eq_some_iff.mp hx
    obtain ⟨xs, hxs, hd⟩ := bind_some hd
    refine ha.ev ρ σ Hs H xs x.sl hxs _ fun vs Hs1 H1 g1 r1 => ?_
    refine ⟨xs, d, Hs1, (hfs ρ xs hxs).trans hlen, g1.sub, by rw [List.append_nil]; exact r1, hd, fun v Hs2 H2 g2 r2 => ?_⟩
    obtain ⟨t, a, b, c, da, db, dc, rfl, rfl, ht, ra, rb, rc⟩ := r2
    cases h3
    refine ⟨t, [a, b, c], rfl, .inl (.inl ht), rfl, a, [b, c], rfl, b, [c], rfl, c, [], rfl, rfl, ?_⟩
    have x1 := x.mono g1
    have y1 := x1.ow g2 (i := j) rb
    have y2 := y1.del (i := i) ra
    have y3 := y2.del (i := l) rc
    have eO : DL.del l (DL.del i (j :: DL.del j [])) = [j] := by
      have e1 : (j != i) = true := by simpa using Ne.symm hij
      have e2 : (j != l) = true := by simpa using hjl
      simp [DL.del, List.filter, e1, e2]
    rw [eO] at y3
    have fx : Fx [j, i, l] σ (((σ.set j (some b)).set i (some a)).set l (some c)) ρ (((ρ.set j (some db)).set i (some da)).set l (some dc)) := fun k hk => by
      simp only [List.mem_cons, List.not_mem_nil, or_false, not_or] at hk
      obtain ⟨n1, n2, n3⟩ := hk
      exact ⟨by rw [List.getElem?_set_ne (Ne.symm n3), List.getElem?_set_ne (Ne.symm n2), List.getElem?_set_ne (Ne.symm n1)], by rw [List.getElem?_set_ne (Ne.symm n3), List.getElem?_set_ne (Ne.symm n2), List.getElem?_set_ne (Ne.symm n1)]⟩
    have c1 : ((σ.set i (some a)).set j (some b)).set l (some c) = ((σ.set j (some b)).set i (some a)).set l (some c) := by rw [List.set_comm _ _ hij]
    have c2 : ((ρ.set i (some da)).set j (some db)).set l (some dc) = ((ρ.set j (some db)).set i (some da)).set l (some dc) := by rw [List.set_comm _ _ hij]
    show D.nx (((σ.set i (some a)).set j (some b)).set l (some c)) H2
    rw [c1]
    refine q _ Hs2 H2 ?_ ?_
    · show StOK [j] (((ρ.set i (some da)).set j (some db)).set l (some dc)) _ _ _ _ _
      rw [c2]
      exact y3
    · show Fx [j, i, l] σ _ ρ (((ρ.set i (some da)).set j (some db)).set l (some dc))
      rw [c2]
      exact fx⟩
/-! ### fresh results -/
def RZ : RR := fun H0 Hs H v d => R Hs v d ∧ RS (outH H0 Hs) v d
theorem FnG.toZ {P : Program} {w : World} {K : PySem.W.Frag} {mg : Str → Option Value} {base : Heap} {CX : CXT} {k : Nat} {f : Addr} {fd : FuncData} {ps : List Str} {n : Nat} {Fn : List PyData → Option PyData} (F : FnG P w K mg base CX k f fd ps (spR RZ n Fn)) : FnG P w K mg base CX k f fd ps (spZ n Fn) :=
  F.imp fun vs H Q E ⟨ds, d, Hs, h1, h2, h3, h4, h5⟩ => ⟨ds, d, Hs, h1, h2, h3, h4, fun v Hs' H' g r => h5 v Hs' H' g r.1 r.2⟩
section
variable {X : Cx} {O : List Nat} {elt tg iter e : Expr} {ifs : List Expr} {scope : Scope} {own : List (Str × Nat)} {pos p : Pos} {wi : TI} {g : TG} {tt : TT} {te : TE} {k : FG} {t : FT} {el f : F} {src : FA} {js : List Nat}
theorem dz_lcv {vs : List Nat} (hc : X.calm = true) (hN : X.N.Nodup) (h : DLz X O elt tg iter ifs scope own wi g tt te src k t el js) (hv : own.map (·.2) = vs := by rfl) (hs : ∀ x, foldedSetIterable iter X.env x = pure x := by intro _; rfl) : DZ X O (.ListComp elt [⟨tg, iter, ifs, 0⟩] scope pos) (tLc wi g tt te (own.map (·.2))) (fLc src k t el vs) := by
  subst hv
  exact ⟨pe_lc hc hN h.hi.pi h.ok (fun s H C cl fp => (h.hg s H C cl fp).pg) (fun s H C cl fp => (h.ht s H C cl fp).pt) (fun s H C cl fp => (h.he s H C cl fp).pe) hs, fun ρ σ Hs H d s hf =>
    ev_lcZ h.hi.ev (h.hg ({} : Shared) (fun _ => none) 0 [] []).ev (h.ht ({} : Shared) (fun _ => none) 0 [] []).ev (h.he ({} : Shared) (fun _ => none) 0 [] []).ev (lc_js h.hj) s hf⟩
theorem dz_sort (hK : X.K = KF.K) (hu : X.A.units + 64 < cLine) (gl : Gl X "sorted") (hm : X.mg "sorted" = none) (ha : DZ X O e te f) (hs : starEach [e] X.env = [(false, eval e X.env)] := by rfl) (hpl : (backTo pos (starEach [] X.env)).any (·.1) = false := by rfl) : DZ X O (.Call (.Name "sorted" p) [e] [] pos) (tCB (rSortL KF.K) (tCons te tNil)) (fFn (g1 dSort) (fConsA f fNilA)) :=
  ⟨by rw [← hK]; exact pe_callB (cr_sortL hu) gl hm (by decide +kernel) (pa_cons ha.pe pa_nil hs) (by decide) (by decide) hs hpl, fun ρ σ Hs H d s h Q q => by
    obtain ⟨xs, hxs, h⟩ := bind_some h
    obtain ⟨x, _, hx, hn, rfl⟩ := fConsA_some hxs
    cases hn
    have h : dSort x = some d := h
    refine ha.ev ρ σ Hs H x s hx _ fun v Hs1 H1 g1 r1 z1 => ?_
    cases x <;> try (cases h; done)
    rename_i ds _
    have h : (if catC ds.length 1 = true then (rowsI ds).map fun m => PyData.list ((m.mergeSort leV).map vecD) else none) = some d := h
    by_cases hc : catC ds.length 1 = true
    · rw [if_pos hc] at h
      obtain ⟨m, hm, rfl⟩ := Option.map_eq_some_iff.mp h
      rw [rowsI_eq hm] at r1 z1
      have hz1 : ∃ a vs, v = .ref a ∧ outH H Hs1 a = some (.lst vs) ∧ RSA (outH H Hs1) vs (m.map vecD) := by
        cases z1 with
        | lst p r => exact ⟨_, _, rfl, p.elim id fun z => Bool.noConfusion (show false = true from z.1), r⟩
      obtain ⟨a, vs, rfl, pa, rz⟩ := hz1
      have pa1 := (outH_some pa).2
      have r2 : RA Hs1 vs (m.map vecD) := (RSA.up rz).mono outH_sub
      have hl : vs.length = m.length := by rw [r2.length, List.length_map]
      refine ⟨a, vs, m, rfl, (ls_of (g1.sub _ _ pa1)).sq, RA.dp (r2.mono g1.sub), fun p hp => ?_⟩
      have nH : H p = none := Same.free g1.h hp
      have nHs : Hs1 p = none := Same.free g1.sub hp
      obtain ⟨g', r', z'⟩ := own_stand (g1.trans (Gr.own g1.sub hp)) nH nHs upd_same (srt_RA r2 hl) (@RA.mono kS _ _ (outH_mono (same_new nHs)) _ _ (srt_RA (k := kS) rz hl))
      exact q _ _ _ g' r' z'
    · rw [if_neg hc] at h
      cases h⟩
end
/-- x = e, fresh; return (x, e'), e' fresh -/
def sRetZ (i : Nat) (f f' : F) : FS := sSeq (sAsg i f) (sRet (fFn dTup (fConsA (fVar i) (fConsA f' fNilA))))
theorem tl_zt {X : Cx} {i : Nat} {s1 s2 : Stmt} {t1 : TS} {f f' : F} {te : TE} {e' : Expr} (h1 : DSz X [] i s1 t1 f) (h2 : DZ X [] e' te f') (hs : PE X e' te → PS X s2 (tRet (tTup (tCons (tVar i) (tCons te tNil))))) : DTl X RZ [] [s1, s2] (tSeq t1 (tRet (tTup (tCons (tVar i) (tCons te tNil))))) (sRetZ i f f') := ⟨pss_cons h1.ps (pss_one (hs h2.pe)), fun ρ σ Hs0 H0 Hs H D d x hg q => by
  obtain ⟨o1, ho1, hg⟩ := bind_some hg
  obtain ⟨d1, hd1, rfl⟩ := Option.map_eq_some_iff.mp ho1
  obtain ⟨tf, rfl, hev⟩ := h1.ev
  refine hev ρ σ Hs H d1 x.sl hd1 _ fun v Hs1 H1 g1 r1 z1 => ?_
  have x1 : StOK [] (ρ.set i (some d1)) (σ.set i (some v)) Hs0 H0 Hs1 H1 := (x.mono g1).del (i := i) r1
  obtain ⟨d', hd', e0⟩ := Option.map_eq_some_iff.mp (show (fFn dTup (fConsA (fVar i) (fConsA f' fNilA)) (ρ.set i (some d1))).map Out.rt = some (.rt d) from hg)
  cases e0
  obtain ⟨xs, hx, hdt⟩ := bind_some hd'
  obtain rfl := dTup_some hdt
  obtain ⟨da, _, ha, hx, e1⟩ := fConsA_some hx
  obtain ⟨db, _, hb, hx, e2⟩ := fConsA_some hx
  cases hx
  subst e2
  subst e1
  have hi := fVar_some ha
  have hl : i < ρ.length := by
    have := (List.getElem?_eq_some_iff.mp hi).1
    rwa [List.length_set] at this
  rw [List.getElem?_set_self hl] at hi
  obtain rfl := Option.some.inj (Option.some.inj hi)
  refine ⟨v, List.getElem?_set_self (by rw [x.sl.len]; exact hl), ?_⟩
  refine h2.ev _ _ Hs1 H1 db x1.sl hb _ fun v2 Hs2 H2 g2 r2 z2 => ⟨(by show 2 ≤ sizeLine; decide), fun p hp => ?_⟩
  have g12 := g1.trans g2
  have gt := x.gr.trans g12
  have n2 : Hs2 p = none := Same.free g12.sub hp
  have nH0 : H0 p = none := Same.free gt.h hp
  have w1 : RS (outH H0 (upd Hs2 p (.tup [v, v2]))) v d1 := @R.mono kS _ _ ((outH_base x.gr.h).trans (outH_mono (g2.s.trans (same_new n2)))) _ _ z1
  have w2 : RS (outH H0 (upd Hs2 p (.tup [v, v2]))) v2 db := @R.mono kS _ _ ((outH_base (x.gr.h.trans g1.h)).trans (outH_mono (same_new n2))) _ _ z2
  refine q _ (upd Hs2 p (.tup [v, v2])) _ (gt.trans (Gr.new g12.sub hp)) ⟨.tup (.inl upd_same) (.cons (r1.mono (g2.s.trans (same_new n2))) (.cons (r2.mono (same_new n2)) .nil)), ?_⟩
  exact @R.tup kS _ _ _ _ (.inl (by rw [outH_of nH0, upd_same])) (@RA.cons kS _ _ _ _ _ w1 (@RA.cons kS _ _ _ _ _ w2 (@RA.nil kS _)))⟩
end DL
set_option Elab.async false
set_option linter.all false
set_option maxRecDepth 100000
namespace DL
open PySem PySem.Spec L2
open PyProof.Rows hiding St
variable [kf : KF]
theorem nr_loop {k : FG} {B : FS} (h : noRt B) : ∀ (ds : List PyData) (ρ : Rho) (d : PyData), loopF k B ds ρ ≠ some (.rt d)
  | [], ρ, d => fun q => by cases q
  | x :: ds, ρ, d => fun q => by
    obtain ⟨ρ1, _, q⟩ := bind_some q
    obtain ⟨o, h1, q⟩ := bind_some q
    cases o with
    | nx ρ2 => exact nr_loop h ds ρ2 d q
    | ct ρ2 => exact nr_loop h ds ρ2 d q
    | bk ρ2 => cases q
    | rt v => exact h _ _ h1
theorem nr_for {src : FA} {k : FG} {B : FS} (h : noRt B) : noRt (sFor src k B) := fun ρ d q => by
  obtain ⟨ds, _, q⟩ := bind_some q
  exact nr_loop h ds ρ d q
section
variable {X : Cx} {O : List Nat} {a b : Expr} {ta tb : TE} {fa fb : F} {pos : Pos}
theorem dt_inK (hu : X.A.units + 65 < cLine) (hK : X.K = KF.K) (ha : DE X O .rd a ta fa) (hb : DE X O .rd b tb fb) (hm : behindInMarks .In b = false := by rfl) : DT X O (.Compare a [.In] [b] pos) (tTest (tOp (rInD KF.K) ta tb)) (tV (fBin dIn fa fb)) := by
  rw [← hK]
  exact dt_cmpR (op_inD hu) (by rw [hK]; exact opd_in) ha hb hm
theorem dt_notinK (hu : X.A.units + 65 < cLine) (hK : X.K = KF.K) (ha : DE X O .rd a ta fa) (hb : DE X O .rd b tb fb) (hm : behindInMarks .NotIn b = false := by rfl) : DT X O (.Compare a [.NotIn] [b] pos) (tTest (tOp (rNotInD KF.K) ta tb)) (tV (fBin dNotIn fa fb)) := by
  rw [← hK]
  exact dt_cmpR (op_notInD hu) (by rw [hK]; exact opd_notin) ha hb hm
end
end DL
set_option Elab.async false
set_option linter.all false
set_option maxRecDepth 100000
namespace DL
open PySem PySem.Spec L2
open PyProof.Rows hiding St
variable [kf : KF]
/-! ### a fresh pair of lists, which are not the same -/
def Two (v : V) (d : PyData) (Hs : Hp) : Prop := (∃ xs ys, d = .tuple [.list xs, .list ys]) → ∃ t v1 v2, v = .ref t ∧ Hs t = some (.tup [v1, v2]) ∧ v1 ≠ v2
theorem Two.mono {v : V} {d : PyData} {Hs Hs' : Hp} (e : Same Hs Hs') (h : Two v d Hs) : Two v d Hs' := fun q => by
  obtain ⟨t, v1, v2, h1, h2, h3⟩ := h q
  exact ⟨t, v1, v2, h1, e _ _ h2, h3⟩
def RZ2 : RR := fun H0 Hs H v d => R Hs v d ∧ RS (outH H0 Hs) v d ∧ Two v d Hs
theorem FnG.un2 {P : Program} {w : World} {K : PySem.W.Frag} {mg : Str → Option Value} {base : Heap} {CX : CXT} {k : Nat} {f : Addr} {fd : FuncData} {ps : List Str} {n : Nat} {Fn : List PyData → Option PyData} (F : FnG P w K mg base CX k f fd ps (spR RZ2 n Fn)) : FnG P w K mg base CX k f fd ps (spF n .cl Fn) :=
  F.imp fun vs H Q E ⟨ds, d, Hs, h1, h2, h3, h4, h5⟩ => ⟨ds, d, Hs, h1, h2, h3, h4, fun v Hs' H' g r => h5 v Hs' H' g r.1⟩
theorem tl_zt2 {X : Cx} {i : Nat} {s1 s2 : Stmt} {t1 : TS} {f f' : F} {te : TE} {e' : Expr} (h1 : DSz X [] i s1 t1 f) (h2 : DZ X [] e' te f') (hs : PE X e' te → PS X s2 (tRet (tTup (tCons (tVar i) (tCons te tNil))))) : DTl X RZ2 [] [s1, s2] (tSeq t1 (tRet (tTup (tCons (tVar i) (tCons te tNil))))) (sRetZ i f f') := ⟨pss_cons h1.ps (pss_one (hs h2.pe)), fun ρ σ Hs0 H0 Hs H D d x hg q => by
  obtain ⟨o1, ho1, hg⟩ := bind_some hg
  obtain ⟨d1, hd1, rfl⟩ := Option.map_eq_some_iff.mp ho1
  obtain ⟨tf, rfl, hev⟩ := h1.ev
  refine hev ρ σ Hs H d1 x.sl hd1 _ fun v Hs1 H1 g1 r1 z1 => ?_
  have x1 : StOK [] (ρ.set i (some d1)) (σ.set i (some v)) Hs0 H0 Hs1 H1 := (x.mono g1).del (i := i) r1
  obtain ⟨d', hd', e0⟩ := Option.map_eq_some_iff.mp (show (fFn dTup (fConsA (fVar i) (fConsA f' fNilA)) (ρ.set i (some d1))).map Out.rt = some (.rt d) from hg)
  cases e0
  obtain ⟨xs, hx, hdt⟩ := bind_some hd'
  obtain rfl := dTup_some hdt
  obtain ⟨da, _, ha, hx, e1⟩ := fConsA_some hx
  obtain ⟨db, _, hb, hx, e2⟩ := fConsA_some hx
  cases hx
  subst e2
  subst e1
  have hi := fVar_some ha
  have hl : i < ρ.length := by
    have := (List.getElem?_eq_some_iff.mp hi).1
    rwa [List.length_set] at this
  rw [List.getElem?_set_self hl] at hi
  obtain rfl := Option.some.inj (Option.some.inj hi)
  refine ⟨v, List.getElem?_set_self (by rw [x.sl.len]; exact hl), ?_⟩
  refine h2.ev _ _ Hs1 H1 db x1.sl hb _ fun v2 Hs2 H2 g2 r2 z2 => ⟨(by show 2 ≤ sizeLine; decide), fun p hp => ?_⟩
  have g12 := g1.trans g2
  have gt := x.gr.trans g12
  have n2 : Hs2 p = none := Same.free g12.sub hp
  have nH0 : H0 p = none := Same.free gt.h hp
  have w1 : RS (outH H0 (upd Hs2 p (.tup [v, v2]))) v d1 := @R.mono kS _ _ ((outH_base x.gr.h).trans (outH_mono (g2.s.trans (same_new n2)))) _ _ z1
  have w2 : RS (outH H0 (upd Hs2 p (.tup [v, v2]))) v2 db := @R.mono kS _ _ ((outH_base (x.gr.h.trans g1.h)).trans (outH_mono (same_new n2))) _ _ z2
  refine q _ (upd Hs2 p (.tup [v, v2])) _ (gt.trans (Gr.new g12.sub hp)) ⟨.tup (.inl upd_same) (.cons (r1.mono (g2.s.trans (same_new n2))) (.cons (r2.mono (same_new n2)) .nil)), ?_, ?_⟩
  · exact @R.tup kS _ _ _ _ (.inl (by rw [outH_of nH0, upd_same])) (@RA.cons kS _ _ _ _ _ w1 (@RA.cons kS _ _ _ _ _ w2 (@RA.nil kS _)))
  · rintro ⟨xs, ys, e⟩
    cases e
    have a1 : ∃ a vs, v = .ref a ∧ outH H Hs1 a = some (.lst vs) := by
      cases z1 with
      | lst p r => exact ⟨_, _, rfl, p.elim id fun z => Bool.noConfusion (show false = true from z.1)⟩
    have a2 : ∃ a vs, v2 = .ref a ∧ outH H1 Hs2 a = some (.lst vs) := by
      cases z2 with
      | lst p r => exact ⟨_, _, rfl, p.elim id fun z => Bool.noConfusion (show false = true from z.1)⟩
    obtain ⟨a, va, rfl, ka⟩ := a1
    obtain ⟨b, vb, rfl, kb⟩ := a2
    refine ⟨p, _, _, rfl, upd_same, fun z => ?_⟩
    obtain rfl := V.ref.inj z
    have k1 := g1.sub _ _ (outH_some ka).2
    rw [(outH_some kb).1] at k1
    cases k1⟩
/-- an expression whose value is such a pair -/
structure DY (X : Cx) (O : List Nat) (e : Expr) (te : TE) (f : F) : Prop where
  pe : PE X e te
  ev : ∀ (ρ : Rho) (σ : St) (Hs H : Hp) (d : PyData), Slots O ρ σ Hs H → f ρ = some d → ∀ Q : VK, (∀ v Hs' H', Gr Hs H Hs' H' → R Hs' v d → RS (outH H Hs') v d → Two v d Hs' → Q v H') → te σ H Q
theorem dy_call {X : Cx} {O : List Nat} {CX : CXT} {k n : Nat} {f : Addr} {fd : FuncData} {ps : List Str} {Fn : List PyData → Option PyData} {E : XK} {x : Str} {p pos : Pos} {e : Expr} {es : List Expr} {t : TA} {fs : FA} (F : FnG X.prog X.w X.K X.mg X.base CX k f fd ps (spR RZ2 n Fn)) (ga : GA k X.A)
    (hm : X.mg x = some (.ref f)) (hk : PySem.W.keepIn X.K (.ref f) = true) (hb : Binds X.K fd ps []) (hx : Passes CX X E) (ha : DAc X O (e :: es) t fs) (hlen : (e :: es).length = n := by rfl) (hfs : ∀ ρ ds, fs ρ = some ds → ds.length = (e :: es).length) (hg : Gl X x := by rfl)
    (hdb : (x == ("__debug__" : Str)) = false := by decide) (he : starEach (e :: es) X.env = (false, eval e X.env) :: starEach es X.env := by rfl) (hpl : (backTo pos (starEach es X.env)).any (·.1) = false := by rfl) : DY X O (.Call (.Name x p) (e :: es) [] pos) (tCall (spR RZ2 n Fn) [] E t) (fFn Fn fs) :=
  ⟨pe_callG F ga hg hm hk hb hx ha.pa hdb he hpl, fun ρ σ Hs H d s h Q q => by
    obtain ⟨xs, hxs, h⟩ := bind_some h
    refine ha.ev ρ σ Hs H xs s hxs _ fun vs Hs1 H1 g1 r1 => ?_
    refine ⟨xs, d, Hs1, (hfs ρ xs hxs).trans hlen, g1.sub, ?_, h, fun v Hs2 H2 g2 r2 => q v Hs2 H2 (g1.trans g2) r2.1 (@R.mono kS _ _ (outH_base g1.h) _ _ r2.2.1) r2.2.2⟩
    rw [List.append_nil]
    exact r1⟩
structure FrSt2 (O : List Nat) (i : Nat) (Wd : List Nat) (ρ : Rho) (σ : St) (Hb Hc Hs H : Hp) : Prop extends FrSt O i Wd ρ σ Hb Hc Hs H where
  two : ∀ d, ρ[i]? = some (some d) → ∃ v, σ[i]? = some (some v) ∧ Two v d Hs
def SemF2 (m : Md) (OB O O' : List Nat) (i : Nat) (Wd W : List Nat) (ts : TS) (G : FS) : Prop := ∀ (ρ0 ρ : Rho) (σ0 σ : St) (Hs0 H0 Hb Hc Hs H : Hp) (D : Ends) (o : Out), Gr Hs0 H0 Hb Hc → FrSt2 O i Wd ρ σ Hb Hc Hs H → Fx (i :: Wd) σ0 σ ρ0 ρ → G ρ = some o → Post m OB O' (i :: Wd ++ W) σ0 ρ0 Hs0 H0 D o → ts D σ H
structure DF2 (X : Cx) (m : Md) (OB O O' : List Nat) (i : Nat) (Wd W : List Nat) (st : List Stmt) (ts : TS) (G : FS) : Prop where
  ps : PSs X st ts
  ev : SemF2 m OB O O' i Wd W ts G
section
variable {X : Cx} {m : Md} {OB O O' O'' W W' Wd : List Nat} {i : Nat} {st : Stmt} {rest : List Stmt} {t u : TS} {G G' : FS}
theorem d2_cons (h : DS X m OB O O' W st t G) (hr : DF2 X m OB O' O'' i (Wd ++ W) W' rest u G') (hi : W.contains i = false := by rfl) : DF2 X m OB O O'' i Wd (W ++ W') (st :: rest) (tSeq t u) (sSeq G G') := ⟨pss_cons h.ps hr.ps, fun ρ0 ρ σ0 σ Hs0 H0 Hb Hc Hs H D o g x fx hg q => by
  obtain ⟨o1, h1, h2⟩ := bind_some hg
  have gb : Gr Hb Hc Hs H := x.st.gr
  have niW : i ∉ W := fun z => by
    rw [mem_contains z] at hi
    cases hi
  have low : Gr Hs0 H0 Hs (joinH Hc Hs) := g.trans (gr_join gb)
  have fxx : ∀ {σ' : St} {ρ' : Rho}, Fx W σ σ' ρ ρ' → Fx (i :: (Wd ++ W)) σ0 σ' ρ0 ρ' := fun f => (fx.app f).mono fun j z => by
    rcases List.mem_append.mp z with z | z
    · rcases List.mem_cons.mp z with z | z
      · exact List.mem_cons.mpr (.inl z)
      · exact List.mem_cons_of_mem _ (List.mem_append_left _ z)
    · exact List.mem_cons_of_mem _ (List.mem_append_right _ z)
  have sub : ∀ {j : Nat}, j ∈ i :: (Wd ++ W) → j ∈ i :: Wd ++ (W ++ W') := fun z => by
    rcases List.mem_cons.mp z with z | z
    · exact List.mem_cons.mpr (.inl z)
    · refine List.mem_cons_of_mem _ ?_
      rcases List.mem_append.mp z with z | z
      · exact List.mem_append_left _ z
      · exact List.mem_append_right _ (List.mem_append_left _ z)
  refine h.ev ρ σ Hs (joinH Hc Hs) Hs H { D with nx := u D } o1 (x.st.rebase gb (.refl _)) h1 ?_
  cases o1 with
  | nx ρ' =>
    refine fun σ' Hs' H' x' f' => hr.ev ρ0 ρ' σ0 σ' Hs0 H0 Hb Hc Hs' H' D o g ⟨⟨StOK.unbase gb x', fun d hd => ?_, fun k hk hkW d hd => ?_⟩, fun d hd => ?_⟩ (fxx f') h2 ?_
    · obtain ⟨e1, e2⟩ := f' i niW
      rw [e2] at hd
      obtain ⟨v, k1, k2⟩ := x.fr d hd
      exact ⟨v, by rw [e1]; exact k1, @R.mono kS _ _ (outH_mono x'.gr.s) _ _ k2⟩
    · obtain ⟨e1, e2⟩ := f' k fun z => hkW (List.mem_append_right _ z)
      rw [e2] at hd
      obtain ⟨v, k1, k2⟩ := x.old k hk (fun z => hkW (List.mem_append_left _ z)) d hd
      exact ⟨v, by rw [e1]; exact k1, k2⟩
    · obtain ⟨e1, e2⟩ := f' i niW
      rw [e2] at hd
      obtain ⟨v, k1, k2⟩ := x.two d hd
      exact ⟨v, by rw [e1]; exact k1, k2.mono x'.gr.s⟩
    · have ass : ∀ j, j ∈ i :: (Wd ++ W) ++ W' → j ∈ i :: Wd ++ (W ++ W') := fun j z => by
        rcases List.mem_append.mp z with z | z
        · exact sub z
        · exact List.mem_cons_of_mem _ (List.mem_append_right _ (List.mem_append_right _ z))
      exact q.mono ass
  | rt d =>
    cases h2
    exact fun v Ks K gr r => q v Ks K (low.trans gr) (r.back low.h)
  | bk ρ' =>
    cases h2
    exact fun σ' Hs' H' x' f' => q σ' Hs' H' (StOK.base g (StOK.unbase gb x')) ((fxx f').mono fun j z => sub z)
  | ct ρ' =>
    cases h2
    exact fun σ' Hs' H' x' f' => q σ' Hs' H' (StOK.base g (StOK.unbase gb x')) ((fxx f').mono fun j z => sub z)⟩
/-- x = (such a pair), then the rest -/
theorem d2_asg {f : F} {e : Expr} {te : TE} {x : Str} {p pos : Pos} (hN : X.N.Nodup) (h : DY X [] e te f) (hr : DF2 X m OB [] O' i [] W rest u G') (hi : X.N[i]? = some x := by rfl) (hx : Loc X.env.scope x := by first | exact Or.inl rfl | exact Or.inr rfl) (hs : swapsWith e (some (.Name x p)) pos.line X.env = pure false := by rfl)
    (hf : X.fn x = true ∨ X.env.scope.names.lookup x = some .local := by first | exact .inl rfl | exact .inr rfl) : DSs X m OB [] O' (i :: [] ++ W) (.Assign [.Name x p] e pos :: rest) (tSeq (tAsg te (gName i)) u) (sSeq (sAsg i f) G') := ⟨pss_cons (ps_set hN hi hx h.pe hs hf) hr.ps, fun ρ σ Hs0 H0 Hs H D o x hg q => by
  obtain ⟨o1, h1, h2⟩ := bind_some hg
  obtain ⟨d, hd, rfl⟩ := Option.map_eq_some_iff.mp h1
  refine h.ev ρ σ Hs H d x.sl hd _ fun v Hs1 H1 g1 r1 z1 w1 => ?_
  have x1 : StOK [] (ρ.set i (some d)) (σ.set i (some v)) Hs H Hs1 H1 := by
    have y : StOK [] ρ σ Hs H Hs H := ⟨x.sl, .refl x.sl.sub, fun j hj => absurd hj List.not_mem_nil⟩
    exact (y.mono g1).del (i := i) r1
  have at_i : ∀ d', (ρ.set i (some d))[i]? = some (some d') → d' = d ∧ (σ.set i (some v))[i]? = some (some v) := fun d' hd' => by
    have hl : i < ρ.length := by
      have := (List.getElem?_eq_some_iff.mp hd').1
      rwa [List.length_set] at this
    rw [List.getElem?_set_self hl] at hd'
    exact ⟨(Option.some.inj (Option.some.inj hd')).symm, List.getElem?_set_self (by rw [x.sl.len]; exact hl)⟩
  refine hr.ev ρ _ σ _ Hs0 H0 Hs H Hs1 H1 D o x.gr ⟨⟨x1, fun d' hd' => ?_, fun k hk _ d' hd' => ?_⟩, fun d' hd' => ?_⟩ .set h2 q
  · obtain ⟨rfl, e⟩ := at_i d' hd'
    exact ⟨v, e, z1⟩
  · rw [List.getElem?_set_ne (fun z => hk z.symm)] at hd' ⊢
    obtain ⟨w, k1, _, k3⟩ := x.sl.val k d' hd'
    exact ⟨w, k1, k3 rfl⟩
  · obtain ⟨rfl, e⟩ := at_i d' hd'
    exact ⟨v, e, w1⟩⟩
end
end DL
set_option Elab.async false
set_option linter.all false
set_option maxRecDepth 100000
set_option maxHeartbeats 1000000
namespace DL
open PySem PySem.Spec L2
open PyProof.Rows hiding St
variable [kf : KF]
/-! ### for part in x: for k in range(len(part)): part[k].append(k) -/
abbrev tLenV (ip : Nat) : TE := tCB (rLenD KF.K) (tCons (tVar ip) tNil)
abbrev tAppV (ip j : Nat) : TS := tDrop (tBM KF.K "list" rAppend (tOp (rIx KF.K) (tVar ip) (tVar j)) (tCons (tVar j) tNil))
abbrev tInV (ip j : Nat) : TS := tFor (iRng1 (tCons (tLenV ip) tNil)) (gName j) (tAppV ip j)
abbrev tOutV (i ip j : Nat) : TS := tFor (iTup KF.K (tVar i)) (gName ip) (tInV ip j)
structure RowsAt (K : Hp) (p : Addr) (bs : List Addr) (us : List (List V)) : Prop where
  top : K p = some (.lst (bs.map V.ref))
  len : bs.length = us.length
  le : bs.length ≤ 1000
  row : ∀ k, k < bs.length → K (bs.getD k 0) = some (.lst (us.getD k [])) ∧ (us.getD k []).length ≤ 1000
  inj : ∀ x y, x < bs.length → y < bs.length → bs.getD x 0 = bs.getD y 0 → x = y
  out : ∀ k, k < bs.length → p ≠ bs.getD k 0
theorem in_loop {ip j : Nat} (hij : ip ≠ j) {p : Addr} {bs : List Addr} {us : List (List V)} {σ : St} {K : Hp} {D : Ends} (r : RowsAt K p bs us) (hp : σ[ip]? = some (some (.ref p))) (hj : j < σ.length) (q : ∀ σ', σ'.length = σ.length → (∀ l, l ≠ j → σ'[l]? = σ[l]?) → D.nx σ' (updN K bs us bs.length)) : tInV ip j D σ K := by
  refine ⟨.ref p, hp, p, bs.map V.ref, rfl, .inl (.inl (.inl r.top)), ((bs.map V.ref).length : Int), rfl, by have := r.le; rw [List.length_map]; omega, by have := r.le; rw [List.length_map]; omega, ?_⟩
  rw [List.length_map]
  refine ⟨fun k n σ' K' => n = bs.length - k ∧ k ≤ bs.length ∧ σ'.length = σ.length ∧ (∀ l, l ≠ j → σ'[l]? = σ[l]?) ∧ K' = updN K bs us k, ⟨bs.length, by simp, Nat.zero_le _, rfl, fun _ _ => rfl, rfl⟩, ?_⟩
  rintro k n σ' K' ⟨rfl, hk, hσl, hσ, rfl⟩
  by_cases hlt : k < bs.length
  · refine .inr ⟨by show k < (bs.length : Int).toNat; omega, fun σ'' K'' => σ''.length = σ.length ∧ (∀ l, l ≠ j → σ''[l]? = σ[l]?) ∧ K'' = updN K bs us (k + 1), fun σ'' K'' ⟨h1, h2, h3⟩ => ⟨bs.length - (k + 1), by omega, rfl, by omega, h1, h2, h3⟩, fun xv K' hy => ?_⟩
    obtain ⟨rfl, rfl⟩ := hy
    have hjr : j < σ'.length := by rw [hσl]; exact hj
    have hjl : (σ'.set j (some (V.int (0 + (k : Int)))))[j]? = some (some (V.int (0 + (k : Int)))) := List.getElem?_set_self hjr
    have hi' : (σ'.set j (some (V.int (0 + (k : Int)))))[ip]? = some (some (.ref p)) := by
      rw [List.getElem?_set_ne hij.symm, hσ ip hij]
      exact hp
    obtain ⟨h5, h6⟩ := r.row k hlt
    refine ⟨.ref p, hi', .int (0 + (k : Int)), hjl, ?_⟩
    refine .inl ⟨p, bs.map V.ref, 0 + (k : Int), .ref (bs.getD k 0), rfl, rfl, .inl (.inl (by rw [updN_ne fun l hl => r.out l (by omega)]; exact r.top)), ?_, ?_⟩
    · rw [Int.zero_add]
      refine atI_nat ?_
      rw [List.getElem?_map, getD_get (d := 0) hlt] <;> rfl
    · have at_k : updN K bs us k (bs.getD k 0) = some (.lst (us.getD k [])) := by
        rw [updN_ne fun l hl e => by have := r.inj k l hlt (by omega) e; omega]
        exact h5
      refine ⟨.inl ⟨rfl, _, .inl (.inl at_k)⟩, .int (0 + (k : Int)), hjl, bs.getD k 0, us.getD k [], .int (0 + (k : Int)), rfl, rfl, at_k, Nat.lt_of_le_of_lt h6 (by decide), ?_⟩
      refine ⟨by rw [List.length_set, hσl], fun l hl => by rw [List.getElem?_set_ne (fun z => hl z.symm), hσ l hl], ?_⟩
      rw [Int.zero_add]
      rfl
  · have ek : k = bs.length := by omega
    subst ek
    exact .inl ⟨by show (bs.length : Int).toNat ≤ bs.length; omega, q σ' hσl hσ⟩
theorem out_loop {i ip j : Nat} (hij : ip ≠ j) (hi1 : i ≠ ip) (hi2 : i ≠ j) {t pa pb : Addr} {bs1 bs2 : List Addr} {us1 us2 : List (List V)} {σ : St} {K : Hp} {D : Ends} (ht : K t = some (.tup [.ref pa, .ref pb])) (ra : RowsAt K pa bs1 us1) (rb : RowsAt K pb bs2 us2) (hσ0 : σ[i]? = some (some (.ref t))) (hip : ip < σ.length) (hj : j < σ.length)
    (tn : ∀ k, k < bs1.length → t ≠ bs1.getD k 0) (tn2 : ∀ k, k < bs2.length → t ≠ bs2.getD k 0) (bn : ∀ k, k < bs1.length → pb ≠ bs1.getD k 0) (dis : ∀ x y, x < bs1.length → y < bs2.length → bs1.getD x 0 ≠ bs2.getD y 0)
    (q : ∀ σ', σ'.length = σ.length → (∀ l, l ≠ ip → l ≠ j → σ'[l]? = σ[l]?) → D.nx σ' (updN (updN K bs1 us1 bs1.length) bs2 us2 bs2.length)) : tOutV i ip j D σ K := by
  have ht2 : updN K bs1 us1 bs1.length t = some (.tup [.ref pa, .ref pb]) := by rw [updN_ne fun l hl => tn l hl]; exact ht
  have ht3 : updN (updN K bs1 us1 bs1.length) bs2 us2 bs2.length t = some (.tup [.ref pa, .ref pb]) := by rw [updN_ne fun l hl => tn2 l hl]; exact ht2
  have rb2 : RowsAt (updN K bs1 us1 bs1.length) pb bs2 us2 := ⟨by rw [updN_ne fun l hl => bn l hl]; exact rb.top, rb.len, rb.le, fun k hk => ⟨by rw [updN_ne fun l hl z => dis l k hl hk z.symm]; exact (rb.row k hk).1, (rb.row k hk).2⟩, rb.inj, rb.out⟩
  refine ⟨.ref t, hσ0, t, rfl, ⟨_, .inl (.inl ht)⟩, ?_⟩
  refine ⟨fun k n σ' K' => n = 2 - k ∧ k ≤ 2 ∧ σ'.length = σ.length ∧ (∀ l, l ≠ ip → l ≠ j → σ'[l]? = σ[l]?) ∧ K' = (if k = 0 then K else if k = 1 then updN K bs1 us1 bs1.length else updN (updN K bs1 us1 bs1.length) bs2 us2 bs2.length), ⟨2, rfl, by omega, rfl, fun _ _ _ => rfl, rfl⟩, ?_⟩
  rintro k n σ' K' ⟨rfl, hk, hσl, hσ, hK⟩
  have setip : ∀ x : V, ∀ l, l ≠ ip → (σ'.set ip (some x))[l]? = σ'[l]? := fun x l hl => List.getElem?_set_ne fun z => hl z.symm
  rcases (by omega : k = 0 ∨ k = 1 ∨ k = 2) with rfl | rfl | rfl
  · have hK : K' = K := hK
    subst hK
    refine .inr ⟨⟨_, .ref pa, .inl (.inl ht), rfl⟩, fun σ'' K'' => σ''.length = σ.length ∧ (∀ l, l ≠ ip → l ≠ j → σ''[l]? = σ[l]?) ∧ K'' = updN K' bs1 us1 bs1.length, fun σ'' K'' ⟨h1, h2, h3⟩ => ⟨1, by omega, rfl, by omega, h1, h2, h3⟩, fun xv K2 hy => ?_⟩
    obtain ⟨rfl, hx⟩ := hy
    have := hx _ (.inl (.inl ht))
    obtain rfl : V.ref pa = xv := Option.some.inj this
    refine in_loop hij ra (List.getElem?_set_self (by rw [hσl]; exact hip)) (by rw [List.length_set, hσl]; exact hj) fun σ2 h1 h2 => ⟨by rw [h1, List.length_set, hσl], fun l hl hl2 => by rw [h2 l hl2, setip _ l hl, hσ l hl hl2], rfl⟩
  · have hK : K' = updN K bs1 us1 bs1.length := hK
    subst hK
    refine .inr ⟨⟨_, .ref pb, .inl (.inl ht2), rfl⟩, fun σ'' K'' => σ''.length = σ.length ∧ (∀ l, l ≠ ip → l ≠ j → σ''[l]? = σ[l]?) ∧ K'' = updN (updN K bs1 us1 bs1.length) bs2 us2 bs2.length, fun σ'' K'' ⟨h1, h2, h3⟩ => ⟨0, by omega, rfl, by omega, h1, h2, h3⟩, fun xv K2 hy => ?_⟩
    obtain ⟨rfl, hx⟩ := hy
    have := hx _ (.inl (.inl ht2))
    obtain rfl : V.ref pb = xv := Option.some.inj this
    refine in_loop hij rb2 (List.getElem?_set_self (by rw [hσl]; exact hip)) (by rw [List.length_set, hσl]; exact hj) fun σ2 h1 h2 => ⟨by rw [h1, List.length_set, hσl], fun l hl hl2 => by rw [h2 l hl2, setip _ l hl, hσ l hl hl2], rfl⟩
  · have hK : K' = updN (updN K bs1 us1 bs1.length) bs2 us2 bs2.length := hK
    subst hK
    exact .inl ⟨⟨_, .inl (.inl ht3), Nat.le_refl _⟩, q σ' hσl hσ⟩
open Classical in
/-- what stands, with some fresh lists as they are -/
noncomputable def newH (F : Addr → Prop) (Hb K : Hp) : Hp := fun a => if F a then K a else Hb a
theorem newH_in {F : Addr → Prop} {Hb K : Hp} {a : Addr} (h : F a) : newH F Hb K a = K a := if_pos h
theorem newH_out {F : Addr → Prop} {Hb K : Hp} {a : Addr} (h : ¬ F a) : newH F Hb K a = Hb a := if_neg h
theorem new_ok {F : Addr → Prop} {Hs0 H0 Hb Hc K : Hp} (g : Gr Hs0 H0 Hb Hc) (hF : ∀ a, F a → Hc a = none) (hK : Same Hc K) : Same Hb (newH F Hb K) ∧ Gr Hs0 H0 (newH F Hb K) K := by
  have nf : ∀ a u, Hb a = some u → ¬ F a := fun a u h z => by
    have := hF a z
    rw [g.sub _ _ h] at this
    cases this
  have s1 : Same Hb (newH F Hb K) := fun a u h => by rw [newH_out (nf a u h)]; exact h
  refine ⟨s1, g.s.trans s1, fun a u h => hK _ _ (g.h _ _ h), fun a u h => ?_, fun a h1 h2 => ?_⟩
  · by_cases c : F a
    · rwa [newH_in c] at h
    · rw [newH_out c] at h
      exact hK _ _ (g.sub _ _ h)
  · rw [newH_out fun z => h2 (Same.free g.h (hF a z))]
    exact g.non a h1 h2
end DL
set_option Elab.async false
set_option linter.all false
set_option maxRecDepth 100000
set_option maxHeartbeats 1000000
namespace DL
open PySem PySem.Spec L2
open PyProof.Rows hiding St
variable [kf : KF]
structure At5 (K : Hp) (t pa pb : Addr) (bs1 bs2 : List Addr) (us1 us2 : List (List V)) (ex1 ex2 : List V) : Prop where
  ht : K t = some (.tup [.ref pa, .ref pb])
  ha : K pa = some (.lst (bs1.map V.ref ++ ex1))
  hb : K pb = some (.lst (bs2.map V.ref ++ ex2))
  r1 : ∀ k, k < bs1.length → K (bs1.getD k 0) = some (.lst (us1.getD k [] ++ [.int ((0 + k : Nat) : Int)]))
  r2 : ∀ k, k < bs2.length → K (bs2.getD k 0) = some (.lst (us2.getD k [] ++ [.int ((0 + k : Nat) : Int)]))
section
variable {K K' : Hp} {t pa pb : Addr} {bs1 bs2 : List Addr} {us1 us2 : List (List V)} {ex1 ex2 : List V}
theorem At5.mono (e : Same K K') (x : At5 K t pa pb bs1 bs2 us1 us2 ex1 ex2) : At5 K' t pa pb bs1 bs2 us1 us2 ex1 ex2 := ⟨e _ _ x.ht, e _ _ x.ha, e _ _ x.hb, fun k h => e _ _ (x.r1 k h), fun k h => e _ _ (x.r2 k h)⟩
theorem At5.upA (x : At5 K t pa pb bs1 bs2 us1 us2 ex1 ex2) (ex : List V) (h1 : t ≠ pa) (h2 : pb ≠ pa) (h3 : ∀ k, k < bs1.length → pa ≠ bs1.getD k 0) (h4 : ∀ k, k < bs2.length → pa ≠ bs2.getD k 0) : At5 (upd K pa (.lst (bs1.map V.ref ++ ex))) t pa pb bs1 bs2 us1 us2 ex ex2 :=
  ⟨by rw [upd_ne h1]; exact x.ht, upd_same, by rw [upd_ne h2]; exact x.hb, fun k h => by rw [upd_ne (h3 k h).symm]; exact x.r1 k h, fun k h => by rw [upd_ne (h4 k h).symm]; exact x.r2 k h⟩
theorem At5.upB (x : At5 K t pa pb bs1 bs2 us1 us2 ex1 ex2) (ex : List V) (h1 : t ≠ pb) (h2 : pa ≠ pb) (h3 : ∀ k, k < bs1.length → pb ≠ bs1.getD k 0) (h4 : ∀ k, k < bs2.length → pb ≠ bs2.getD k 0) : At5 (upd K pb (.lst (bs2.map V.ref ++ ex))) t pa pb bs1 bs2 us1 us2 ex1 ex :=
  ⟨by rw [upd_ne h1]; exact x.ht, by rw [upd_ne h2]; exact x.ha, upd_same, fun k h => by rw [upd_ne (h3 k h).symm]; exact x.r1 k h, fun k h => by rw [upd_ne (h4 k h).symm]; exact x.r2 k h⟩
/-- the fresh addresses -/
def Fr5 (t pa pb : Addr) (bs1 bs2 : List Addr) (a : Addr) : Prop := a = t ∨ a = pa ∨ a = pb ∨ a ∈ bs1 ∨ a ∈ bs2
theorem getD_mem {bs : List Addr} {k : Nat} (h : k < bs.length) : bs.getD k 0 ∈ bs := by
  rw [List.getD_eq_getElem?_getD, List.getElem?_eq_getElem h]
  exact List.getElem_mem _
theorem At5.R (x : At5 K t pa pb bs1 bs2 us1 us2 ex1 ex2) {Hb : Hp} {A B dx1 dx2 : List PyData} (l1 : bs1.length = A.length) (l1' : us1.length = A.length) (l2 : bs2.length = B.length) (l2' : us2.length = B.length)
    (hA : ∀ k, k < A.length → ∃ ws, A[k]? = some (.list ws) ∧ ∀ H, RA H (us1.getD k []) ws) (hB : ∀ k, k < B.length → ∃ ws, B[k]? = some (.list ws) ∧ ∀ H, RA H (us2.getD k []) ws) (e1 : ∀ H, RA H ex1 dx1) (e2 : ∀ H, RA H ex2 dx2) :
    DL.R (newH (Fr5 t pa pb bs1 bs2) Hb K) (.ref t) (.tuple [.list (appD 0 A ++ dx1), .list (appD 0 B ++ dx2)]) := by
  have q1 : newH (Fr5 t pa pb bs1 bs2) Hb K t = K t := newH_in (.inl rfl)
  have q2 : newH (Fr5 t pa pb bs1 bs2) Hb K pa = K pa := newH_in (.inr (.inl rfl))
  have q3 : newH (Fr5 t pa pb bs1 bs2) Hb K pb = K pb := newH_in (.inr (.inr (.inl rfl)))
  refine .tup (.inl (by rw [q1]; exact x.ht)) (.cons (.lst (ls_of (by rw [q2]; exact x.ha)) (RA.append ?_ (e1 _))) (.cons (.lst (ls_of (by rw [q3]; exact x.hb)) (RA.append ?_ (e2 _))) .nil))
  · refine appD_RA (us := us1) 0 l1 l1' fun k hk => ?_
    obtain ⟨ws, h1, h2⟩ := hA k hk
    exact ⟨ws, h1, by rw [newH_in (.inr (.inr (.inr (.inl (getD_mem (by omega))))))]; exact x.r1 k (by omega), h2 _⟩
  · refine appD_RA (us := us2) 0 l2 l2' fun k hk => ?_
    obtain ⟨ws, h1, h2⟩ := hB k hk
    exact ⟨ws, h1, by rw [newH_in (.inr (.inr (.inr (.inr (getD_mem (by omega))))))]; exact x.r2 k (by omega), h2 _⟩
end
def neB : PyData → Bool
  | .list (_ :: _) => true
  | _ => false
def endOk (A B : List PyData) : Prop := (A.all rowOk = true ∧ B.all rowOk = true) ∧ (A.all neB = true ∧ B.all neB = true) ∧ (A ++ B).Nodup ∧ A.length ≤ 1000 ∧ B.length ≤ 1000
open Classical in
noncomputable def sEnd5 (i ip j : Nat) (Wd : List Nat) (t : FT) (G : FS) : FS := fun ρ => match ρ[i]? with
  | some (some (.tuple [.list A, .list B])) => if (endOk A B ∧ ip < ρ.length ∧ j < ρ.length) ∧ t (((wipeR ρ (ip :: j :: Wd)).set i (some (.tuple [.list (appD 0 A ++ []), .list (appD 0 B ++ [])]))).set j (some (.int 0))) = some false ∧
      t (((wipeR ρ (ip :: j :: Wd)).set i (some (.tuple [.list (appD 0 A ++ [.none]), .list (appD 0 B ++ [])]))).set j (some (.int 1))) = some false then G (wipeR ρ (i :: ip :: j :: Wd)) else none
  | _ => none
abbrev tAppN (i j : Nat) : TS := tDrop (tBM KF.K "list" rAppend (tOp (rIx KF.K) (tVar i) (tVar j)) (tCons (tC .non) tNil))
abbrev tTwo (i j : Nat) (tt : TT) (tr : TS) : TS := tFor (iRng1 (tCons (tC (.int 2)) tNil)) (gName j) (tSeq (tIfS tt tr tNext) (tAppN i j))
theorem d2_end {X : Cx} {m : Md} {OB O' W Wd : List Nat} (i ip j : Nat) {st1 st2 : Stmt} {fin : List Stmt} {test : Expr} {tt : TT} {ft : FT} {tr tf : TS} {Gf : FS} (ht : DT X [] test tt ft) (h1 : PS X st1 (tOutV i ip j)) (h2 : PT X test tt → PS X st2 (tTwo i j tt tr)) (hfin : DSs X m OB [] O' W fin tf Gf) (hij : ip ≠ j := by decide) (hi1 : i ≠ ip := by decide) (hi2 : i ≠ j := by decide) :
    DF2 X m OB [] O' i Wd (ip :: j :: W) (st1 :: st2 :: fin) (tSeq (tOutV i ip j) (tSeq (tTwo i j tt tr) tf)) (sEnd5 i ip j Wd ft Gf) := ⟨pss_cons h1 (pss_cons (h2 ht.pt) hfin.ps), fun ρ0 ρ σ0 σ Hs0 H0 Hb Hc Hs H D o g x fx hg q => by
  unfold sEnd5 at hg
  cases hρ : ρ[i]? with
  | none => rw [hρ] at hg; cases hg
  | some od =>
  rw [hρ] at hg
  cases od with
  | none => cases hg
  | some d =>
  by_cases hsh : ∃ A B, d = .tuple [.list A, .list B]
  case neg =>
    exfalso
    split at hg
    · rename_i A B hh
      cases hh
      exact hsh ⟨_, _, rfl⟩
    · cases hg
  obtain ⟨A, B, rfl⟩ := hsh
  by_cases hok : (endOk A B ∧ ip < ρ.length ∧ j < ρ.length) ∧ ft (((wipeR ρ (ip :: j :: Wd)).set i (some (.tuple [.list (appD 0 A ++ []), .list (appD 0 B ++ [])]))).set j (some (.int 0))) = some false ∧
      ft (((wipeR ρ (ip :: j :: Wd)).set i (some (.tuple [.list (appD 0 A ++ [.none]), .list (appD 0 B ++ [])]))).set j (some (.int 1))) = some false
  case neg =>
    have : (none : Option Out) = some o := (if_neg hok).symm.trans hg
    cases this
  have hg : Gf (wipeR ρ (i :: ip :: j :: Wd)) = some o := (if_pos hok).symm.trans hg
  obtain ⟨⟨⟨⟨rowA, rowB⟩, ⟨neA, neBB⟩, hnd, lA1000, lB1000⟩, hipρ, hjρ⟩, ht0, ht1⟩ := hok
  obtain ⟨v, hv, hz⟩ := x.fr _ hρ
  obtain ⟨v', hv', hw⟩ := x.two _ hρ
  obtain rfl : v = v' := Option.some.inj (Option.some.inj (hv.symm.trans hv'))
  obtain ⟨t, v1, v2, rfl, ht2, hne⟩ := hw ⟨A, B, rfl⟩
  -- the two lists
  have hz2 : @R kS (outH Hc Hs) (.ref t) (.tuple [.list A, .list B]) := hz
  obtain ⟨vs, pt, rzs⟩ : ∃ vs, Rd (outH Hc Hs) t (.tup vs) ∧ @RA kS (outH Hc Hs) vs [.list A, .list B] := by
    cases hz2 with
    | tup p r => exact ⟨_, p, r⟩
  have hts : vs = [v1, v2] ∧ Hc t = none := by
    rcases pt with p | ⟨o, p⟩
    · obtain ⟨p1, p2⟩ := outH_some p
      rw [ht2] at p2
      cases p2
      exact ⟨rfl, p1⟩
    · obtain ⟨p1, p2⟩ := outH_some p
      rw [ht2] at p2
      cases p2
  obtain ⟨rfl, nt⟩ := hts
  obtain ⟨pa, va, pb, vb, e1, e2, ka, kb, rza, rzb⟩ : ∃ pa va pb vb, v1 = .ref pa ∧ v2 = .ref pb ∧ outH Hc Hs pa = some (.lst va) ∧ outH Hc Hs pb = some (.lst vb) ∧ RSA (outH Hc Hs) va A ∧ RSA (outH Hc Hs) vb B := by
    cases rzs with
    | cons a r =>
      cases r with
      | cons b r =>
        cases a with
        | lst p ra =>
          cases b with
          | lst p' rb => exact ⟨_, _, _, _, rfl, rfl, p.elim id fun z => Bool.noConfusion (show false = true from z.1), p'.elim id fun z => Bool.noConfusion (show false = true from z.1), ra, rb⟩
  subst e1
  subst e2
  have hab : pa ≠ pb := fun z => hne (by rw [z])
  obtain ⟨na, ka⟩ := outH_some ka
  obtain ⟨nb, kb⟩ := outH_some kb
  obtain ⟨bs1, us1, rfl, lb1, lu1, rows1⟩ := fresh_rows A rza rowA
  obtain ⟨bs2, us2, rfl, lb2, lu2, rows2⟩ := fresh_rows B rzb rowB
  have at1 : ∀ k, k < A.length → ∃ ws, A[k]? = some (.list ws) ∧ ws.all scalD = true ∧ ws.length ≤ 1000 ∧ Hc (bs1.getD k 0) = none ∧ Hs (bs1.getD k 0) = some (.lst (us1.getD k [])) ∧ RA (outH Hc Hs) (us1.getD k []) ws := fun k hk => by
    obtain ⟨ws, q1, q2, q3, q4, q5⟩ := rows1 k hk
    exact ⟨ws, q1, q2, q3, (outH_some q4).1, (outH_some q4).2, q5⟩
  have at2 : ∀ k, k < B.length → ∃ ws, B[k]? = some (.list ws) ∧ ws.all scalD = true ∧ ws.length ≤ 1000 ∧ Hc (bs2.getD k 0) = none ∧ Hs (bs2.getD k 0) = some (.lst (us2.getD k [])) ∧ RA (outH Hc Hs) (us2.getD k []) ws := fun k hk => by
    obtain ⟨ws, q1, q2, q3, q4, q5⟩ := rows2 k hk
    exact ⟨ws, q1, q2, q3, (outH_some q4).1, (outH_some q4).2, q5⟩
  rw [List.nodup_append] at hnd
  obtain ⟨ndA, ndB, ndAB⟩ := hnd
  have same : ∀ {a b : Addr} {ua ub : List V} {wa wb : List PyData}, Hs a = some (.lst ua) → Hs b = some (.lst ub) → wa.all scalD = true → RA (outH Hc Hs) ua wa → RA (outH Hc Hs) ub wb → a = b → wa = wb := fun {a b ua ub wa wb} k1 k2 c r1 r2 e => by
    subst e
    rw [k1] at k2
    cases k2
    exact scal_funA c r1 r2
  have inj1 : ∀ a b, a < bs1.length → b < bs1.length → bs1.getD a 0 = bs1.getD b 0 → a = b := fun a b ha hb e => by
    obtain ⟨wa, a1, a2, _, _, a5, a6⟩ := at1 a (by omega)
    obtain ⟨wb, b1, b2, _, _, b5, b6⟩ := at1 b (by omega)
    have ew := same a5 b5 a2 a6 b6 e
    subst ew
    obtain ⟨x1, x2⟩ := List.getElem?_eq_some_iff.mp a1
    obtain ⟨y1, y2⟩ := List.getElem?_eq_some_iff.mp b1
    have nd := List.pairwise_iff_getElem.mp ndA
    rcases Nat.lt_trichotomy a b with h | h | h
    · exact absurd (x2.trans y2.symm) (nd a b x1 y1 h)
    · exact h
    · exact absurd (y2.trans x2.symm) (nd b a y1 x1 h)
  have inj2 : ∀ a b, a < bs2.length → b < bs2.length → bs2.getD a 0 = bs2.getD b 0 → a = b := fun a b ha hb e => by
    obtain ⟨wa, a1, a2, _, _, a5, a6⟩ := at2 a (by omega)
    obtain ⟨wb, b1, b2, _, _, b5, b6⟩ := at2 b (by omega)
    have ew := same a5 b5 a2 a6 b6 e
    subst ew
    obtain ⟨x1, x2⟩ := List.getElem?_eq_some_iff.mp a1
    obtain ⟨y1, y2⟩ := List.getElem?_eq_some_iff.mp b1
    have nd := List.pairwise_iff_getElem.mp ndB
    rcases Nat.lt_trichotomy a b with h | h | h
    · exact absurd (x2.trans y2.symm) (nd a b x1 y1 h)
    · exact h
    · exact absurd (y2.trans x2.symm) (nd b a y1 x1 h)
  have dis : ∀ a b, a < bs1.length → b < bs2.length → bs1.getD a 0 ≠ bs2.getD b 0 := fun a b ha hb e => by
    obtain ⟨wa, a1, a2, _, _, a5, a6⟩ := at1 a (by omega)
    obtain ⟨wb, b1, b2, _, _, b5, b6⟩ := at2 b (by omega)
    have ew := same a5 b5 a2 a6 b6 e
    subst ew
    obtain ⟨x1, x2⟩ := List.getElem?_eq_some_iff.mp a1
    obtain ⟨y1, y2⟩ := List.getElem?_eq_some_iff.mp b1
    exact ndAB _ (List.getElem_mem x1) _ (List.getElem_mem y1) (x2.trans y2.symm)
  -- a row is neither of the lists of rows
  have notTop : ∀ {u : List V} {ws : List PyData} {bs : List Addr} {z : PyData}, ws.all scalD = true → neB (.list ws) = true → RA (outH Hc Hs) u ws → u ≠ bs.map V.ref := fun {u ws bs z} c cn r e => by
    cases ws with
    | nil => cases cn
    | cons w ws =>
      rw [e] at r
      cases bs with
      | nil => cases r
      | cons b bs =>
        rw [List.map_cons] at r
        rw [List.all_cons, Bool.and_eq_true] at c
        cases r with
        | cons a b => exact scal_ref c.1 a
  have neAt1 : ∀ (k : Nat) (ws : List PyData), A[k]? = some (PyData.list ws) → neB (PyData.list ws) = true := fun k ws h => List.all_eq_true.mp neA _ (List.mem_of_getElem? h)
  have neAt2 : ∀ (k : Nat) (ws : List PyData), B[k]? = some (PyData.list ws) → neB (PyData.list ws) = true := fun k ws h => List.all_eq_true.mp neBB _ (List.mem_of_getElem? h)
  have out1 : ∀ p (bs : List Addr), Hs p = some (.lst (bs.map V.ref)) → ∀ k, k < bs1.length → p ≠ bs1.getD k 0 := fun p bs hp k hk e => by
    obtain ⟨ws, q1, q2, _, _, q5, q6⟩ := at1 k (by omega)
    rw [← e, hp] at q5
    exact notTop (z := .none) q2 (neAt1 k ws q1) q6 (HO.lst.inj (Option.some.inj q5)).symm
  have out2 : ∀ p (bs : List Addr), Hs p = some (.lst (bs.map V.ref)) → ∀ k, k < bs2.length → p ≠ bs2.getD k 0 := fun p bs hp k hk e => by
    obtain ⟨ws, q1, q2, _, _, q5, q6⟩ := at2 k (by omega)
    rw [← e, hp] at q5
    exact notTop (z := .none) q2 (neAt2 k ws q1) q6 (HO.lst.inj (Option.some.inj q5)).symm
  have tn : ∀ (a : Addr) (u : List V), Hs a = some (.lst u) → t ≠ a := fun a u h e => by
    rw [← e, ht2] at h
    cases h
  have hsub : Same Hs H := x.st.sl.sub
  have hca : Same Hc H := x.st.gr.h
  have r1 : RowsAt H pa bs1 us1 := ⟨hsub _ _ ka, by omega, by omega, fun k hk => by
    obtain ⟨ws, _, _, q3, _, q5, q6⟩ := at1 k (by omega)
    exact ⟨hsub _ _ q5, by rw [q6.length]; exact q3⟩, inj1, out1 pa bs1 ka⟩
  have r2 : RowsAt H pb bs2 us2 := ⟨hsub _ _ kb, by omega, by omega, fun k hk => by
    obtain ⟨ws, _, _, q3, _, q5, q6⟩ := at2 k (by omega)
    exact ⟨hsub _ _ q5, by rw [q6.length]; exact q3⟩, inj2, out2 pb bs2 kb⟩
  have t1 : ∀ k, k < bs1.length → t ≠ bs1.getD k 0 := fun k hk => by
    obtain ⟨_, _, _, _, _, q5, _⟩ := at1 k (by omega)
    exact tn _ _ q5
  have t2 : ∀ k, k < bs2.length → t ≠ bs2.getD k 0 := fun k hk => by
    obtain ⟨_, _, _, _, _, q5, _⟩ := at2 k (by omega)
    exact tn _ _ q5
  have lσ : σ.length = ρ.length := x.st.sl.len
  refine out_loop hij hi1 hi2 (hsub _ _ ht2) r1 r2 hv (by omega) (by omega) t1 t2 (out1 pb bs2 kb) dis fun σ3 lσ3 hσ3 => ?_
  generalize hH3 : updN (updN H bs1 us1 bs1.length) bs2 us2 bs2.length = H3
  have memb : ∀ (bs : List Addr) (a : Addr), a ∈ bs → ∃ k, k < bs.length ∧ a = bs.getD k 0 := fun bs a ha => by
    obtain ⟨k, hk, e⟩ := List.mem_iff_getElem.mp ha
    refine ⟨k, hk, ?_⟩
    rw [List.getD_eq_getElem?_getD, List.getElem?_eq_getElem hk, e] <;> rfl
  have hF : ∀ a, Fr5 t pa pb bs1 bs2 a → Hc a = none := fun a h => by
    rcases h with rfl | rfl | rfl | h | h
    · exact nt
    · exact na
    · exact nb
    · obtain ⟨k, hk, rfl⟩ := memb bs1 a h
      obtain ⟨_, _, _, _, q4, _⟩ := at1 k (by omega)
      exact q4
    · obtain ⟨k, hk, rfl⟩ := memb bs2 a h
      obtain ⟨_, _, _, _, q4, _⟩ := at2 k (by omega)
      exact q4
  have keep3 : Same Hc H3 := fun a u h => by
    have nf : ¬ Fr5 t pa pb bs1 bs2 a := fun z => by
      rw [hF a z] at h
      cases h
    rw [← hH3, updN_ne fun l hl e => nf (by rw [e]; exact .inr (.inr (.inr (.inr (getD_mem hl))))), updN_ne fun l hl e => nf (by rw [e]; exact .inr (.inr (.inr (.inl (getD_mem hl)))))]
    exact hca _ _ h
  have a5 : At5 H3 t pa pb bs1 bs2 us1 us2 [] [] := by
    rw [← hH3]
    refine ⟨?_, ?_, ?_, fun k hk => ?_, fun k hk => ?_⟩
    · rw [updN_ne t2, updN_ne t1]
      exact hsub _ _ ht2
    · rw [updN_ne (out2 pa bs1 ka), updN_ne (out1 pa bs1 ka), List.append_nil]
      exact hsub _ _ ka
    · rw [updN_ne (out2 pb bs2 kb), updN_ne (out1 pb bs2 kb), List.append_nil]
      exact hsub _ _ kb
    · rw [updN_ne fun l hl => dis k l hk hl, updN_at hk inj1, Nat.zero_add]
    · rw [updN_at hk inj2, Nat.zero_add]
  have rA : ∀ k, k < A.length → ∃ ws, A[k]? = some (PyData.list ws) ∧ ∀ H, RA H (us1.getD k []) ws := fun k hk => by
    obtain ⟨ws, q1, q2, _, _, _, q6⟩ := at1 k hk
    exact ⟨ws, q1, fun H => scal_RA q2 q6⟩
  have rB : ∀ k, k < B.length → ∃ ws, B[k]? = some (PyData.list ws) ∧ ∀ H, RA H (us2.getD k []) ws := fun k hk => by
    obtain ⟨ws, q1, q2, _, _, _, q6⟩ := at2 k hk
    exact ⟨ws, q1, fun H => scal_RA q2 q6⟩
  -- slots over what stands now
  have slots : ∀ (K : Hp) (dv : PyData) (kk : Int) (σ4 : St), Same Hc K → DL.R (newH (Fr5 t pa pb bs1 bs2) Hb K) (.ref t) dv → σ4.length = σ.length → (∀ l, l ≠ ip → l ≠ j → σ4[l]? = σ[l]?) → σ4[j]? = some (some (.int kk)) →
      Slots [] (((wipeR ρ (ip :: j :: Wd)).set i (some dv)).set j (some (.int kk))) σ4 (newH (Fr5 t pa pb bs1 bs2) Hb K) K := fun K dv kk σ4 hK rv l4 h4 hj4 => by
    obtain ⟨s1, g1⟩ := new_ok (F := Fr5 t pa pb bs1 bs2) g hF hK
    refine ⟨g1.sub, by rw [List.length_set, List.length_set, wipeR_length, l4, lσ], fun k d hd => ?_, fun k l dk dl v hn (h1 : false = true) => Bool.noConfusion h1⟩
    by_cases hkj : j = k
    · subst hkj
      rw [List.getElem?_set_self (by rw [List.length_set, wipeR_length]; exact hjρ)] at hd
      obtain rfl := Option.some.inj (Option.some.inj hd)
      exact ⟨.int kk, hj4, fun z => Bool.noConfusion (show false = true from z), fun _ => .int kk⟩
    · rw [List.getElem?_set_ne hkj] at hd
      by_cases hki : i = k
      · subst hki
        rw [List.getElem?_set_self (by rw [wipeR_length]; exact (List.getElem?_eq_some_iff.mp hρ).1)] at hd
        obtain rfl := Option.some.inj (Option.some.inj hd)
        exact ⟨.ref t, by rw [h4 i hi1 hi2]; exact hv, fun z => Bool.noConfusion (show false = true from z), fun _ => rv⟩
      · rw [List.getElem?_set_ne hki] at hd
        obtain ⟨n1, n2⟩ := wipeR_some hd
        obtain ⟨w, k1, k2⟩ := x.old k (fun z => hki z.symm) (fun z => n1 (List.mem_cons_of_mem _ (List.mem_cons_of_mem _ z))) d n2
        exact ⟨w, by rw [h4 k (fun z => n1 (by rw [z]; exact List.mem_cons_self ..)) fun z => hkj z.symm]; exact k1, fun z => Bool.noConfusion (show false = true from z), fun _ => k2.mono s1⟩
  have tpa : t ≠ pa := tn pa _ ka
  have tpb : t ≠ pb := tn pb _ kb
  have hj3 : j < σ3.length := by omega
  refine ⟨2, rfl, by decide, by decide, ?_⟩
  refine ⟨fun k n σ' K' => n = 2 - k ∧ k ≤ 2 ∧ σ'.length = σ.length ∧ (∀ l, l ≠ ip → l ≠ j → σ'[l]? = σ[l]?) ∧ Same Hc K' ∧ At5 K' t pa pb bs1 bs2 us1 us2 (if k = 0 then [] else [.non]) (if k ≤ 1 then [] else [.non]), ⟨2, rfl, by omega, lσ3, hσ3, keep3, a5⟩, ?_⟩
  rintro k n σ' K' ⟨rfl, hk, hσl, hσ, hK, a5'⟩
  have keepUpd : ∀ (K : Hp) (p : Addr) (o : HO), Same Hc K → Hc p = none → Same Hc (upd K p o) := fun K p o h hp a u ha => by
    rw [upd_ne (ne_of_none ha hp)]
    exact h _ _ ha
  have nilR : ∀ H : Hp, RA H ([] : List V) ([] : List PyData) := fun H => .nil
  have nonR : ∀ H : Hp, RA H [V.non] [PyData.none] := fun H => .cons .non .nil
  rcases (by omega : k = 0 ∨ k = 1 ∨ k = 2) with rfl | rfl | rfl
  · have a5' : At5 K' t pa pb bs1 bs2 us1 us2 [] [] := a5'
    refine .inr ⟨by show 0 < (2 : Int).toNat; decide, fun σ'' K'' => σ''.length = σ.length ∧ (∀ l, l ≠ ip → l ≠ j → σ''[l]? = σ[l]?) ∧ Same Hc K'' ∧ At5 K'' t pa pb bs1 bs2 us1 us2 [.non] [], fun σ'' K'' ⟨h1, h2, h3, h4⟩ => ⟨1, by omega, rfl, by omega, h1, h2, h3, h4⟩, fun xv K2 hy => ?_⟩
    obtain ⟨rfl, rfl⟩ := hy
    have sl := slots K2 _ 0 (σ'.set j (some (V.int (0 + ((0 : Nat) : Int))))) hK (a5'.R (Hb := Hb) (by omega) (by omega) (by omega) (by omega) rA rB nilR nilR) (by rw [List.length_set, hσl]) (fun l h1 h2 => by rw [List.getElem?_set_ne (fun z => h2 z.symm), hσ l h1 h2]) (List.getElem?_set_self (by omega))
    refine ht.ev _ _ _ _ false sl ht0 _ fun Hs4 H4 g4 => iteF ?_
    have hK4 : Same Hc H4 := hK.trans g4.h
    have a54 := a5'.mono g4.h
    refine ⟨.ref t, by rw [List.getElem?_set_ne (Ne.symm hi2), hσ i hi1 hi2]; exact hv, .int (0 + ((0 : Nat) : Int)), List.getElem?_set_self (by omega), ?_⟩
    refine .inr (.inl ⟨t, _, 0, .ref pa, rfl, rfl, .inl (.inl a54.ht), rfl, ?_⟩)
    refine ⟨.inl ⟨rfl, _, .inl (.inl a54.ha)⟩, ?_⟩
    refine ⟨pa, _, .non, rfl, rfl, a54.ha, ?_, ?_⟩
    · rw [List.append_nil, List.length_map]
      exact Nat.lt_of_le_of_lt r1.le (by decide)
    · refine ⟨by rw [List.length_set, hσl], fun l h1 h2 => by rw [List.getElem?_set_ne (fun z => h2 z.symm), hσ l h1 h2], keepUpd _ _ _ hK4 na, ?_⟩
      rw [List.append_nil]
      exact a54.upA [.non] tpa hab.symm (out1 pa bs1 ka) (out2 pa bs1 ka)
  · have a5' : At5 K' t pa pb bs1 bs2 us1 us2 [.non] [] := a5'
    refine .inr ⟨by show 1 < (2 : Int).toNat; decide, fun σ'' K'' => σ''.length = σ.length ∧ (∀ l, l ≠ ip → l ≠ j → σ''[l]? = σ[l]?) ∧ Same Hc K'' ∧ At5 K'' t pa pb bs1 bs2 us1 us2 [.non] [.non], fun σ'' K'' ⟨h1, h2, h3, h4⟩ => ⟨0, by omega, rfl, by omega, h1, h2, h3, h4⟩, fun xv K2 hy => ?_⟩
    obtain ⟨rfl, rfl⟩ := hy
    have sl := slots K2 _ 1 (σ'.set j (some (V.int (0 + ((1 : Nat) : Int))))) hK (a5'.R (Hb := Hb) (by omega) (by omega) (by omega) (by omega) rA rB nonR nilR) (by rw [List.length_set, hσl]) (fun l h1 h2 => by rw [List.getElem?_set_ne (fun z => h2 z.symm), hσ l h1 h2]) (List.getElem?_set_self (by omega))
    refine ht.ev _ _ _ _ false sl ht1 _ fun Hs4 H4 g4 => iteF ?_
    have hK4 : Same Hc H4 := hK.trans g4.h
    have a54 := a5'.mono g4.h
    refine ⟨.ref t, by rw [List.getElem?_set_ne (Ne.symm hi2), hσ i hi1 hi2]; exact hv, .int (0 + ((1 : Nat) : Int)), List.getElem?_set_self (by omega), ?_⟩
    refine .inr (.inl ⟨t, _, 1, .ref pb, rfl, rfl, .inl (.inl a54.ht), rfl, ?_⟩)
    refine ⟨.inl ⟨rfl, _, .inl (.inl a54.hb)⟩, ?_⟩
    refine ⟨pb, _, .non, rfl, rfl, a54.hb, ?_, ?_⟩
    · rw [List.append_nil, List.length_map]
      exact Nat.lt_of_le_of_lt r2.le (by decide)
    · refine ⟨by rw [List.length_set, hσl], fun l h1 h2 => by rw [List.getElem?_set_ne (fun z => h2 z.symm), hσ l h1 h2], keepUpd _ _ _ hK4 nb, ?_⟩
      rw [List.append_nil]
      exact a54.upB [.non] tpb hab (out1 pb bs2 kb) (out2 pb bs2 kb)
  · refine .inl ⟨by show (2 : Int).toNat ≤ 2; decide, ?_⟩
    have g7 : Gr Hs0 H0 Hb K' := ⟨g.s, g.h.trans hK, g.sub.trans hK, g.non⟩
    have st' : StOK [] (wipeR ρ (i :: ip :: j :: Wd)) σ' Hs0 H0 Hb K' := by
      refine ⟨⟨g7.sub, by rw [wipeR_length, hσl, lσ], fun k d hd => ?_, fun k l dk dl v hn (h1 : false = true) => Bool.noConfusion h1⟩, g7, fun k hk => absurd hk List.not_mem_nil⟩
      obtain ⟨n1, n2⟩ := wipeR_some hd
      obtain ⟨w, k1, k2⟩ := x.old k (fun z => n1 (by rw [z]; exact List.mem_cons_self ..)) (fun z => n1 (List.mem_cons_of_mem _ (List.mem_cons_of_mem _ (List.mem_cons_of_mem _ z)))) d n2
      exact ⟨w, by rw [hσ k (fun z => n1 (by rw [z]; exact List.mem_cons_of_mem _ (List.mem_cons_self ..))) fun z => n1 (by rw [z]; exact List.mem_cons_of_mem _ (List.mem_cons_of_mem _ (List.mem_cons_self ..)))]; exact k1, fun z => Bool.noConfusion (show false = true from z), fun _ => k2⟩
    have fx' : Fx (i :: ip :: j :: Wd) σ σ' ρ (wipeR ρ (i :: ip :: j :: Wd)) := fun k hk => by
      simp only [List.mem_cons, not_or] at hk
      refine ⟨hσ k hk.2.1 hk.2.2.1, ?_⟩
      rw [wipeR_get, if_neg (by simp only [List.mem_cons, not_or]; exact hk)]
    refine hfin.ev _ σ' Hs0 H0 Hb K' D o st' hg ?_
    have tot : ∀ {σ2 : St} {ρ2 : Rho}, Fx W σ' σ2 (wipeR ρ (i :: ip :: j :: Wd)) ρ2 → Fx (i :: Wd ++ ip :: j :: W) σ0 σ2 ρ0 ρ2 := fun f => ((fx.app fx').app f).mono fun l z => by
      simp only [List.mem_append, List.mem_cons] at z ⊢
      rcases z with ((z | z) | (z | z | z | z)) | z
      · exact .inl (.inl z)
      · exact .inl (.inr z)
      · exact .inl (.inl z)
      · exact .inr (.inl z)
      · exact .inr (.inr (.inl z))
      · exact .inl (.inr z)
      · exact .inr (.inr (.inr z))
    cases o with
    | nx ρ2 => exact fun σ2 Hs2 H2 x2 f2 => q σ2 Hs2 H2 x2 (tot f2)
    | rt d => exact q
    | bk ρ2 => exact fun σ2 Hs2 H2 x2 f2 => q σ2 Hs2 H2 x2 (tot f2)
    | ct ρ2 => exact fun σ2 Hs2 H2 x2 f2 => q σ2 Hs2 H2 x2 (tot f2)⟩
end DL
set_option Elab.async false
set_option linter.all false
set_option maxRecDepth 100000
namespace DL
open PySem PySem.Spec L2
open PyProof.Rows hiding St
variable [kf : KF]
/-! ### max(i, j), ints -/
def dMax2 : PyData → PyData → Option PyData
  | .int i, .int j => some (.int (if j > i then j else i))
  | _, _ => none
abbrev rMax2' : List V → Hp → VK → Prop := fun xs H Q => ∃ i j, xs = [.int i, .int j] ∧ Q (.int (if j > i then j else i)) H
theorem cd_max2 : CallD rMax2' .cl (g2 dMax2) := by
  intro Hs H vs xs z e hv hz Q q
  obtain ⟨x, y, rfl, hz⟩ := g2_some hz
  obtain ⟨v, w, rfl, h1, h2⟩ := rdA2 hv
  cases x <;> try (cases hz; done)
  cases y <;> try (cases hz; done)
  cases hz
  rw [rd_int h1, rd_int h2]
  exact ⟨_, _, rfl, q _ Hs H (.refl e) res_int⟩
section
variable {X : Cx} {O : List Nat} {a b : Expr} {ta tb : TE} {fa fb : F} {p pos : Pos}
theorem de_max2 (hc : X.calm = true) (gl : Gl X "max") (hm : X.mg "max" = none) (ha : DE X O .rd a ta fa) (hb : DE X O .rd b tb fb) (he : starEach [a, b] X.env = (false, eval a X.env) :: starEach [b] X.env := by rfl) (he2 : starEach [b] X.env = [(false, eval b X.env)] := by rfl) (hpl : (backTo pos (starEach [b] X.env)).any (·.1) = false := by rfl) :
    DE X O .cl (.Call (.Name "max" p) [a, b] [] pos) (tCB rMax2' (tCons ta (tCons tb tNil))) (fFn (g2 dMax2) (fConsA fa (fConsA fb fNilA))) :=
  de_b (call_max2 hc) cd_max2 gl hm (by decide +kernel) (da_cons ha (da_cons hb da_nil he2) he) (he := he) (hpl := hpl)
end
end DL
set_option Elab.async false
set_option linter.all false
set_option maxRecDepth 100000
set_option maxHeartbeats 2000000
namespace DL
open PySem PySem.Spec L2
open PyProof.Rows hiding St
variable [kf : KF]
/-! ### x[j] += e, x a list of one's own -/
def rGetL : V → V → Hp → VK → Prop := fun o i H Q => ∃ p xs k v, o = .ref p ∧ i = .int k ∧ H p = some (.lst xs) ∧ 0 ≤ k ∧ k < 2 ^ 62 ∧ xs[k.toNat]? = some v ∧ Q v H
theorem get_list {X : Cx} : PGet X rGetL := fun pins s σ H o i ov iv Q I r1 r2 h => by
  obtain ⟨p, xs, k, v, rfl, rfl, hp, h0, h62, hv, q⟩ := h
  obtain ⟨t, rfl⟩ := r2
  obtain rfl : ov = .ref p := r1
  obtain ⟨its, n, r, ho, hz⟩ := I.lst hp
  have get : ∀ {xs : List V} {us : List Value} {i : Nat} {v : V}, Vals xs us → xs[i]? = some v → ∃ u, us[i]? = some u ∧ RelV v u := by
    intro xs us i v h
    induction h generalizing i with
    | nil => intro z; cases z
    | cons a t ih =>
      cases i with
      | zero => intro z; cases z; exact ⟨_, rfl, a⟩
      | succ i => exact fun z => ih z
  obtain ⟨u, hu, ru⟩ := get r hv
  exact wpAny_getItem_list ⟨_, ho, rfl, n, rfl⟩ h0 (by omega) (by simpa using hu) ⟨v, H, I, ru, q⟩
def sAugI (i : Nat) (g : PyData → PyData → Option PyData) (fj f : F) : FS := fun ρ => (fj ρ).bind fun j => match ρ[i]?, j with
  | some (some (.list ds)), .int k => if (decide (0 ≤ k) && decide (k < 2 ^ 62)) = true then (ds[k.toNat]?).bind fun y => (f ρ).bind fun z => (g y z).map fun w => .nx (ρ.set i (some (.list (ds.set k.toNat w)))) else none
  | _, _ => none
section
variable {X : Cx} {m : Md} {OB O : List Nat} {e : Expr} {te : TE} {f : F} {pos : Pos}
theorem ds_augI (i : Nat) {x : Str} {p p2 : Pos} {j : Expr} {tj : TE} {fj : F} {op : Operator} {r : R2} {g : PyData → PyData → Option PyData} (hN : X.N.Nodup) (ho : PIp X op r) (hg : OpD r .cl g) (h : DE X O .rd e te f) (hj : DE X O .rd j tj fj) (hv : PE X (.Name x p) (tVar i)) (hO : O.contains i = true := by rfl)
    (ha : ∀ ov iv new : Value, augStore j ov iv new = (do
        holding [new, ov, iv] (setItem ov iv new)
        release [new, ov, iv] []
        pure Flow.next) := by intros; rfl) :
    DS X m OB O O [i] (.AugAssign (.Subscript (.Name x p) j p2) op e pos) (tAugS (tVar i) tj te rGetL r rSetL) (sAugI i g fj f) := ⟨ps_augS hv hj.pe get_list h.pe ho set_list ha, fun ρ σ Hs0 H0 Hs H D o x hgo q => by
  unfold sAugI at hgo
  obtain ⟨z, h3, h2⟩ := bind_some hgo
  cases hr : ρ[i]? with
  | none => rw [hr] at h2; cases z <;> cases h2
  | some w =>
    rw [hr] at h2
    cases w with
    | none => cases z <;> cases h2
    | some d =>
      cases d <;> cases z <;> try (cases h2; done)
      rename_i ds k
      have h2 : (if (decide (0 ≤ k) && decide (k < 2 ^ 62)) = true then (ds[k.toNat]?).bind fun y => (f ρ).bind fun z => (g y z).map fun w => Out.nx (ρ.set i (some (.list (ds.set k.toNat w)))) else none) = some o := h2
      by_cases c : (decide (0 ≤ k) && decide (k < 2 ^ 62)) = true
      · rw [if_pos c] at h2
        rw [Bool.and_eq_true, decide_eq_true_iff, decide_eq_true_iff] at c
        obtain ⟨y, h5, h6⟩ := bind_some h2
        obtain ⟨b, h7, h8⟩ := bind_some h6
        obtain ⟨u, h9, rfl⟩ := Option.map_eq_some_iff.mp h8
        obtain ⟨a, vs, ds', e1, k1, n1, n2, n3⟩ := x.own_at hO hr
        cases e1
        refine ⟨.ref a, k1, hj.ev ρ σ Hs H _ x.sl h3 _ fun v1 Hs1 H1 g1 r1 => ?_⟩
        obtain ⟨v, hv1, hv2⟩ := n3.get h5
        have x1 := x.mono g1
        refine ⟨a, vs, k, v, rfl, rd_int r1, g1.h _ _ n2, c.1, c.2, hv1, ?_⟩
        refine h.ev ρ σ Hs1 H1 b x1.sl h7 _ fun w Hs2 H2 g2 r2 => ?_
        have x2 := x1.mono g2
        refine hg Hs2 H2 v w y b u g2.sub (.inl ((hv2.mono g1.s).mono g2.s)) (r2.rd_mono (.refl g2.sub)) h9 _ fun z Hs3 H3 g3 r3 => ?_
        have x3 := x2.mono g3
        have hl : k.toNat < vs.length := by
          rw [n3.length]
          exact (List.getElem?_eq_some_iff.mp h5).1
        refine ⟨a, vs, k, k.toNat, rfl, rd_int r1, g3.h _ _ (g2.h _ _ (g1.h _ _ n2)), ?_, ?_⟩
        · unfold ixN
          rw [if_pos c.1, if_pos (by omega)]
        · exact q σ Hs3 _ (x3.upd hO k1 hr ((((n3.mono g1.s).mono g2.s).mono g3.s).set r3 k.toNat)) .setR
      · rw [if_neg c] at h2
        cases h2⟩
/-! ### x, y = a list -/
def gTL (gs : List FG) : FG := fun d ρ => match d with
  | .list ds => gsR gs ds ρ
  | _ => none
theorem dg_lstK (hK : X.K = KF.K) {ts : List Expr} {n k : Nat} {p : Pos} {gs : TGs} {ks : List FG} {js : List Nat} (hc : X.calm = true) (h : DGs X O ts gs ks js) (hn : ts.length = n := by rfl) (hn2 : (assignEach ts X.env).length = n := by rfl) (hst : (assignEach ts X.env).findIdx? (·.1) = none := by rfl) : DG X O (.Tuple ts k p) (gLst KF.K n gs) (gTL ks) js := by
  rw [← hK]
  exact ⟨pg_lst hc h.pg hn2 hst, h.ho, fun d x ρ ρ' σ Hs H s r hk Q q => by
    cases d <;> try (cases hk; done)
    cases r with
    | lst p1 r1 =>
      refine ⟨_, _, rfl, by rw [hK]; exact (ls_mono s.sub p1).sq, ?_, h.ev _ _ ρ ρ' σ Hs H s r1 hk Q q⟩
      rw [r1.length, gsR_len (show gsR ks _ ρ = some ρ' from hk), ← h.len, hn]⟩
end
end DL
set_option Elab.async false
set_option linter.all false
set_option maxRecDepth 100000
set_option maxHeartbeats 4000000
namespace Law
noncomputable section
open PySem PySem.Spec L2 DL
open PyProof.Rows hiding St
def topS (i : Nat) : Stmt := PySem.Challenge.pw_floodmark_k46_multipliers_checked.main.body.getD i (.Pass ⟨0, 0, 0, 0⟩)
abbrev s_combined : Stmt := topS 1
theorem sc_combined : FnScope ["first", "vector", "second", "other", "left", "right"] ["first", "vector", "second", "other"] (defScope s_combined) := ⟨rfl, rfl, rfl, by decide +kernel, rfl, by decide +kernel, by decide +kernel⟩
abbrev s_are_multipliers : Stmt := topS 3
theorem sc_are_multipliers : FnScope ["conditions", "target", "multipliers", "scale", "factors", "factor", "rest", "item", "condition"] ["conditions", "target", "multipliers"] (defScope s_are_multipliers) := ⟨rfl, rfl, rfl, by decide +kernel, rfl, by decide +kernel, by decide +kernel⟩
abbrev s_law_cell : Stmt := topS 5
theorem sc_law_cell : FnScope ["script", "k"] ["script", "k"] (defScope s_law_cell) := ⟨rfl, rfl, rfl, by decide +kernel, rfl, by decide +kernel, by decide +kernel⟩
abbrev s_law_digits : Stmt := topS 6
theorem sc_law_digits : FnScope ["cell", "base", "most", "digits", "large", "k"] ["cell", "base", "most"] (defScope s_law_digits) := ⟨rfl, rfl, rfl, by decide +kernel, rfl, by decide +kernel, by decide +kernel⟩
abbrev s_law_are : Stmt := topS 7
theorem sc_law_are : FnScope ["conditions", "target", "told", "scale", "factors", "rest", "item", "k", "j"] ["conditions", "target", "told"] (defScope s_law_are) := ⟨rfl, rfl, rfl, by decide +kernel, rfl, by decide +kernel, by decide +kernel⟩
abbrev s_law_tried : Stmt := topS 8
theorem sc_law_tried : FnScope ["conditions", "target", "cell", "size", "draws", "factors", "k", "scale", "base", "j", "item", "fitting", "low", "other", "tried", "less"] ["conditions", "target", "cell"] (defScope s_law_tried) := ⟨rfl, rfl, rfl, by decide +kernel, rfl, by decide +kernel, by decide +kernel⟩
abbrev s_law : Stmt := topS 9
theorem sc_law : FnScope ["script", "first", "size", "count", "draws", "wide", "rows", "j", "k", "item", "row", "conditions", "kept", "target", "told", "before", "answer"] ["script"] (defScope s_law) := ⟨rfl, rfl, rfl, by decide +kernel, rfl, by decide +kernel, by decide +kernel⟩
variable [KF] {P : Program} {w : World} {mg : Str → Option Value} {base : Heap}
structure Txt (K : PySem.W.Frag) (mg : Str → Option Value) where
  a_combined : Addr
  d_combined : FuncData
  F_combined : Fun K "combined" "combined" s_combined a_combined d_combined
  g_combined : mg "combined" = some (.ref a_combined)
  b_combined : L2.Binds K d_combined ["first", "vector", "second", "other"] []
  a_are_multipliers : Addr
  d_are_multipliers : FuncData
  F_are_multipliers : Fun K "are_multipliers" "are_multipliers" s_are_multipliers a_are_multipliers d_are_multipliers
  g_are_multipliers : mg "are_multipliers" = some (.ref a_are_multipliers)
  b_are_multipliers : L2.Binds K d_are_multipliers ["conditions", "target", "multipliers"] []
  a_law_cell : Addr
  d_law_cell : FuncData
  F_law_cell : Fun K "_law_cell" "_law_cell" s_law_cell a_law_cell d_law_cell
  g_law_cell : mg "_law_cell" = some (.ref a_law_cell)
  b_law_cell : L2.Binds K d_law_cell ["script", "k"] []
  a_law_digits : Addr
  d_law_digits : FuncData
  F_law_digits : Fun K "_law_digits" "_law_digits" s_law_digits a_law_digits d_law_digits
  g_law_digits : mg "_law_digits" = some (.ref a_law_digits)
  b_law_digits : L2.Binds K d_law_digits ["cell", "base", "most"] []
  a_law_are : Addr
  d_law_are : FuncData
  F_law_are : Fun K "_law_are" "_law_are" s_law_are a_law_are d_law_are
  g_law_are : mg "_law_are" = some (.ref a_law_are)
  b_law_are : L2.Binds K d_law_are ["conditions", "target", "told"] []
  a_law_tried : Addr
  d_law_tried : FuncData
  F_law_tried : Fun K "_law_tried" "_law_tried" s_law_tried a_law_tried d_law_tried
  g_law_tried : mg "_law_tried" = some (.ref a_law_tried)
  b_law_tried : L2.Binds K d_law_tried ["conditions", "target", "cell"] []
  a_law : Addr
  d_law : FuncData
  F_law : Fun K "law" "law" s_law a_law d_law
  g_law : mg "law" = some (.ref a_law)
  b_law : L2.Binds K d_law ["script"] []
  z_abs : mg "abs" = none
  z_any : mg "any" = none
  z_bool : mg "bool" = none
  z_int : mg "int" = none
  z_isinstance : mg "isinstance" = none
  z_len : mg "len" = none
  z_list : mg "list" = none
  z_range : mg "range" = none
  z_repr : mg "repr" = none
  z_zip : mg "zip" = none
def B_combined : FS := (sRet (fLc (iZ (fVar 1) (fVar 3)) (gT [(gN 4), (gN 5)]) tYesF (fBin dAdd (fBin dMul (fVar 0) (fVar 4)) (fBin dMul (fVar 2) (fVar 5))) [4, 5]))
def R_combined : List PyData → Option PyData := runF 6 B_combined
theorem nx_combined : ∀ ρ ρ', B_combined ρ ≠ some (.nx ρ') := nn_ret
theorem ok_combined (T : Txt KF.K mg) : FnG P w KF.K mg base (L2.CX P w) 1 T.a_combined T.d_combined ["first", "vector", "second", "other"] (spF 4 .ow R_combined) :=
  def_nx (k := 0) (B := B_combined) (O' := []) T.F_combined sc_combined rfl rfl (.inr (nx_combined)) fun cdv A outer s H E ga => ⟨_, (dss_one (ds_ret (de_lcv rfl sc_combined.nd (dlc_mk [("left", 4), ("right", 5)] (di_zipK rfl rfl T.z_zip (de_var 1 rfl) (de_var 3 rfl)) (blkOk_by (N := ["first", "vector", "second", "other", "left", "right"]) (sc := defScope s_combined) (by decide +kernel)) (fun _ _ _ _ _ => (dg_tupK rfl rfl (dgs_cons (dgn 4 sc_combined.nd) (dgs_cons (dgn 5 sc_combined.nd) dgs_nil)))) (fun _ _ _ _ _ => dts_nil) (fun _ _ _ _ _ => (de_addI (DE.rd_ (de_mulI (DE.rd_ (de_var 0 rfl)) (DE.rd_ (de_var 4 rfl)))) (DE.rd_ (de_mulI (DE.rd_ (de_var 2 rfl)) (DE.rd_ (de_var 5 rfl))))))))))⟩
def B_are_multipliers : FS := (sSeq (sAsgG (gT [(gN 3), (gN 4)]) (fVar 2)) (sSeq (sIf (tO (tV (fBin dLt (fVar 3) (fC (.int 1)))) (tO (tV (fBin dNe (fFn (g1 dLen) (fConsA (fVar 4) fNilA)) (fFn (g1 dLen) (fConsA (fVar 0) fNilA)))) (tV (fFn (g1 dAny) (fConsA (fLc (iSeq (fVar 4)) (gN 5) tYesF (fBin dLt (fVar 5) (fC (.int 0))) [5]) fNilA))))) (sRet (fC (.bool false))) sNil) (sSeq (sAsg 6 (fLc (iSeq (fVar 1)) (gN 7) tYesF (fBin dMul (fVar 3) (fVar 7)) [7])) (sSeq (sFor (iZ (fVar 4) (fVar 0)) (gT [(gN 5), (gN 8)]) (sSeq (sAsg 6 (fFn R_combined (fConsA (fC (.int 1)) (fConsA (fVar 6) (fConsA (fUn dNeg (fVar 5)) (fConsA (fVar 8) fNilA)))))) sNil)) (sRet (fAnd (fBin dGe (fBin dIx (fVar 6) (fC (.int 0))) (fC (.int 0))) (fUn gNot (fFn (g1 dAnyI) (fConsA (fSl (fVar 6) (oSome (fC (.int 1))) oNone) fNilA)))))))))
def R_are_multipliers : List PyData → Option PyData := runF 9 B_are_multipliers
theorem ok_are_multipliers (T : Txt KF.K mg) : FnG P w KF.K mg base (L2.CX P w) 2 T.a_are_multipliers T.d_are_multipliers ["conditions", "target", "multipliers"] (spF 3 .cl R_are_multipliers) :=
  def_nx (k := 1) (B := B_are_multipliers) (O' := []) T.F_are_multipliers sc_are_multipliers rfl rfl (.inl rfl) fun cdv A outer s H E ga => ⟨_, (dss_cons (O' := []) (ds_asgG (de_var 2 rfl) (dg_tupK rfl rfl (dgs_cons (dgn 3 sc_are_multipliers.nd) (dgs_cons (dgn 4 sc_are_multipliers.nd) dgs_nil)))) (dss_cons (O' := []) (ds_if (DW.dt (dw_or (dt_lt (DE.rd_ (de_var 3 rfl)) (DE.rd_ de_int)) (dw_or (dt_neK ga.u64 rfl (DE.rd_ (de_lenK rfl rfl T.z_len (DE.rd_ (de_var 4 rfl)))) (DE.rd_ (de_lenK rfl rfl T.z_len (DE.rd_ (de_var 0 rfl))))) (dw_or1 (dt_val (DE.rd_ (de_anyK rfl rfl rfl T.z_any (DE.or_ (de_lcv rfl sc_are_multipliers.nd (dlc_mk [("factor", 5)] (di_seqK rfl (de_var 4 rfl)) (blkOk_by (N := ["conditions", "target", "multipliers", "scale", "factors", "factor", "rest", "item", "condition"]) (sc := defScope s_are_multipliers) (by decide +kernel)) (fun _ _ _ _ _ => (dgn 5 sc_are_multipliers.nd)) (fun _ _ _ _ _ => dts_nil) (fun _ _ _ _ _ => (de_lt (DE.rd_ (de_var 5 rfl)) (DE.rd_ de_int))))))))))))) (dss_one (ds_ret de_bl)) dss_nil) (dss_cons (O' := []) (dslc 6 rfl sc_are_multipliers.nd (dlc_mk [("item", 7)] (di_seqK rfl (de_var 1 rfl)) (blkOk_by (N := ["conditions", "target", "multipliers", "scale", "factors", "factor", "rest", "item", "condition"]) (sc := defScope s_are_multipliers) (by decide +kernel)) (fun _ _ _ _ _ => (dgn 7 sc_are_multipliers.nd)) (fun _ _ _ _ _ => dts_nil) (fun _ _ _ _ _ => (de_mulI (DE.rd_ (de_var 3 rfl)) (DE.rd_ (de_var 7 rfl))))) (sw_true rfl rfl rfl (by decide +kernel))) (dss_cons (O' := []) (ds_for PassesOwn.never rfl (di_zipK rfl rfl T.z_zip (de_var 4 rfl) (de_var 0 rfl)) (dg_tupK rfl rfl (dgs_cons (dgn 5 sc_are_multipliers.nd) (dgs_cons (dgn 8 sc_are_multipliers.nd) dgs_nil))) (dss_cons (O' := []) (dsn 6 sc_are_multipliers.nd (DE.cl_ (de_call (ok_combined T) (ga.mono (by decide)) T.g_combined T.F_combined.kp T.b_combined passL (dac_cons de_int (dac_cons (de_var 6 rfl) (dac_cons (de_neg (DE.rd_ (de_var 5 rfl))) (dac_cons (de_var 8 rfl) dac_nil)))) rfl (fsA_cons (fsA_cons (fsA_cons (fsA_cons fsA_nil))))))) dss_nil)) (dss_one (ds_ret (de_and (DE.rd_ (de_ge (DE.rd_ (de_ixK rfl (DE.rd_ (de_var 6 rfl)) (DE.rd_ de_int))) (DE.rd_ de_int))) (de_one (de_not (DE.rd_ (de_anyIK rfl rfl rfl T.z_any (DE.or_ (de_sliceK rfl (DE.rd_ (de_var 6 rfl)) (do_some (DE.rd_ de_int)) do_none)))))))))))))⟩
def B_law_cell : FS := (sSeq (sIf (tV (fBin dLt (fVar 1) (fFn (g1 dLen) (fConsA (fVar 0) fNilA)))) (sRet (fFn (g1 dAbs) (fConsA (fFn (g1 dInt) (fConsA (fBin dIx (fVar 0) (fVar 1)) fNilA)) fNilA))) sNil) (sRet (fC (.int 0))))
def R_law_cell : List PyData → Option PyData := runF 2 B_law_cell
theorem ok_law_cell (T : Txt KF.K mg) : FnG P w KF.K mg base (L2.CX P w) 1 T.a_law_cell T.d_law_cell ["script", "k"] (spF 2 .cl R_law_cell) :=
  def_nx (k := 0) (B := B_law_cell) (O' := []) T.F_law_cell sc_law_cell rfl rfl (.inl rfl) fun cdv A outer s H E ga => ⟨_, (dss_cons (O' := []) (ds_if (dt_lt (DE.rd_ (de_var 1 rfl)) (DE.rd_ (de_lenK rfl rfl T.z_len (DE.rd_ (de_var 0 rfl))))) (dss_one (ds_ret (de_abs rfl T.z_abs (DE.rd_ (de_intc rfl T.z_int (DE.rd_ (de_ixK rfl (DE.rd_ (de_var 0 rfl)) (DE.rd_ (de_var 1 rfl))))))))) dss_nil) (dss_one (ds_ret de_int)))⟩
def B_law_digits : FS := (sSeq (sAsg 3 (fFn dList fNilA)) (sSeq (sAsg 4 (fBin dGe (fVar 0) (fBin dPow (fC (.int 10)) (fC (.int 18))))) (sSeq (sFor (iR1 (fVar 2)) (gN 5) (sSeq (sIf (tV (fVar 4)) (sSeq (sApp 3 (fBin dMod (fFn (g1 dInt) (fConsA (fVar 0) fNilA)) (fVar 1))) (sSeq (sAsg 0 (fBin dDiv (fVar 0) (fVar 1))) sNil)) (sSeq (sApp 3 (fBin dMod (fBin dMod (fFn (g1 dInt) (fConsA (fBin dAdd (fBin dAdd (fBin dMul (fVar 0) (fC (.int 48271))) (fBin dMul (fBin dMul (fBin dAdd (fVar 5) (fC (.int 1))) (fBin dAdd (fVar 5) (fC (.int 5)))) (fC (.int 69621)))) (fBin dMul (fBin dDiv (fVar 0) (fC (.int 97))) (fVar 5))) fNilA)) (fC (.int 2147483647))) (fVar 1))) sNil)) sNil)) (sRet (fVar 3)))))
def R_law_digits : List PyData → Option PyData := runF 6 B_law_digits
theorem ok_law_digits (T : Txt KF.K mg) : FnG P w KF.K mg base (L2.CX P w) 1 T.a_law_digits T.d_law_digits ["cell", "base", "most"] (spF 3 .cl R_law_digits) :=
  def_nx (k := 0) (B := B_law_digits) (O' := []) T.F_law_digits sc_law_digits rfl rfl (.inl rfl) fun cdv A outer s H E ga => ⟨_, (dss_cons (O' := [3]) (dsnO 3 sc_law_digits.nd (de_list dac_nil)) (dss_cons (O' := [3]) (dsn 4 sc_law_digits.nd (de_ge (DE.rd_ (de_var 0 rfl)) (DE.rd_ (de_pow (DE.rd_ de_int) (DE.rd_ de_int))))) (dss_cons (O' := [3]) (ds_for PassesOwn.never rfl (di_r1 rfl T.z_range (DE.rd_ (de_var 2 rfl))) (dgn 5 sc_law_digits.nd) (dss_cons (O' := [3]) (ds_if (dt_val (DE.rd_ (de_var 4 rfl))) (dss_cons (O' := [3]) (dsapp 3 (de_mod (DE.rd_ (de_intc rfl T.z_int (DE.rd_ (de_var 0 rfl)))) (DE.rd_ (de_var 1 rfl))) (pv 3) (hb := fun ph => pe_bm PySem.F.plainAttrs_list PySem.F.slot_list_append PySem.F.type_list_append mt_append (pv 3) (pa_cons ph pa_nil))) (dss_cons (O' := [3]) (dsn 0 sc_law_digits.nd (de_div (DE.rd_ (de_var 0 rfl)) (DE.rd_ (de_var 1 rfl)))) dss_nil)) (dss_cons (O' := [3]) (dsapp 3 (de_mod (DE.rd_ (de_mod (DE.rd_ (de_intc rfl T.z_int (DE.rd_ (de_addI (DE.rd_ (de_addI (DE.rd_ (de_mulI (DE.rd_ (de_var 0 rfl)) (DE.rd_ de_int))) (DE.rd_ (de_mulI (DE.rd_ (de_mulI (DE.rd_ (de_addI (DE.rd_ (de_var 5 rfl)) (DE.rd_ de_int))) (DE.rd_ (de_addI (DE.rd_ (de_var 5 rfl)) (DE.rd_ de_int))))) (DE.rd_ de_int))))) (DE.rd_ (de_mulI (DE.rd_ (de_div (DE.rd_ (de_var 0 rfl)) (DE.rd_ de_int))) (DE.rd_ (de_var 5 rfl)))))))) (DE.rd_ de_int))) (DE.rd_ (de_var 1 rfl))) (pv 3) (hb := fun ph => pe_bm PySem.F.plainAttrs_list PySem.F.slot_list_append PySem.F.type_list_append mt_append (pv 3) (pa_cons ph pa_nil))) dss_nil)) dss_nil)) (DSs.frz 3 (dss_one (ds_ret (de_var 3 rfl)))))))⟩
def B_law_are : FS := (sSeq (sAsgG (gT [(gN 3), (gN 4)]) (fVar 2)) (sSeq (sIf (tO (tV (fBin dLt (fVar 3) (fC (.int 1)))) (tV (fBin dNe (fFn (g1 dLen) (fConsA (fVar 4) fNilA)) (fFn (g1 dLen) (fConsA (fVar 0) fNilA))))) (sRet (fC (.bool false))) sNil) (sSeq (sAsg 5 (fLc (iSeq (fVar 1)) (gN 6) tYesF (fBin dMul (fVar 3) (fVar 6)) [6])) (sSeq (sFor (iR1 (fFn (g1 dLen) (fConsA (fVar 0) fNilA))) (gN 7) (sSeq (sIf (tV (fBin dLt (fBin dIx (fVar 4) (fVar 7)) (fC (.int 0)))) (sRet (fC (.bool false))) sNil) (sSeq (sAsg 5 (fLc (iR1 (fFn (g1 dLen) (fConsA (fVar 5) fNilA))) (gN 8) tYesF (fBin dSub (fBin dIx (fVar 5) (fVar 8)) (fBin dMul (fBin dIx (fVar 4) (fVar 7)) (fBin dIx (fBin dIx (fVar 0) (fVar 7)) (fVar 8)))) [8])) sNil))) (sRet (fAnd (fBin dGe (fBin dIx (fVar 5) (fC (.int 0))) (fC (.int 0))) (fBin dEq (fFn (g1 dLen) (fConsA (fLc (iSeq (fSl (fVar 5) (oSome (fC (.int 1))) oNone)) (gN 6) (tV (fBin dNe (fVar 6) (fC (.int 0)))) (fVar 6) [6]) fNilA)) (fC (.int 0)))))))))
def R_law_are : List PyData → Option PyData := runF 9 B_law_are
theorem ok_law_are (T : Txt KF.K mg) : FnG P w KF.K mg base (L2.CX P w) 1 T.a_law_are T.d_law_are ["conditions", "target", "told"] (spF 3 .cl R_law_are) :=
  def_nx (k := 0) (B := B_law_are) (O' := []) T.F_law_are sc_law_are rfl rfl (.inl rfl) fun cdv A outer s H E ga => ⟨_, (dss_cons (O' := []) (ds_asgG (de_var 2 rfl) (dg_tupK rfl rfl (dgs_cons (dgn 3 sc_law_are.nd) (dgs_cons (dgn 4 sc_law_are.nd) dgs_nil)))) (dss_cons (O' := []) (ds_if (DW.dt (dw_or (dt_lt (DE.rd_ (de_var 3 rfl)) (DE.rd_ de_int)) (dw_or1 (dt_neK ga.u64 rfl (DE.rd_ (de_lenK rfl rfl T.z_len (DE.rd_ (de_var 4 rfl)))) (DE.rd_ (de_lenK rfl rfl T.z_len (DE.rd_ (de_var 0 rfl)))))))) (dss_one (ds_ret de_bl)) dss_nil) (dss_cons (O' := []) (dsn 5 sc_law_are.nd (DE.cl_ (de_lcv rfl sc_law_are.nd (dlc_mk [("item", 6)] (di_seqK rfl (de_var 1 rfl)) (blkOk_by (N := ["conditions", "target", "told", "scale", "factors", "rest", "item", "k", "j"]) (sc := defScope s_law_are) (by decide +kernel)) (fun _ _ _ _ _ => (dgn 6 sc_law_are.nd)) (fun _ _ _ _ _ => dts_nil) (fun _ _ _ _ _ => (de_mulI (DE.rd_ (de_var 3 rfl)) (DE.rd_ (de_var 6 rfl)))))))) (dss_cons (O' := []) (ds_for PassesOwn.never rfl (di_r1 rfl T.z_range (DE.rd_ (de_lenK rfl rfl T.z_len (DE.rd_ (de_var 0 rfl))))) (dgn 7 sc_law_are.nd) (dss_cons (O' := []) (ds_if (dt_lt (DE.rd_ (de_ixK rfl (DE.rd_ (de_var 4 rfl)) (DE.rd_ (de_var 7 rfl)))) (DE.rd_ de_int)) (dss_one (ds_ret de_bl)) dss_nil) (dss_cons (O' := []) (dsn 5 sc_law_are.nd (DE.cl_ (de_lcv rfl sc_law_are.nd (dlc_mk [("j", 8)] (di_r1 rfl T.z_range (DE.rd_ (de_lenK rfl rfl T.z_len (DE.rd_ (de_var 5 rfl))))) (blkOk_by (N := ["conditions", "target", "told", "scale", "factors", "rest", "item", "k", "j"]) (sc := defScope s_law_are) (by decide +kernel)) (fun _ _ _ _ _ => (dgn 8 sc_law_are.nd)) (fun _ _ _ _ _ => dts_nil) (fun _ _ _ _ _ => (de_sub (DE.rd_ (de_ixK rfl (DE.rd_ (de_var 5 rfl)) (DE.rd_ (de_var 8 rfl)))) (DE.rd_ (de_mulI (DE.rd_ (de_ixK rfl (DE.rd_ (de_var 4 rfl)) (DE.rd_ (de_var 7 rfl)))) (DE.rd_ (de_ixK rfl (DE.rd_ (de_ixK rfl (DE.rd_ (de_var 0 rfl)) (DE.rd_ (de_var 7 rfl)))) (DE.rd_ (de_var 8 rfl)))))))))))) dss_nil))) (dss_one (ds_ret (de_and (DE.rd_ (de_ge (DE.rd_ (de_ixK rfl (DE.rd_ (de_var 5 rfl)) (DE.rd_ de_int))) (DE.rd_ de_int))) (de_one (de_eqK ga.u64 rfl (DE.rd_ (de_lenK rfl rfl T.z_len (DE.or_ (de_lcv rfl sc_law_are.nd (dlc_mk [("item", 6)] (di_seqK rfl (DE.cl_ (de_sliceK rfl (DE.rd_ (de_var 5 rfl)) (do_some (DE.rd_ de_int)) do_none))) (blkOk_by (N := ["conditions", "target", "told", "scale", "factors", "rest", "item", "k", "j"]) (sc := defScope s_law_are) (by decide +kernel)) (fun _ _ _ _ _ => (dgn 6 sc_law_are.nd)) (fun _ _ _ _ _ => (dts_one (dt_neK ga.u64 rfl (DE.rd_ (de_var 6 rfl)) (DE.rd_ de_int)))) (fun _ _ _ _ _ => (de_var 6 rfl))))))) (DE.rd_ de_int))))))))))⟩
def B_law_tried : FS := (sSeq (sAsg 3 (fFn (g1 dLen) (fConsA (fVar 1) fNilA))) (sSeq (sAsg 4 (fFn R_law_digits (fConsA (fVar 2) (fConsA (fC (.int 27720)) (fConsA (fBin dAdd (fFn (g1 dLen) (fConsA (fVar 0) fNilA)) (fC (.int 3))) fNilA))))) (sSeq (sAsg 5 (fLc (iR1 (fFn (g1 dLen) (fConsA (fVar 0) fNilA))) (gN 6) tYesF (fBin dMod (fBin dIx (fVar 4) (fVar 6)) (fC (.int 4))) [6])) (sSeq (sAsg 7 (fBin dAdd (fC (.int 1)) (fBin dMod (fBin dIx (fVar 4) (fFn (g1 dLen) (fConsA (fVar 0) fNilA))) (fC (.int 3))))) (sSeq (sAsg 8 (fBin dRep (fFn dList (fConsA (fC (.int 0)) fNilA)) (fVar 3))) (sSeq (sFor (iR1 (fFn (g1 dLen) (fConsA (fVar 0) fNilA))) (gN 6) (sSeq (sAsg 8 (fLc (iR1 (fVar 3)) (gN 9) tYesF (fBin dAdd (fBin dIx (fVar 8) (fVar 9)) (fBin dMul (fBin dIx (fVar 5) (fVar 6)) (fBin dIx (fBin dIx (fVar 0) (fVar 6)) (fVar 9)))) [9])) sNil)) (sSeq (sAsg 8 (fLc (iSeq (fVar 8)) (gN 10) tYesF (fBin dMul (fVar 7) (fVar 10)) [10])) (sSeq (sAsg 11 (fLc (iSeq (fVar 8)) (gN 10) tYesF (fBin dDiv (fVar 10) (fVar 7)) [10])) (sSeq (sSetI 11 (fC (.int 0)) (fBin dAdd (fBin dIx (fVar 11) (fC (.int 0))) (fBin dMod (fBin dIx (fVar 4) (fBin dAdd (fFn (g1 dLen) (fConsA (fVar 0) fNilA)) (fC (.int 1)))) (fC (.int 3))))) (sSeq (sAsg 12 (fFn (g1 dListOf) (fConsA (fVar 11) fNilA))) (sSeq (sSetI 12 (fC (.int 0)) (fBin dSub (fBin dIx (fVar 12) (fC (.int 0))) (fC (.int 3)))) (sSeq (sAsg 13 (fFn (g1 dListOf) (fConsA (fVar 11) fNilA))) (sSeq (sAugI 13 dAdd (fBin dMod (fBin dIx (fVar 4) (fBin dAdd (fFn (g1 dLen) (fConsA (fVar 0) fNilA)) (fC (.int 2)))) (fVar 3)) (fBin dAdd (fC (.int 1)) (fBin dMod (fBin dDiv (fBin dIx (fVar 4) (fBin dAdd (fFn (g1 dLen) (fConsA (fVar 0) fNilA)) (fC (.int 1)))) (fC (.int 3))) (fC (.int 2))))) (sSeq (sAsg 14 (fFn dList (fConsA (fFn dList (fConsA (fVar 11) (fConsA (fFn dTup (fConsA (fVar 7) (fConsA (fLc (iSeq (fVar 5)) (gN 10) tYesF (fBin dMul (fVar 7) (fVar 10)) [10]) fNilA))) fNilA))) (fConsA (fFn dList (fConsA (fVar 11) (fConsA (fFn dTup (fConsA (fVar 7) (fConsA (fVar 5) fNilA))) fNilA))) (fConsA (fFn dList (fConsA (fVar 12) (fConsA (fFn dTup (fConsA (fC (.int 1)) (fConsA (fVar 5) fNilA))) fNilA))) fNilA))))) (sSeq (sAsg 14 (fBin dCat (fVar 14) (fFn dList (fConsA (fFn dList (fConsA (fVar 13) (fConsA (fFn dTup (fConsA (fC (.int 1)) (fConsA (fVar 5) fNilA))) fNilA))) (fConsA (fFn dList (fConsA (fVar 1) (fConsA (fFn dTup (fConsA (fVar 7) (fConsA (fVar 5) fNilA))) fNilA))) (fConsA (fFn dList (fConsA (fVar 11) (fConsA (fFn dTup (fConsA (fC (.int 0)) (fConsA (fBin dRep (fFn dList (fConsA (fC (.int 0)) fNilA)) (fFn (g1 dLen) (fConsA (fVar 5) fNilA))) fNilA))) fNilA))) fNilA)))))) (sSeq (sAsg 14 (fBin dCat (fVar 14) (fFn dList (fConsA (fFn dList (fConsA (fVar 11) (fConsA (fFn dTup (fConsA (fC (.int 1)) (fConsA (fBin dCat (fVar 5) (fFn dList (fConsA (fC (.int 0)) fNilA))) fNilA))) fNilA))) (fConsA (fFn dList (fConsA (fVar 11) (fConsA (fFn dTup (fConsA (fC (.int 1)) (fConsA (fSl (fVar 5) (oSome (fC (.int 1))) oNone) fNilA))) fNilA))) (fConsA (fFn dList (fConsA (fVar 11) (fConsA (fFn dTup (fConsA (fBin dSub (fC (.int 0)) (fVar 7)) (fConsA (fLc (iSeq (fVar 5)) (gN 10) tYesF (fBin dSub (fC (.int 0)) (fVar 10)) [10]) fNilA))) fNilA))) fNilA)))))) (sSeq (sIf (tV (fBin dGt (fFn (g1 dLen) (fConsA (fVar 5) fNilA)) (fC (.int 0)))) (sSeq (sAsg 15 (fFn (g1 dListOf) (fConsA (fVar 5) fNilA))) (sSeq (sSetI 15 (fBin dMod (fBin dIx (fVar 4) (fC (.int 0))) (fFn (g1 dLen) (fConsA (fVar 15) fNilA))) (fBin dSub (fBin dIx (fVar 15) (fBin dMod (fBin dIx (fVar 4) (fC (.int 0))) (fFn (g1 dLen) (fConsA (fVar 15) fNilA)))) (fC (.int 1)))) (sSeq (sApp 14 (fFn dList (fConsA (fVar 11) (fConsA (fFn dTup (fConsA (fC (.int 1)) (fConsA (fVar 15) fNilA))) fNilA)))) sNil))) sNil) (sRet (fVar 14)))))))))))))))))))
def R_law_tried : List PyData → Option PyData := runF 16 B_law_tried
theorem ok_law_tried (T : Txt KF.K mg) : FnG P w KF.K mg base (L2.CX P w) 2 T.a_law_tried T.d_law_tried ["conditions", "target", "cell"] (spF 3 .cl R_law_tried) :=
  def_nx (k := 1) (B := B_law_tried) (O' := []) T.F_law_tried sc_law_tried rfl rfl (.inl rfl) fun cdv A outer s H E ga => ⟨_, (dss_cons (O' := []) (dsn 3 sc_law_tried.nd (de_lenK rfl rfl T.z_len (DE.rd_ (de_var 1 rfl)))) (dss_cons (O' := []) (dsn 4 sc_law_tried.nd (de_call (ok_law_digits T) (ga.mono (by decide)) T.g_law_digits T.F_law_digits.kp T.b_law_digits passL (dac_cons (de_var 2 rfl) (dac_cons de_int (dac_cons (de_addI (DE.rd_ (de_lenK rfl rfl T.z_len (DE.rd_ (de_var 0 rfl)))) (DE.rd_ de_int)) dac_nil))) rfl (fsA_cons (fsA_cons (fsA_cons fsA_nil))))) (dss_cons (O' := []) (dsn 5 sc_law_tried.nd (DE.cl_ (de_lcv rfl sc_law_tried.nd (dlc_mk [("k", 6)] (di_r1 rfl T.z_range (DE.rd_ (de_lenK rfl rfl T.z_len (DE.rd_ (de_var 0 rfl))))) (blkOk_by (N := ["conditions", "target", "cell", "size", "draws", "factors", "k", "scale", "base", "j", "item", "fitting", "low", "other", "tried", "less"]) (sc := defScope s_law_tried) (by decide +kernel)) (fun _ _ _ _ _ => (dgn 6 sc_law_tried.nd)) (fun _ _ _ _ _ => dts_nil) (fun _ _ _ _ _ => (de_mod (DE.rd_ (de_ixK rfl (DE.rd_ (de_var 4 rfl)) (DE.rd_ (de_var 6 rfl)))) (DE.rd_ de_int))))))) (dss_cons (O' := []) (dsn 7 sc_law_tried.nd (de_addI (DE.rd_ de_int) (DE.rd_ (de_mod (DE.rd_ (de_ixK rfl (DE.rd_ (de_var 4 rfl)) (DE.rd_ (de_lenK rfl rfl T.z_len (DE.rd_ (de_var 0 rfl)))))) (DE.rd_ de_int))))) (dss_cons (O' := []) (dsn 8 sc_law_tried.nd (DE.cl_ (de_rep (de_list (dac_cons de_int dac_nil)) (DE.rd_ (de_var 3 rfl))))) (dss_cons (O' := []) (ds_for PassesOwn.never rfl (di_r1 rfl T.z_range (DE.rd_ (de_lenK rfl rfl T.z_len (DE.rd_ (de_var 0 rfl))))) (dgn 6 sc_law_tried.nd) (dss_cons (O' := []) (dsn 8 sc_law_tried.nd (DE.cl_ (de_lcv rfl sc_law_tried.nd (dlc_mk [("j", 9)] (di_r1 rfl T.z_range (DE.rd_ (de_var 3 rfl))) (blkOk_by (N := ["conditions", "target", "cell", "size", "draws", "factors", "k", "scale", "base", "j", "item", "fitting", "low", "other", "tried", "less"]) (sc := defScope s_law_tried) (by decide +kernel)) (fun _ _ _ _ _ => (dgn 9 sc_law_tried.nd)) (fun _ _ _ _ _ => dts_nil) (fun _ _ _ _ _ => (de_addI (DE.rd_ (de_ixK rfl (DE.rd_ (de_var 8 rfl)) (DE.rd_ (de_var 9 rfl)))) (DE.rd_ (de_mulI (DE.rd_ (de_ixK rfl (DE.rd_ (de_var 5 rfl)) (DE.rd_ (de_var 6 rfl)))) (DE.rd_ (de_ixK rfl (DE.rd_ (de_ixK rfl (DE.rd_ (de_var 0 rfl)) (DE.rd_ (de_var 6 rfl)))) (DE.rd_ (de_var 9 rfl)))))))))))) dss_nil)) (dss_cons (O' := []) (dsn 8 sc_law_tried.nd (DE.cl_ (de_lcv rfl sc_law_tried.nd (dlc_mk [("item", 10)] (di_seqK rfl (de_var 8 rfl)) (blkOk_by (N := ["conditions", "target", "cell", "size", "draws", "factors", "k", "scale", "base", "j", "item", "fitting", "low", "other", "tried", "less"]) (sc := defScope s_law_tried) (by decide +kernel)) (fun _ _ _ _ _ => (dgn 10 sc_law_tried.nd)) (fun _ _ _ _ _ => dts_nil) (fun _ _ _ _ _ => (de_mulI (DE.rd_ (de_var 7 rfl)) (DE.rd_ (de_var 10 rfl)))))))) (dss_cons (O' := [11]) (dslcO 11 rfl sc_law_tried.nd (dlc_mk [("item", 10)] (di_seqK rfl (de_var 8 rfl)) (blkOk_by (N := ["conditions", "target", "cell", "size", "draws", "factors", "k", "scale", "base", "j", "item", "fitting", "low", "other", "tried", "less"]) (sc := defScope s_law_tried) (by decide +kernel)) (fun _ _ _ _ _ => (dgn 10 sc_law_tried.nd)) (fun _ _ _ _ _ => dts_nil) (fun _ _ _ _ _ => (de_div (DE.rd_ (de_var 10 rfl)) (DE.rd_ (de_var 7 rfl))))) (sw_true rfl rfl rfl (by decide +kernel))) (dss_cons (O' := [11]) (dssetI 11 (de_addI (DE.rd_ (de_ixK rfl (de_varR 11) (DE.rd_ de_int))) (DE.rd_ (de_mod (DE.rd_ (de_ixK rfl (DE.rd_ (de_var 4 rfl)) (DE.rd_ (de_addI (DE.rd_ (de_lenK rfl rfl T.z_len (DE.rd_ (de_var 0 rfl)))) (DE.rd_ de_int))))) (DE.rd_ de_int)))) (DE.rd_ de_int) (fun ph pj => ps_asg ph (pg_sub (pv 11) pj set_list))) (DSs.frz 11 (dss_cons (O' := [12]) (dsnO 12 sc_law_tried.nd (de_listcK rfl rfl T.z_list (DE.rd_ (de_var 11 rfl)))) (dss_cons (O' := [12]) (dssetI 12 (de_sub (DE.rd_ (de_ixK rfl (de_varR 12) (DE.rd_ de_int))) (DE.rd_ de_int)) (DE.rd_ de_int) (fun ph pj => ps_asg ph (pg_sub (pv 12) pj set_list))) (dss_cons (O' := [13, 12]) (dsnO 13 sc_law_tried.nd (de_listcK rfl rfl T.z_list (DE.rd_ (de_var 11 rfl)))) (dss_cons (O' := [13, 12]) (ds_augI 13 sc_law_tried.nd iop_add opd_I0 (DE.rd_ (de_addI (DE.rd_ de_int) (DE.rd_ (de_mod (DE.rd_ (de_div (DE.rd_ (de_ixK rfl (DE.rd_ (de_var 4 rfl)) (DE.rd_ (de_addI (DE.rd_ (de_lenK rfl rfl T.z_len (DE.rd_ (de_var 0 rfl)))) (DE.rd_ de_int))))) (DE.rd_ de_int))) (DE.rd_ de_int))))) (DE.rd_ (de_mod (DE.rd_ (de_ixK rfl (DE.rd_ (de_var 4 rfl)) (DE.rd_ (de_addI (DE.rd_ (de_lenK rfl rfl T.z_len (DE.rd_ (de_var 0 rfl)))) (DE.rd_ de_int))))) (DE.rd_ (de_var 3 rfl)))) (pv 13)) (DSs.frz 12 (dss_cons (O' := [14, 13]) (dsnO 14 sc_law_tried.nd (de_list (dac_cons (DE.cl_ (de_list (dac_cons (de_var 11 rfl) (dac_cons (de_tup (dac_cons (de_var 7 rfl) (dac_cons (DE.cl_ (de_lcv rfl sc_law_tried.nd (dlc_mk [("item", 10)] (di_seqK rfl (de_var 5 rfl)) (blkOk_by (N := ["conditions", "target", "cell", "size", "draws", "factors", "k", "scale", "base", "j", "item", "fitting", "low", "other", "tried", "less"]) (sc := defScope s_law_tried) (by decide +kernel)) (fun _ _ _ _ _ => (dgn 10 sc_law_tried.nd)) (fun _ _ _ _ _ => dts_nil) (fun _ _ _ _ _ => (de_mulI (DE.rd_ (de_var 7 rfl)) (DE.rd_ (de_var 10 rfl))))))) dac_nil))) dac_nil)))) (dac_cons (DE.cl_ (de_list (dac_cons (de_var 11 rfl) (dac_cons (de_tup (dac_cons (de_var 7 rfl) (dac_cons (de_var 5 rfl) dac_nil))) dac_nil)))) (dac_cons (DE.cl_ (de_list (dac_cons (de_var 12 rfl) (dac_cons (de_tup (dac_cons de_int (dac_cons (de_var 5 rfl) dac_nil))) dac_nil)))) dac_nil))))) (DSs.frz 13 (dss_cons (O' := [14]) (dsnO 14 sc_law_tried.nd (de_cat rfl (de_varR 14) (DE.or_ (de_list (dac_cons (DE.cl_ (de_list (dac_cons (de_var 13 rfl) (dac_cons (de_tup (dac_cons de_int (dac_cons (de_var 5 rfl) dac_nil))) dac_nil)))) (dac_cons (DE.cl_ (de_list (dac_cons (de_var 1 rfl) (dac_cons (de_tup (dac_cons (de_var 7 rfl) (dac_cons (de_var 5 rfl) dac_nil))) dac_nil)))) (dac_cons (DE.cl_ (de_list (dac_cons (de_var 11 rfl) (dac_cons (de_tup (dac_cons de_int (dac_cons (DE.cl_ (de_rep (de_list (dac_cons de_int dac_nil)) (DE.rd_ (de_lenK rfl rfl T.z_len (DE.rd_ (de_var 5 rfl)))))) dac_nil))) dac_nil)))) dac_nil))))))) (dss_cons (O' := [14]) (dsnO 14 sc_law_tried.nd (de_cat rfl (de_varR 14) (DE.or_ (de_list (dac_cons (DE.cl_ (de_list (dac_cons (de_var 11 rfl) (dac_cons (de_tup (dac_cons de_int (dac_cons (DE.cl_ (de_cat rfl (DE.rd_ (de_var 5 rfl)) (DE.or_ (de_list (dac_cons de_int dac_nil))))) dac_nil))) dac_nil)))) (dac_cons (DE.cl_ (de_list (dac_cons (de_var 11 rfl) (dac_cons (de_tup (dac_cons de_int (dac_cons (DE.cl_ (de_sliceK rfl (DE.rd_ (de_var 5 rfl)) (do_some (DE.rd_ de_int)) do_none)) dac_nil))) dac_nil)))) (dac_cons (DE.cl_ (de_list (dac_cons (de_var 11 rfl) (dac_cons (de_tup (dac_cons (de_sub (DE.rd_ de_int) (DE.rd_ (de_var 7 rfl))) (dac_cons (DE.cl_ (de_lcv rfl sc_law_tried.nd (dlc_mk [("item", 10)] (di_seqK rfl (de_var 5 rfl)) (blkOk_by (N := ["conditions", "target", "cell", "size", "draws", "factors", "k", "scale", "base", "j", "item", "fitting", "low", "other", "tried", "less"]) (sc := defScope s_law_tried) (by decide +kernel)) (fun _ _ _ _ _ => (dgn 10 sc_law_tried.nd)) (fun _ _ _ _ _ => dts_nil) (fun _ _ _ _ _ => (de_sub (DE.rd_ de_int) (DE.rd_ (de_var 10 rfl))))))) dac_nil))) dac_nil)))) dac_nil))))))) (dss_cons (O' := [14]) (ds_if (dt_gt (DE.rd_ (de_lenK rfl rfl T.z_len (DE.rd_ (de_var 5 rfl)))) (DE.rd_ de_int)) (dss_cons (O' := [15, 14]) (dsnO 15 sc_law_tried.nd (de_listcK rfl rfl T.z_list (DE.rd_ (de_var 5 rfl)))) (dss_cons (O' := [15, 14]) (dssetI 15 (de_sub (DE.rd_ (de_ixK rfl (de_varR 15) (DE.rd_ (de_mod (DE.rd_ (de_ixK rfl (DE.rd_ (de_var 4 rfl)) (DE.rd_ de_int))) (DE.rd_ (de_lenK rfl rfl T.z_len (de_varR 15))))))) (DE.rd_ de_int)) (DE.rd_ (de_mod (DE.rd_ (de_ixK rfl (DE.rd_ (de_var 4 rfl)) (DE.rd_ de_int))) (DE.rd_ (de_lenK rfl rfl T.z_len (de_varR 15))))) (fun ph pj => ps_asg ph (pg_sub (pv 15) pj set_list))) (DSs.frz 15 (dss_cons (O' := [14]) (dsapp 14 (DE.cl_ (de_list (dac_cons (de_var 11 rfl) (dac_cons (de_tup (dac_cons de_int (dac_cons (de_var 15 rfl) dac_nil))) dac_nil)))) (pv 14) (hb := fun ph => pe_bm PySem.F.plainAttrs_list PySem.F.slot_list_append PySem.F.type_list_append mt_append (pv 14) (pa_cons ph pa_nil))) dss_nil)))) dss_nil) (DSs.frz 14 (dss_one (ds_ret (de_var 14 rfl))))))))))))))))))))))))⟩
def B_law : FS := (sSeq (sAsg 1 (fFn R_law_digits (fConsA (fFn R_law_cell (fConsA (fVar 0) (fConsA (fC (.int 0)) fNilA))) (fConsA (fC (.int 2520)) (fConsA (fC (.int 4)) fNilA))))) (sSeq (sAsg 2 (fBin dAdd (fC (.int 1)) (fBin dMod (fBin dIx (fVar 1) (fC (.int 0))) (fC (.int 5))))) (sSeq (sAsg 3 (fBin dMod (fBin dIx (fVar 1) (fC (.int 1))) (fC (.int 7)))) (sSeq (sAsg 4 (fFn R_law_digits (fConsA (fFn R_law_cell (fConsA (fVar 0) (fConsA (fC (.int 1)) fNilA))) (fConsA (fC (.int 27720)) (fConsA (fBin dMul (fBin dAdd (fVar 3) (fC (.int 1))) (fVar 2)) fNilA))))) (sSeq (sAsg 5 (fBin dIx (fFn dList (fConsA (fC (.int 5)) (fConsA (fC (.int 5)) (fConsA (fC (.int 2001)) fNilA)))) (fBin dMod (fBin dIx (fVar 1) (fC (.int 2))) (fC (.int 3))))) (sSeq (sAsg 6 (fLc (iR1 (fBin dAdd (fVar 3) (fC (.int 1)))) (gN 8) tYesF (fLc (iR1 (fVar 2)) (gN 7) tYesF (fBin dSub (fBin dMod (fBin dIx (fVar 4) (fBin dAdd (fBin dMul (fVar 2) (fVar 8)) (fVar 7))) (fVar 5)) (fBin dDiv (fVar 5) (fC (.int 2)))) [7]) [8])) (sSeq (sIf (tV (fBin dEq (fBin dMod (fBin dIx (fVar 1) (fC (.int 3))) (fC (.int 3))) (fC (.int 0)))) (sSeq (sAsg 6 (fLc (iSeq (fVar 6)) (gN 10) tYesF (fLc (iSeq (fVar 10)) (gN 9) tYesF (fBin dAdd (fBin dMul (fVar 9) (fBin dPow (fC (.int 10)) (fC (.int 20)))) (fC (.int 1))) [9]) [10])) sNil) sNil) (sSeq (sAsg 11 (fSl (fVar 6) oNone (oSome (fVar 3)))) (sSeq (sAsg 12 (fFn (g1 dRepr) (fConsA (fVar 11) fNilA))) (sSeq (sFor (iR1 (fC (.int 3))) (gN 8) (sSeq (sFor (iSeq (fFn R_law_tried (fConsA (fVar 11) (fConsA (fBin dIx (fVar 6) (fVar 3)) (fConsA (fBin dAdd (fFn R_law_cell (fConsA (fVar 0) (fConsA (fBin dAdd (fC (.int 2)) (fVar 8)) fNilA))) (fVar 8)) fNilA))))) (gTL [(gN 13), (gN 14)]) (sSeq (sAsg 15 (fFn (g1 dRepr) (fConsA (fFn dList (fConsA (fVar 13) (fConsA (fVar 14) fNilA))) fNilA))) (sSeq (sAsg 16 (fFn R_are_multipliers (fConsA (fVar 11) (fConsA (fVar 13) (fConsA (fVar 14) fNilA))))) (sSeq (sIf (tO (tN (tV (fUn (isTy "bool") (fVar 16)))) (tV (fBin dNe (fVar 16) (fFn R_law_are (fConsA (fVar 11) (fConsA (fVar 13) (fConsA (fVar 14) fNilA))))))) (sRet (fC (.bool false))) sNil) (sSeq (sIf (tO (tV (fBin dNe (fFn (g1 dRepr) (fConsA (fFn dList (fConsA (fVar 13) (fConsA (fVar 14) fNilA))) fNilA)) (fVar 15))) (tV (fBin dNe (fFn (g1 dRepr) (fConsA (fVar 11) fNilA)) (fVar 12)))) (sRet (fC (.bool false))) sNil) sNil))))) sNil)) (sRet (fC (.bool true)))))))))))))
def R_law : List PyData → Option PyData := runF 17 B_law
theorem ok_law (T : Txt KF.K mg) : FnG P w KF.K mg base (L2.CX P w) 3 T.a_law T.d_law ["script"] (spF 1 .cl R_law) :=
  def_nx (k := 2) (B := B_law) (O' := []) T.F_law sc_law rfl rfl (.inl rfl) fun cdv A outer s H E ga => ⟨_, (dss_cons (O' := []) (dsn 1 sc_law.nd (de_call (ok_law_digits T) (ga.mono (by decide)) T.g_law_digits T.F_law_digits.kp T.b_law_digits passL (dac_cons (de_call (ok_law_cell T) (ga.mono (by decide)) T.g_law_cell T.F_law_cell.kp T.b_law_cell passL (dac_cons (de_var 0 rfl) (dac_cons de_int dac_nil)) rfl (fsA_cons (fsA_cons fsA_nil))) (dac_cons de_int (dac_cons de_int dac_nil))) rfl (fsA_cons (fsA_cons (fsA_cons fsA_nil))))) (dss_cons (O' := []) (dsn 2 sc_law.nd (de_addI (DE.rd_ de_int) (DE.rd_ (de_mod (DE.rd_ (de_ixK rfl (DE.rd_ (de_var 1 rfl)) (DE.rd_ de_int))) (DE.rd_ de_int))))) (dss_cons (O' := []) (dsn 3 sc_law.nd (de_mod (DE.rd_ (de_ixK rfl (DE.rd_ (de_var 1 rfl)) (DE.rd_ de_int))) (DE.rd_ de_int))) (dss_cons (O' := []) (dsn 4 sc_law.nd (de_call (ok_law_digits T) (ga.mono (by decide)) T.g_law_digits T.F_law_digits.kp T.b_law_digits passL (dac_cons (de_call (ok_law_cell T) (ga.mono (by decide)) T.g_law_cell T.F_law_cell.kp T.b_law_cell passL (dac_cons (de_var 0 rfl) (dac_cons de_int dac_nil)) rfl (fsA_cons (fsA_cons fsA_nil))) (dac_cons de_int (dac_cons (de_mulI (DE.rd_ (de_addI (DE.rd_ (de_var 3 rfl)) (DE.rd_ de_int))) (DE.rd_ (de_var 2 rfl))) dac_nil))) rfl (fsA_cons (fsA_cons (fsA_cons fsA_nil))))) (dss_cons (O' := []) (dsn 5 sc_law.nd (de_ixK rfl (DE.or_ (de_list (dac_cons de_int (dac_cons de_int (dac_cons de_int dac_nil))))) (DE.rd_ (de_mod (DE.rd_ (de_ixK rfl (DE.rd_ (de_var 1 rfl)) (DE.rd_ de_int))) (DE.rd_ de_int))))) (dss_cons (O' := []) (dslc 6 rfl sc_law.nd (dlc_mk [("k", 8)] (di_r1 rfl T.z_range (DE.rd_ (de_addI (DE.rd_ (de_var 3 rfl)) (DE.rd_ de_int)))) (blkOk_by (N := ["script", "first", "size", "count", "draws", "wide", "rows", "j", "k", "item", "row", "conditions", "kept", "target", "told", "before", "answer"]) (sc := defScope s_law) (by decide +kernel)) (fun _ _ _ _ _ => (dgn 8 sc_law.nd)) (fun _ _ _ _ _ => dts_nil) (fun _ _ _ _ _ => (DE.cl_ (de_lcv rfl sc_law.nd (dlc_mk [("j", 7)] (di_r1 rfl T.z_range (DE.rd_ (de_var 2 rfl))) (blkOk_by (N := ["script", "first", "size", "count", "draws", "wide", "rows", "j", "k", "item", "row", "conditions", "kept", "target", "told", "before", "answer"]) (sc := { kind := ScopeKind.function, names := [(".0", NameKind.local), ("k", NameKind.cell), ("range", NameKind.globalImplicit), ("draws", NameKind.cell), ("size", NameKind.cell), ("wide", NameKind.cell)], isGenerator := false, isCoroutine := false }) (by decide +kernel)) (fun _ _ _ _ _ => (dgn 7 sc_law.nd)) (fun _ _ _ _ _ => dts_nil) (fun _ _ _ _ _ => (de_sub (DE.rd_ (de_mod (DE.rd_ (de_ixK rfl (DE.rd_ (de_var 4 rfl)) (DE.rd_ (de_addI (DE.rd_ (de_mulI (DE.rd_ (de_var 2 rfl)) (DE.rd_ (de_var 8 rfl)))) (DE.rd_ (de_var 7 rfl)))))) (DE.rd_ (de_var 5 rfl)))) (DE.rd_ (de_div (DE.rd_ (de_var 5 rfl)) (DE.rd_ de_int)))))))))) (sw_true rfl rfl rfl (by decide +kernel))) (dss_cons (O' := []) (ds_if (dt_eqK ga.u64 rfl (DE.rd_ (de_mod (DE.rd_ (de_ixK rfl (DE.rd_ (de_var 1 rfl)) (DE.rd_ de_int))) (DE.rd_ de_int))) (DE.rd_ de_int)) (dss_cons (O' := []) (dslc 6 rfl sc_law.nd (dlc_mk [("row", 10)] (di_seqK rfl (de_var 6 rfl)) (blkOk_by (N := ["script", "first", "size", "count", "draws", "wide", "rows", "j", "k", "item", "row", "conditions", "kept", "target", "told", "before", "answer"]) (sc := defScope s_law) (by decide +kernel)) (fun _ _ _ _ _ => (dgn 10 sc_law.nd)) (fun _ _ _ _ _ => dts_nil) (fun _ _ _ _ _ => (DE.cl_ (de_lcv rfl sc_law.nd (dlc_mk [("item", 9)] (di_seqK rfl (de_var 10 rfl)) (blkOk_by (N := ["script", "first", "size", "count", "draws", "wide", "rows", "j", "k", "item", "row", "conditions", "kept", "target", "told", "before", "answer"]) (sc := { kind := ScopeKind.function, names := [(".0", NameKind.local), ("row", NameKind.local)], isGenerator := false, isCoroutine := false }) (by decide +kernel)) (fun _ _ _ _ _ => (dgn 9 sc_law.nd)) (fun _ _ _ _ _ => dts_nil) (fun _ _ _ _ _ => (de_addI (DE.rd_ (de_mulI (DE.rd_ (de_var 9 rfl)) (DE.rd_ (de_pow (DE.rd_ de_int) (DE.rd_ de_int))))) (DE.rd_ de_int)))))))) (sw_true rfl rfl rfl (by decide +kernel))) dss_nil) dss_nil) (dss_cons (O' := []) (dsn 11 sc_law.nd (DE.cl_ (de_sliceK rfl (DE.rd_ (de_var 6 rfl)) do_none (do_some (DE.rd_ (de_var 3 rfl)))))) (dss_cons (O' := []) (dsn 12 sc_law.nd (de_repr rfl ga rfl T.z_repr (DE.rd_ (de_var 11 rfl)))) (dss_cons (O' := []) (ds_for PassesOwn.never rfl (di_r1 rfl T.z_range (DE.rd_ de_int)) (dgn 8 sc_law.nd) (dss_cons (O' := []) (ds_for PassesOwn.never rfl (di_seqK rfl (de_call (ok_law_tried T) (ga.mono (by decide)) T.g_law_tried T.F_law_tried.kp T.b_law_tried passL (dac_cons (de_var 11 rfl) (dac_cons (de_ixK rfl (DE.rd_ (de_var 6 rfl)) (DE.rd_ (de_var 3 rfl))) (dac_cons (de_addI (DE.rd_ (de_call (ok_law_cell T) (ga.mono (by decide)) T.g_law_cell T.F_law_cell.kp T.b_law_cell passL (dac_cons (de_var 0 rfl) (dac_cons (de_addI (DE.rd_ de_int) (DE.rd_ (de_var 8 rfl))) dac_nil)) rfl (fsA_cons (fsA_cons fsA_nil)))) (DE.rd_ (de_var 8 rfl))) dac_nil))) rfl (fsA_cons (fsA_cons (fsA_cons fsA_nil))))) (dg_lstK rfl rfl (dgs_cons (dgn 13 sc_law.nd) (dgs_cons (dgn 14 sc_law.nd) dgs_nil))) (dss_cons (O' := []) (dsn 15 sc_law.nd (de_repr rfl ga rfl T.z_repr (DE.or_ (de_list (dac_cons (de_var 13 rfl) (dac_cons (de_var 14 rfl) dac_nil)))))) (dss_cons (O' := []) (dsn 16 sc_law.nd (de_call (ok_are_multipliers T) (ga.mono (by decide)) T.g_are_multipliers T.F_are_multipliers.kp T.b_are_multipliers passL (dac_cons (de_var 11 rfl) (dac_cons (de_var 13 rfl) (dac_cons (de_var 14 rfl) dac_nil))) rfl (fsA_cons (fsA_cons (fsA_cons fsA_nil))))) (dss_cons (O' := []) (ds_if (DW.dt (dw_or (dt_not (dt_val (DE.rd_ (de_isiK rfl (T := "bool") rfl T.z_isinstance (DE.rd_ (de_var 16 rfl)) (pe_bltn (by rfl) T.z_bool (by decide +kernel) rfl))))) (dw_or1 (dt_neK ga.u64 rfl (DE.rd_ (de_var 16 rfl)) (DE.rd_ (de_call (ok_law_are T) (ga.mono (by decide)) T.g_law_are T.F_law_are.kp T.b_law_are passL (dac_cons (de_var 11 rfl) (dac_cons (de_var 13 rfl) (dac_cons (de_var 14 rfl) dac_nil))) rfl (fsA_cons (fsA_cons (fsA_cons fsA_nil))))))))) (dss_one (ds_ret de_bl)) dss_nil) (dss_cons (O' := []) (ds_if (DW.dt (dw_or (dt_neK ga.u64 rfl (DE.rd_ (de_repr rfl ga rfl T.z_repr (DE.or_ (de_list (dac_cons (de_var 13 rfl) (dac_cons (de_var 14 rfl) dac_nil)))))) (DE.rd_ (de_var 15 rfl))) (dw_or1 (dt_neK ga.u64 rfl (DE.rd_ (de_repr rfl ga rfl T.z_repr (DE.rd_ (de_var 11 rfl)))) (DE.rd_ (de_var 12 rfl)))))) (dss_one (ds_ret de_bl)) dss_nil) dss_nil))))) dss_nil)) (dss_one (ds_ret de_bl))))))))))))⟩
end
end Law
set_option Elab.async false
set_option linter.all false
set_option maxRecDepth 100000
set_option maxHeartbeats 2000000
namespace Law
open PySem PySem.Spec L2 DL
open PyProof.Rows hiding St
/-! ### lists and vectors over data -/
theorem fn1 {G : List PyData → Option PyData} {f : F} {ρ : Rho} {x z : PyData} (h : f ρ = some x) (h2 : G [x] = some z) : fFn G (fConsA f fNilA) ρ = some z := by
  unfold fFn fConsA fNilA
  rw [h, Option.bind_some]
  simp only [Option.bind_some]
  exact h2
theorem app_nx {i : Nat} {f : F} {ρ : Rho} {x : Int} {xs : List Int} (h : f ρ = some (.int x)) (h2 : ρ[i]? = some (some (vecD xs))) (hl : xs.length ≤ 90000) : sApp i f ρ = some (.nx (ρ.set i (some (vecD (xs ++ [x]))))) := by
  unfold sApp
  rw [h, Option.bind_some, h2]
  show (if catC (xs.map PyData.int).length 1 = true then _ else _) = _
  rw [if_pos (catC_le (by rw [List.length_map]; omega))]
  unfold vecD
  rw [List.map_append] <;> rfl
theorem cat_v {a b : List Int} (h : a.length + b.length ≤ 90000) : dCat (vecD a) (vecD b) = some (vecD (a ++ b)) := by
  show (if catC (a.map PyData.int).length (b.map PyData.int).length = true then _ else _) = _
  rw [if_pos (catC_le (by rw [List.length_map, List.length_map]; omega))]
  unfold vecD
  rw [List.map_append] <;> rfl
theorem rep_v {x : Int} {n : Nat} (h : n ≤ 1000) : dRep (vecD [x]) (.int n) = some (vecD (List.replicate n x)) := by
  have e : ∀ n : Nat, (List.replicate n [PyData.int x]).flatten = (List.replicate n x).map PyData.int := by
    intro n
    induction n with
    | zero => rfl
    | succ n ih => rw [List.replicate_succ, List.flatten_cons, ih, List.replicate_succ] <;> rfl
  show (if repC 1 (n : Int) = true then some (PyData.list (List.replicate (n : Int).toNat [PyData.int x]).flatten) else none) = _
  rw [if_pos (show repC 1 (n : Int) = true from decide_eq_true ⟨by omega, by omega, by omega⟩), Int.toNat_natCast, e] <;> rfl
theorem rng_lc {f el : F} {p : Nat} {ρ : Rho} {val : Nat → Int} {n : Nat} (hf : f ρ = some (.int n)) (hn : n ≤ 1000) (he : ∀ i < n, el ((wipeR ρ [p]).set p (some (.int (i : Int)))) = some (.int (val i))) : fLc (iR1 f) (gN p) tYesF el [p] ρ = some (vecD ((List.range n).map val)) := by
  unfold vecD
  rw [List.map_map]
  have hs : iR1 f ρ = some ((List.range n).map fun (i : Nat) => PyData.int (0 + (i : Int))) := by
    rw [iR1_ok hf (rgC_ok (by omega) (by omega))]
    unfold rangeD
    rw [Int.toNat_natCast]
  refine fLc_map (α := Nat) hs (by rw [List.length_range]; omega) fun i hi => ⟨_, rfl, rfl, ?_⟩
  rw [Int.zero_add]
  exact he i (List.mem_range.mp hi)
theorem dAbs_i (a : Int) : dAbs (.int a) = some (.int (a.natAbs : Int)) := by
  show some (PyData.int (if a < 0 then -a else a)) = _
  by_cases h : a < 0
  · rw [if_pos h, show -a = (a.natAbs : Int) by omega]
  · rw [if_neg h, show a = (a.natAbs : Int) by omega]
    simp
def Small (n : Nat) (v : List Int) : Prop := ∀ x ∈ v, x.natAbs < 2 ^ n
def comb (f : Int) (a : List Int) (g : Int) (b : List Int) : List Int := (List.range a.length).map fun i => f * a.getD i 0 + g * b.getD i 0
theorem getD_at {a : List Int} {i : Nat} (h : i < a.length) : a[i]? = some (a.getD i 0) := by
  rw [List.getD_eq_getElem?_getD, List.getElem?_eq_getElem h] <;> rfl
theorem getD_small {n : Nat} {a : List Int} (hs : Small n a) (i : Nat) : (a.getD i 0).natAbs < 2 ^ n := by
  rw [List.getD_eq_getElem?_getD]
  cases h : a[i]? with
  | none => exact Nat.two_pow_pos n
  | some x => exact hs x (List.mem_of_getElem? h)
theorem zip_ints : ∀ (a b : List Int), a.length = b.length → zipD (a.map .int) (b.map .int) = (List.range a.length).map fun i => PyData.tuple [.int (a.getD i 0), .int (b.getD i 0)]
  | [], [], _ => rfl
  | [], _ :: _, h => by cases h
  | _ :: _, [], h => by cases h
  | x :: a, y :: b, h => by
    have ih := zip_ints a b (by simpa using h)
    show PyData.tuple [.int x, .int y] :: zipD (a.map .int) (b.map .int) = _
    rw [ih, List.length_cons, List.range_succ_eq_map, List.map_cons, List.map_map] <;> rfl
theorem zip_lc {f g el : F} {p q : Nat} {ρ : Rho} {val : Nat → Int} {a b : List Int} (hf : f ρ = some (vecD a)) (hg : g ρ = some (vecD b)) (h : a.length = b.length) (hn : a.length ≤ 1000)
    (he : ∀ i < a.length, el (((wipeR ρ [p, q]).set p (some (.int (a.getD i 0)))).set q (some (.int (b.getD i 0)))) = some (.int (val i))) : fLc (iZ f g) (gT [(gN p), (gN q)]) tYesF el [p, q] ρ = some (vecD ((List.range a.length).map val)) := by
  unfold vecD
  rw [List.map_map]
  have hs : iZ f g ρ = some ((List.range a.length).map fun i => PyData.tuple [.int (a.getD i 0), .int (b.getD i 0)]) := by
    unfold iZ
    rw [hf, Option.bind_some, hg, Option.bind_some]
    exact congrArg some (zip_ints a b h)
  exact fLc_map (α := Nat) hs (by rw [List.length_range]; omega) fun i hi => ⟨_, rfl, rfl, he i (List.mem_range.mp hi)⟩
abbrev GF := List PyData → Option PyData
theorem fnn2 {G : GF} {f g : F} {ρ : Rho} {x y z : PyData} (h1 : f ρ = some x) (h2 : g ρ = some y) (h : G [x, y] = some z) : fFn G (fConsA f (fConsA g fNilA)) ρ = some z := by
  unfold fFn fConsA fNilA
  rw [h1, Option.bind_some]
  simp only [Option.bind_some]
  rw [h2]
  simp only [Option.bind_some]
  exact h
theorem fnn4 {G : GF} {f g f' g' : F} {ρ : Rho} {x y x' y' z : PyData} (h1 : f ρ = some x) (h2 : g ρ = some y) (h3 : f' ρ = some x') (h4 : g' ρ = some y') (h : G [x, y, x', y'] = some z) : fFn G (fConsA f (fConsA g (fConsA f' (fConsA g' fNilA)))) ρ = some z := by
  unfold fFn fConsA fNilA
  rw [h1, Option.bind_some]
  simp only [Option.bind_some]
  rw [h2]
  simp only [Option.bind_some]
  rw [h3]
  simp only [Option.bind_some]
  rw [h4]
  simp only [Option.bind_some]
  exact h
theorem tV_b {f : F} {ρ : Rho} {b : Bool} (h : f ρ = some (.bool b)) : tV f ρ = some b := by
  unfold tV
  rw [h] <;> rfl
theorem tN_b {t : FT} {ρ : Rho} {b : Bool} (h : t ρ = some b) : tN t ρ = some (!b) := by
  unfold tN
  rw [h] <;> rfl
theorem tO_ff {a b : FT} {ρ : Rho} (h : a ρ = some false) (h2 : b ρ = some false) : tO a b ρ = some false := by
  unfold tO
  rw [h, Option.bind_some, if_neg Bool.false_ne_true]
  exact h2
theorem fnn3 {G : List PyData → Option PyData} {f g f' : F} {ρ : Rho} {x y x' z : PyData} (h1 : f ρ = some x) (h2 : g ρ = some y) (h3 : f' ρ = some x') (h : G [x, y, x'] = some z) : fFn G (fConsA f (fConsA g (fConsA f' fNilA))) ρ = some z := by
  unfold fFn fConsA fNilA
  rw [h1, Option.bind_some]
  simp only [Option.bind_some]
  rw [h2]
  simp only [Option.bind_some]
  rw [h3]
  simp only [Option.bind_some]
  exact h
abbrev Vc := List Int
def matD (m : List Vc) : PyData := .list (m.map vecD)
theorem matD_len (m : List Vc) : dLen (matD m) = some (.int m.length) := by
  show some (PyData.int ((m.map vecD).length : Int)) = _
  rw [List.length_map]
theorem matD_cat {a b : List Vc} (h : a.length + b.length ≤ 90000) : dCat (matD a) (matD b) = some (matD (a ++ b)) := by
  show (if catC (a.map vecD).length (b.map vecD).length = true then _ else _) = _
  rw [if_pos (catC_le (by rw [List.length_map, List.length_map]; omega))]
  unfold matD
  rw [List.map_append] <;> rfl
theorem matD_ix {m : List Vc} {k : Nat} {v : Vc} (h : m[k]? = some v) : dIx (matD m) (.int (k : Int)) = some (vecD v) := by
  show atI (m.map vecD) (k : Int) = _
  exact atI_nat (by rw [List.getElem?_map, h] <;> rfl)
theorem mat_map {f el : F} {p : Nat} {ρ : Rho} {m : List Vc} {g : Vc → Vc} (hf : f ρ = some (matD m)) (hl : m.length ≤ 90000) (he : ∀ v ∈ m, el ((wipeR ρ [p]).set p (some (vecD v))) = some (vecD (g v))) : fLc (iSeq f) (gN p) tYesF el [p] ρ = some (matD (m.map g)) := by
  unfold matD
  rw [List.map_map]
  refine fLc_map (α := Vc) (h := vecD) (xs := m) (by unfold iSeq; rw [hf] <;> rfl) hl fun v hv => ⟨_, rfl, rfl, he v hv⟩
theorem lcF_filter {k : FG} {t : FT} {el : F} {ρ : Rho} {α : Type} {h g : α → PyData} {P : α → Bool} : ∀ {xs : List α}, (∀ x ∈ xs, ∃ ρ1, k (h x) ρ = some ρ1 ∧ t ρ1 = some (P x) ∧ (P x = true → el ρ1 = some (g x))) → lcF k t el ρ (xs.map h) = some ((xs.filter P).map g)
  | [], _ => rfl
  | x :: xs, hx => by
    obtain ⟨ρ1, h1, h2, h3⟩ := hx x (List.mem_cons_self ..)
    have ih := lcF_filter (xs := xs) fun y hy => hx y (List.mem_cons_of_mem _ hy)
    show (k (h x) ρ).bind _ = _
    rw [h1, Option.bind_some, h2, Option.bind_some]
    cases hP : P x with
    | true => rw [if_pos rfl, h3 hP, Option.bind_some, ih, List.filter_cons_of_pos hP] <;> rfl
    | false => rw [if_neg Bool.false_ne_true, ih, List.filter_cons_of_neg (by rw [hP]; exact Bool.false_ne_true)]
theorem fLc_filter {src : FA} {k : FG} {t : FT} {el : F} {vs : List Nat} {ρ : Rho} {α : Type} {h g : α → PyData} {P : α → Bool} {xs : List α} (hs : src ρ = some (xs.map h)) (hl : xs.length ≤ 90000) (hx : ∀ x ∈ xs, ∃ ρ1, k (h x) (wipeR ρ vs) = some ρ1 ∧ t ρ1 = some (P x) ∧ (P x = true → el ρ1 = some (g x))) :
    fLc src k t el vs ρ = some (.list ((xs.filter P).map g)) := by
  unfold fLc
  rw [hs, Option.bind_some, if_pos (catC_le (by rw [List.length_map]; omega)), lcF_filter hx] <;> rfl
theorem cut_l {m : List Vc} {k : Nat} : DL.cutD (m.map vecD) none (some (k : Int)) = (m.take k).map vecD := by
  unfold DL.cutD
  rw [HT.sIx_none, HT.sIx_nat, List.drop_zero, Nat.sub_zero, List.map_take, List.length_map, ← List.length_map (f := vecD), List.take_eq_take_iff]
  omega
theorem cut_r {m : List Vc} {k : Nat} : DL.cutD (m.map vecD) (some (k : Int)) none = (m.drop k).map vecD := by
  unfold DL.cutD
  rw [HT.sIx_none, HT.sIx_nat, List.map_drop]
  by_cases h : k ≤ (m.map vecD).length
  · rw [Nat.min_eq_left h, List.take_of_length_le (by rw [List.length_drop]; omega)]
  · rw [Nat.min_eq_right (by omega), List.drop_of_length_le (Nat.le_refl _), List.drop_of_length_le (by omega), List.take_nil]
theorem setI_v {i j : Nat} {fi fe : F} {ρ : Rho} {v : Vc} {x : Int} (hx : fe ρ = some (.int x)) (hj : fi ρ = some (.int (j : Int))) (hv : ρ[i]? = some (some (vecD v))) (hl : j < v.length) : sSetI i fi fe ρ = some (.nx (ρ.set i (some (vecD (v.set j x))))) := by
  unfold sSetI
  rw [hx, Option.bind_some, hj, Option.bind_some, hv]
  show (ixN (v.map PyData.int).length (j : Int)).map _ = _
  have : ixN (v.map PyData.int).length (j : Int) = some j := by
    unfold ixN
    rw [List.length_map]
    simp
    omega
  rw [this]
  show some (Out.nx (ρ.set i (some (.list ((v.map PyData.int).set j (.int x)))))) = _
  unfold vecD
  rw [List.map_set]
theorem asgG_nx {k : FG} {f : F} {ρ ρ' : Rho} {d : PyData} (h : f ρ = some d) (h2 : k d ρ = some ρ') : sAsgG k f ρ = some (.nx ρ') := by
  unfold sAsgG
  rw [h, Option.bind_some, h2] <;> rfl
theorem app_l {i : Nat} {f : F} {ρ : Rho} {y : PyData} {xs : List PyData} (h : f ρ = some y) (h2 : ρ[i]? = some (some (.list xs))) (hl : xs.length ≤ 90000) : sApp i f ρ = some (.nx (ρ.set i (some (.list (xs ++ [y]))))) := by
  unfold sApp
  rw [h, Option.bind_some, h2]
  show (if catC xs.length 1 = true then _ else _) = _
  rw [if_pos (catC_le (by omega))] <;> rfl
theorem Small.up {n m : Nat} {v : Vc} (h : Small n v) (hm : n ≤ m) : Small m v := fun x hx => Nat.lt_of_lt_of_le (h x hx) (Nat.pow_le_pow_right (by decide) hm)
theorem listOf_v (v : Vc) : dListOf (vecD v) = some (vecD v) := rfl
/-! ### cells and digits -/
def cellA (ns : List Int) (k : Int) : Int := if k < ns.length then ((ns.getD k.toNat 0).natAbs : Int) else 0
theorem cellA_nn (ns : List Int) (k : Int) : 0 ≤ cellA ns k := by
  unfold cellA
  split <;> omega
theorem R_cell (ns : List Int) {k : Int} (hk : 0 ≤ k) : R_law_cell [vecD ns, .int k] = some (.int (cellA ns k)) := by
  unfold R_law_cell B_law_cell cellA
  by_cases h : k < ns.length
  · rw [if_pos h]
    have h1 : ns[k.toNat]? = some (ns.getD k.toNat 0) := by
      rw [List.getD_eq_getElem?_getD, List.getElem?_eq_getElem (by omega)] <;> rfl
    have h2 := dIx_v (i := k) (by omega : k = (k.toNat : Int)) h1
    exact runF_rt (seq_rt ((if_t ((tV_b ((fBin_eq rfl (fn1 rfl (dLen_v ns))).trans (dLt_i ..))).trans (by rw [decide_eq_true h]))).trans (ret_rt (fn1 (fn1 ((fBin_eq rfl rfl).trans h2) rfl) (dAbs_i _)))))
  · rw [if_neg h]
    exact runF_rt (seq_nx ((if_f ((tV_b ((fBin_eq rfl (fn1 rfl (dLen_v ns))).trans (dLt_i ..))).trans (by rw [decide_eq_false h]))).trans rfl) (ret_rt rfl))
def dgB : FS := (sSeq (sIf (tV (fVar 4)) (sSeq (sApp 3 (fBin dMod (fFn (g1 dInt) (fConsA (fVar 0) fNilA)) (fVar 1))) (sSeq (sAsg 0 (fBin dDiv (fVar 0) (fVar 1))) sNil)) (sSeq (sApp 3 (fBin dMod (fBin dMod (fFn (g1 dInt) (fConsA (fBin dAdd (fBin dAdd (fBin dMul (fVar 0) (fC (.int 48271))) (fBin dMul (fBin dMul (fBin dAdd (fVar 5) (fC (.int 1))) (fBin dAdd (fVar 5) (fC (.int 5)))) (fC (.int 69621)))) (fBin dMul (fBin dDiv (fVar 0) (fC (.int 97))) (fVar 5))) fNilA)) (fC (.int 2147483647))) (fVar 1))) sNil)) sNil)
structure DgI (b : Int) (m : Int) (lg : Bool) (i : Nat) (ρ : Rho) : Prop where
  ex : ∃ (c : Int) (ds : Vc) (x5 : Option PyData), ρ = [some (.int c), some (.int b), some (.int m), some (vecD ds), some (.bool lg), x5] ∧ (lg = false → 0 ≤ c ∧ c < 10 ^ 18) ∧ ds.length = i ∧ ∀ x ∈ ds, 0 ≤ x ∧ x < b
theorem dg_step {b m : Int} {lg : Bool} {i : Nat} {ρ : Rho} (hb : 0 < b) (hb2 : b < 2 ^ 31) (hi : i < 1000) (h : DgI b m lg i ρ) : ∃ ρ1 ρ2, gN 5 (.int (0 + (i : Int))) ρ = some ρ1 ∧ (dgB ρ1 = some (.nx ρ2) ∨ dgB ρ1 = some (.ct ρ2)) ∧ DgI b m lg (i + 1) ρ2 := by
  obtain ⟨c, ds, x5, rfl, hc, hl, hd⟩ := h
  rw [Int.zero_add]
  have new : ∀ z : Int, ∀ x ∈ ds ++ [z % b], 0 ≤ x ∧ x < b := fun z x hx => by
    rcases List.mem_append.mp hx with hx | hx
    · exact hd x hx
    · rw [List.mem_singleton.mp hx]
      exact ⟨Int.emod_nonneg _ (by omega), Int.emod_lt_of_pos _ hb⟩
  have nlen : ∀ z : Int, (ds ++ [z]).length = i + 1 := fun z => by rw [List.length_append, List.length_singleton, hl]
  refine ⟨[some (.int c), some (.int b), some (.int m), some (vecD ds), some (.bool lg), some (.int (i : Int))], ?_⟩
  cases lg with
  | true =>
    refine ⟨[some (.int (c / b)), some (.int b), some (.int m), some (vecD (ds ++ [c % b])), some (.bool true), some (.int (i : Int))], rfl, .inl ?_, ⟨c / b, ds ++ [c % b], _, rfl, fun z => (nomatch z), nlen _, new c⟩⟩
    have h1 : fBin dMod (fFn (g1 dInt) (fConsA (fVar 0) fNilA)) (fVar 1) [some (.int c), some (.int b), some (.int m), some (vecD ds), some (.bool true), some (.int (i : Int))] = some (.int (c % b)) := (fBin_eq (fn1 rfl rfl) rfl).trans (dMod_p hb)
    have h2 : fBin dDiv (fVar 0) (fVar 1) [some (.int c), some (.int b), some (.int m), some (vecD (ds ++ [c % b])), some (.bool true), some (.int (i : Int))] = some (.int (c / b)) := (fBin_eq rfl rfl).trans (dDiv_p (n := 31) hb (by omega) (by decide) (by decide))
    exact seq_nx ((if_t (tV_b rfl)).trans (seq_nx (app_nx h1 rfl (by omega)) (seq_nx (asg_nx h2) rfl))) rfl
  | false =>
    obtain ⟨c0, c1⟩ := hc rfl
    have hk : ((i : Int)).natAbs < 2 ^ 10 := by omega
    refine ⟨[some (.int c), some (.int b), some (.int m), some (vecD (ds ++ [((c * 48271 + ((i : Int) + 1) * ((i : Int) + 5) * 69621 + c / 97 * (i : Int)) % 2147483647) % b])), some (.bool false), some (.int (i : Int))], rfl, .inl ?_, ⟨c, _, _, rfl, fun _ => ⟨c0, c1⟩, nlen _, new _⟩⟩
    have m1 : dMul (.int c) (.int 48271) = some (.int (c * 48271)) := dMul_b (n := 60) (m := 16) (by omega) (by decide) (by decide)
    have m2 : dMul (.int ((i : Int) + 1)) (.int ((i : Int) + 5)) = some (.int (((i : Int) + 1) * ((i : Int) + 5))) := dMul_b (n := 11) (m := 11) (by omega) (by omega) (by decide)
    have q : (((i : Int) + 1) * ((i : Int) + 5)).natAbs < 2 ^ 22 := by
      rw [Int.natAbs_mul, show (2 : Nat) ^ 22 = 2 ^ 11 * 2 ^ 11 from rfl]
      exact Nat.mul_lt_mul_of_lt_of_lt (show ((i : Int) + 1).natAbs < 2 ^ 11 by omega) (show ((i : Int) + 5).natAbs < 2 ^ 11 by omega)
    have m3 : dMul (.int (((i : Int) + 1) * ((i : Int) + 5))) (.int 69621) = some (.int (((i : Int) + 1) * ((i : Int) + 5) * 69621)) := dMul_b (n := 22) (m := 17) q (by decide) (by decide)
    have d1 : dDiv (.int c) (.int 97) = some (.int (c / 97)) := dDiv_p (n := 7) (by decide) (by decide) (by decide) (by decide)
    have m4 : dMul (.int (c / 97)) (.int (i : Int)) = some (.int (c / 97 * (i : Int))) := dMul_b (n := 60) (m := 10) (by omega) hk (by decide)
    have h1 : fBin dMod (fBin dMod (fFn (g1 dInt) (fConsA (fBin dAdd (fBin dAdd (fBin dMul (fVar 0) (fC (.int 48271))) (fBin dMul (fBin dMul (fBin dAdd (fVar 5) (fC (.int 1))) (fBin dAdd (fVar 5) (fC (.int 5)))) (fC (.int 69621)))) (fBin dMul (fBin dDiv (fVar 0) (fC (.int 97))) (fVar 5))) fNilA)) (fC (.int 2147483647))) (fVar 1) [some (.int c), some (.int b), some (.int m), some (vecD ds), some (.bool false), some (.int (i : Int))] = some (.int (((c * 48271 + ((i : Int) + 1) * ((i : Int) + 5) * 69621 + c / 97 * (i : Int)) % 2147483647) % b)) := by
      refine (fBin_eq ((fBin_eq (fn1 ((fBin_eq ((fBin_eq ((fBin_eq rfl rfl).trans m1) ((fBin_eq ((fBin_eq ((fBin_eq rfl rfl).trans (dAdd_i ..)) ((fBin_eq rfl rfl).trans (dAdd_i ..))).trans m2) rfl).trans m3)).trans (dAdd_i ..)) ((fBin_eq ((fBin_eq rfl rfl).trans d1) rfl).trans m4)).trans (dAdd_i ..)) rfl) rfl).trans (dMod_p (by decide))) rfl).trans (dMod_p hb)
    exact seq_nx ((if_f (tV_b rfl)).trans (seq_nx (app_nx h1 rfl (by omega)) rfl)) rfl
theorem R_digits {c b : Int} {m : Nat} (hc : 0 ≤ c) (hb : 0 < b) (hb2 : b < 2 ^ 31) (hm : m ≤ 1000) : ∃ ds : Vc, R_law_digits [.int c, .int b, .int (m : Int)] = some (vecD ds) ∧ ds.length = m ∧ ∀ x ∈ ds, 0 ≤ x ∧ x < b := by
  have hp : fBin dPow (fC (.int 10)) (fC (.int 18)) [some (.int c), some (.int b), some (.int (m : Int)), some (.list []), none, none] = some (.int (10 ^ 18)) := rfl
  obtain ⟨ρ', e, ⟨c', ds, x5, rfl, _, hl, hd⟩⟩ := loop_go (k := gN 5) (B := dgB) (DgI b m (decide (10 ^ 18 ≤ c))) (ds := rangeD 0 m) 0 (ρ := [some (.int c), some (.int b), some (.int (m : Int)), some (vecD []), some (.bool (decide (10 ^ 18 ≤ c))), none]) ⟨c, [], none, rfl, fun h => ⟨hc, by have := of_decide_eq_false h; omega⟩, rfl, fun x hx => nomatch hx⟩ fun j d ρ hj h => by
    have hjm : j < m := by
      have := (List.getElem?_eq_some_iff.mp hj).1
      rwa [rangeD_length] at this
    rw [rangeD_get hjm] at hj
    cases hj
    rw [Nat.zero_add] at h ⊢
    exact dg_step hb hb2 (by omega) h
  rw [Nat.zero_add, rangeD_length] at hl
  refine ⟨ds, ?_, hl, hd⟩
  unfold R_law_digits B_law_digits
  exact runF_rt (seq_nx (asg_nx (d := .list []) rfl) (seq_nx (asg_nx ((fBin_eq rfl hp).trans (dGe_i ..))) (seq_nx ((for_eq (iR1_ok (j := (m : Int)) rfl (rgC_ok (by omega) (by omega)))).trans e) (ret_rt rfl))))
end Law
set_option Elab.async false
set_option linter.all false
set_option maxRecDepth 100000
set_option maxHeartbeats 2000000
namespace Law
open PySem PySem.Spec L2 DL
open PyProof.Rows hiding St
/-! ### multipliers -/
theorem comb_length (f : Int) (a : List Int) (g : Int) (b : List Int) : (comb f a g b).length = a.length := by
  unfold comb
  rw [List.length_map, List.length_range]
theorem filt_len (l : List Int) : (((l.filter fun x => x != 0).length : Int) == 0) = !(l.any fun x => x != 0) := by
  rw [Bool.eq_iff_iff, beq_iff_eq, Bool.not_eq_true', List.any_eq_false]
  constructor
  · intro h x hx hz
    have : (l.filter fun x => x != 0).length = 0 := by omega
    rw [List.length_eq_zero_iff, List.filter_eq_nil_iff] at this
    exact this x hx hz
  · intro h
    have : (l.filter fun x => x != 0) = [] := List.filter_eq_nil_iff.mpr h
    rw [this] <;> rfl
def idx (s k : Nat) : List PyData := (List.range' s k).map fun (i : Nat) => PyData.int (i : Int)
theorem rangeD_idx (m : Nat) : rangeD 0 m = idx 0 m := by
  unfold rangeD idx
  rw [← List.range_eq_range']
  exact List.map_congr_left fun i _ => by rw [Int.zero_add]
theorem idx_succ (s k : Nat) : idx s (k + 1) = .int (s : Int) :: idx (s + 1) k := by
  unfold idx
  rw [List.range'_succ] <;> rfl
theorem tO_b {a b : FT} {ρ : Rho} {x y : Bool} (h : a ρ = some x) (h2 : b ρ = some y) : tO a b ρ = some (x || y) := by
  unfold tO
  rw [h, Option.bind_some]
  cases x with
  | false => rw [if_neg Bool.false_ne_true, h2] <;> rfl
  | true => rw [if_pos rfl] <;> rfl
theorem fAnd_b {f g : F} {ρ : Rho} {x y : Bool} (h : f ρ = some (.bool x)) (h2 : g ρ = some (.bool y)) : fAnd f g ρ = some (.bool (x && y)) := by
  unfold fAnd
  rw [h, Option.bind_some]
  cases x with
  | false => rfl
  | true => exact h2
theorem cutI_r {v : Vc} {k : Nat} : DL.cutD (v.map PyData.int) (some (k : Int)) none = (v.drop k).map PyData.int := by
  unfold DL.cutD
  rw [HT.sIx_none, HT.sIx_nat, List.map_drop]
  by_cases h : k ≤ (v.map PyData.int).length
  · rw [Nat.min_eq_left h, List.take_of_length_le (by rw [List.length_drop]; omega)]
  · rw [Nat.min_eq_right (by omega), List.drop_of_length_le (Nat.le_refl _), List.drop_of_length_le (by omega), List.take_nil]
theorem sl_v {f : F} {ρ : Rho} {v : Vc} (h : f ρ = some (vecD v)) : fSl f (oSome (fC (.int 1))) oNone ρ = some (vecD (v.drop 1)) := by
  unfold fSl
  rw [h, Option.bind_some]
  show some (PyData.list (DL.cutD (v.map PyData.int) (some ((1 : Nat) : Int)) none)) = _
  rw [cutI_r] <;> rfl
theorem dAny_v (bs : List Bool) : dAny (.list (bs.map PyData.bool)) = some (.bool (bs.any id)) := by
  show (boolsOf (bs.map PyData.bool)).map _ = _
  rw [boolsOf_v] <;> rfl
def rst : List Int → List Vc → Vc → Vc
  | f :: fs, c :: cs, r => rst fs cs (comb 1 r (-f) c)
  | _, _, r => r
def fin (r : Vc) : Bool := decide (0 ≤ r.getD 0 0) && !((r.drop 1).any fun n => n != 0)
def res (s : Int) (fs : List Int) (cs : List Vc) (t : Vc) : Bool := if (decide (s < 1) || ((!decide (fs.length = cs.length)) || fs.any fun f => decide (f < 0))) = true then false else fin (rst fs cs (t.map (s * ·)))
theorem small_comb {n m : Nat} {a b : Vc} {f g : Int} (hf : f.natAbs < 2 ^ m) (hg : g.natAbs < 2 ^ m) (ha : Small n a) (hb : Small n b) : Small (n + m + 1) (comb f a g b) := fun x hx => by
  unfold comb at hx
  obtain ⟨i, _, rfl⟩ := List.mem_map.mp hx
  have h1 := Nat.mul_lt_mul_of_lt_of_lt (getD_small ha i) hf
  have h2 := Nat.mul_lt_mul_of_lt_of_lt (getD_small hb i) hg
  have e : 2 ^ (n + m + 1) = 2 ^ n * 2 ^ m + 2 ^ n * 2 ^ m := by rw [Nat.pow_succ, Nat.pow_add]; omega
  have := Int.natAbs_add_le (f * a.getD i 0) (g * b.getD i 0)
  rw [Int.natAbs_mul, Int.natAbs_mul] at this
  rw [Nat.mul_comm] at h1 h2
  omega
theorem R_comb {n m : Nat} {a b : List Int} {f g : Int} (hf : f.natAbs < 2 ^ m) (hg : g.natAbs < 2 ^ m) (ha : Small n a) (hb : Small n b) (hnm : n + m ≤ 100000) (h : a.length = b.length) (hl : a.length ≤ 1000) : R_combined [.int f, vecD a, .int g, vecD b] = some (vecD (comb f a g b)) := by
  unfold R_combined B_combined
  refine runF_rt (ret_rt (zip_lc (val := fun i => f * a.getD i 0 + g * b.getD i 0) rfl rfl h hl fun i hi => ?_))
  exact (fBin_eq ((fBin_eq rfl rfl).trans (dMul_b hf (getD_small ha i) (by omega))) ((fBin_eq rfl rfl).trans (dMul_b hg (getD_small hb i) (by omega)))).trans (dAdd_i ..)
theorem scal_lc {f el : F} {p : Nat} {ρ : Rho} {val : Int → Int} {v : Vc} (hf : f ρ = some (vecD v)) (hn : v.length ≤ 1000) (he : ∀ x ∈ v, el ((wipeR ρ [p]).set p (some (.int x))) = some (.int (val x))) : fLc (iSeq f) (gN p) tYesF el [p] ρ = some (vecD (v.map val)) := by
  unfold vecD
  rw [List.map_map]
  exact fLc_map (α := Int) (h := PyData.int) (xs := v) (by unfold iSeq; rw [hf] <;> rfl) (by omega) fun x hx => ⟨_, rfl, rfl, he x hx⟩
def arB : FS := (sSeq (sAsg 6 (fFn R_combined (fConsA (fC (.int 1)) (fConsA (fVar 6) (fConsA (fUn dNeg (fVar 5)) (fConsA (fVar 8) fNilA)))))) sNil)
theorem ar_loop {n : Nat} (hn : n ≤ 1000) (x0 x1 x2 x3 x4 x7 : Option PyData) : ∀ (fs : List Int) (cs : List Vc) (r : Vc) (B : Nat) (x5 x8 : Option PyData), (∀ f ∈ fs, f.natAbs < 2 ^ 41) → (∀ c ∈ cs, c.length = n ∧ Small B c) → r.length = n → Small B r → B + 42 * fs.length ≤ 90000 →
    ∃ y5 y8, loopF (gT [(gN 5), (gN 8)]) arB (zipD (fs.map PyData.int) (cs.map vecD)) [x0, x1, x2, x3, x4, x5, some (vecD r), x7, x8] = some (.nx [x0, x1, x2, x3, x4, y5, some (vecD (rst fs cs r)), x7, y8]) ∧ (rst fs cs r).length = n
  | [], cs, r, B, x5, x8, _, _, hr, _, _ => ⟨x5, x8, by cases cs <;> rfl, by cases cs <;> exact hr⟩
  | f :: fs, [], r, B, x5, x8, _, _, hr, _, _ => ⟨x5, x8, rfl, hr⟩
  | f :: fs, c :: cs, r, B, x5, x8, hf, hc, hr, sr, hB => by
    rw [List.length_cons] at hB
    obtain ⟨lc, sc⟩ := hc c (List.mem_cons_self ..)
    have hf0 := hf f (List.mem_cons_self ..)
    have hg : (-f).natAbs < 2 ^ 41 := by rw [Int.natAbs_neg]; exact hf0
    have e := R_comb (n := B) (m := 41) (f := 1) (g := -f) (a := r) (b := c) (by decide) hg sr sc (by omega) (by omega) (by omega)
    have s1 := small_comb (n := B) (m := 41) (f := 1) (g := -f) (a := r) (b := c) (by decide) hg sr sc
    obtain ⟨y5, y8, ih, hl⟩ := ar_loop hn x0 x1 x2 x3 x4 x7 fs cs (comb 1 r (-f) c) (B + 42) (some (.int f)) (some (vecD c)) (fun g hg => hf g (List.mem_cons_of_mem _ hg)) (fun d hd => ⟨(hc d (List.mem_cons_of_mem _ hd)).1, (hc d (List.mem_cons_of_mem _ hd)).2.up (by omega)⟩) (by rw [comb_length, hr]) s1 (by omega)
    refine ⟨y5, y8, ?_, hl⟩
    have hb : arB [x0, x1, x2, x3, x4, some (.int f), some (vecD r), x7, some (vecD c)] = some (.nx [x0, x1, x2, x3, x4, some (.int f), some (vecD (comb 1 r (-f) c)), x7, some (vecD c)]) := seq_nx (asg_nx (fnn4 rfl rfl rfl rfl e)) rfl
    show Option.bind (some [x0, x1, x2, x3, x4, some (.int f), some (vecD r), x7, some (vecD c)]) _ = _
    rw [Option.bind_some, hb, Option.bind_some]
    exact ih
section
variable {n B : Nat} {s : Int} {fs : List Int} {cs : List Vc} {t : Vc}
theorem small_scal (hs : s.natAbs < 2 ^ 41) (ht : Small B t) : Small (B + 41) (t.map (s * ·)) := fun x hx => by
  obtain ⟨y, hy, rfl⟩ := List.mem_map.mp hx
  rw [Int.natAbs_mul, Nat.mul_comm, Nat.pow_add]
  exact Nat.mul_lt_mul_of_lt_of_lt (ht y hy) hs
theorem neg_lc (v : List Int) (hl : v.length ≤ 1000) {ρ : Rho} {p : Nat} {f : F} (hf : f ρ = some (vecD v)) (hv : ∀ x : Int, fVar p ((wipeR ρ [p]).set p (some (.int x))) = some (.int x)) : fFn (g1 dAny) (fConsA (fLc (iSeq f) (gN p) tYesF (fBin dLt (fVar p) (fC (.int 0))) [p]) fNilA) ρ = some (.bool (v.any fun f => decide (f < 0))) := by
  have h : fLc (iSeq f) (gN p) tYesF (fBin dLt (fVar p) (fC (.int 0))) [p] ρ = some (.list ((v.map fun f => decide (f < 0)).map PyData.bool)) := by
    rw [List.map_map]
    exact fLc_map (α := Int) (h := PyData.int) (xs := v) (by unfold iSeq; rw [hf] <;> rfl) (by omega) fun x hx => ⟨_, rfl, rfl, (fBin_eq (hv x) rfl).trans (dLt_i ..)⟩
  refine (fn1 h (dAny_v _)).trans ?_
  rw [List.any_map] <;> rfl
theorem R_arem (hn : n ≤ 1000) (hn0 : 0 < n) (hs : s.natAbs < 2 ^ 41) (hf : ∀ f ∈ fs, f.natAbs < 2 ^ 41) (hc : ∀ c ∈ cs, c.length = n ∧ Small B c) (ht : t.length = n) (st : Small B t) (hl : fs.length ≤ 1000) (hB : B ≤ 1000) : R_are_multipliers [matD cs, vecD t, .tuple [.int s, vecD fs]] = some (.bool (res s fs cs t)) := by
  have t1 : (tO (tV (fBin dLt (fVar 3) (fC (.int 1)))) (tO (tV (fBin dNe (fFn (g1 dLen) (fConsA (fVar 4) fNilA)) (fFn (g1 dLen) (fConsA (fVar 0) fNilA)))) (tV (fFn (g1 dAny) (fConsA (fLc (iSeq (fVar 4)) (gN 5) tYesF (fBin dLt (fVar 5) (fC (.int 0))) [5]) fNilA))))) [some (matD cs), some (vecD t), some (.tuple [.int s, vecD fs]), some (.int s), some (vecD fs), none, none, none, none] = some (decide (s < 1) || ((!decide (fs.length = cs.length)) || fs.any fun f => decide (f < 0))) := by
    refine tO_b (tV_b ((fBin_eq rfl rfl).trans (dLt_i ..))) (tO_b (tV_b (((fBin_eq (fn1 rfl (dLen_v fs)) (fn1 rfl (matD_len cs))).trans (dNe_i ..)).trans ?_)) (tV_b (neg_lc fs hl rfl fun x => rfl)))
    congr 3
    rw [Bool.eq_iff_iff, beq_iff_eq, decide_eq_true_iff]
    omega
  unfold R_are_multipliers B_are_multipliers res
  cases hc1 : (decide (s < 1) || ((!decide (fs.length = cs.length)) || fs.any fun f => decide (f < 0))) with
  | true =>
    rw [hc1] at t1
    rw [if_pos rfl]
    exact runF_rt (seq_nx (asgG_nx rfl rfl) (seq_rt ((if_t t1).trans (ret_rt rfl))))
  | false =>
    rw [hc1] at t1
    rw [if_neg Bool.false_ne_true]
    have h6 : fLc (iSeq (fVar 1)) (gN 7) tYesF (fBin dMul (fVar 3) (fVar 7)) [7] [some (matD cs), some (vecD t), some (.tuple [.int s, vecD fs]), some (.int s), some (vecD fs), none, none, none, none] = some (vecD (t.map (s * ·))) := scal_lc rfl (by omega) fun x hx => (fBin_eq rfl rfl).trans (dMul_b (n := 41) (m := B) hs (st x hx) (by omega))
    obtain ⟨y5, y8, e, hlr⟩ := ar_loop hn (some (matD cs)) (some (vecD t)) (some (.tuple [.int s, vecD fs])) (some (.int s)) (some (vecD fs)) none fs cs (t.map (s * ·)) (B + 41) none none hf (fun c h => ⟨(hc c h).1, (hc c h).2.up (by omega)⟩) (by rw [List.length_map, ht]) (small_scal hs st) (by omega)
    have hz : iZ (fVar 4) (fVar 0) [some (matD cs), some (vecD t), some (.tuple [.int s, vecD fs]), some (.int s), some (vecD fs), none, some (vecD (t.map (s * ·))), none, none] = some (zipD (fs.map PyData.int) (cs.map vecD)) := rfl
    refine runF_rt (seq_nx (asgG_nx rfl rfl) (seq_nx ((if_f t1).trans rfl) (seq_nx (asg_nx h6) (seq_nx ((for_eq hz).trans e) (ret_rt ?_)))))
    refine fAnd_b ((fBin_eq ((fBin_eq rfl rfl).trans (dIx_v (j := 0) rfl (getD_at (by omega)))) rfl).trans (dGe_i ..)) ?_
    have := fn1 (G := g1 dAnyI) (sl_v (f := fVar 6) (ρ := [some (matD cs), some (vecD t), some (.tuple [.int s, vecD fs]), some (.int s), some (vecD fs), y5, some (vecD (rst fs cs (t.map (s * ·)))), none, y8]) rfl) (dAnyI_v _)
    unfold fUn
    rw [this] <;> rfl
def laB : FS := (sSeq (sIf (tV (fBin dLt (fBin dIx (fVar 4) (fVar 7)) (fC (.int 0)))) (sRet (fC (.bool false))) sNil) (sSeq (sAsg 5 (fLc (iR1 (fFn (g1 dLen) (fConsA (fVar 5) fNilA))) (gN 8) tYesF (fBin dSub (fBin dIx (fVar 5) (fVar 8)) (fBin dMul (fBin dIx (fVar 4) (fVar 7)) (fBin dIx (fBin dIx (fVar 0) (fVar 7)) (fVar 8)))) [8])) sNil))
theorem la_loop (hn : n ≤ 1000) (hf : ∀ f ∈ fs, f.natAbs < 2 ^ 41) (hlc : fs.length = cs.length) (x1 x2 x3 : Option PyData) : ∀ (k i : Nat) (r : Vc) (B : Nat) (x6 x7 x8 : Option PyData), i + k = fs.length → (∀ c ∈ cs, c.length = n ∧ Small B c) → r.length = n → Small B r → B + 42 * k ≤ 90000 →
    if ((fs.drop i).any fun f => decide (f < 0)) = true then loopF (gN 7) laB (idx i k) [some (matD cs), x1, x2, x3, some (vecD fs), some (vecD r), x6, x7, x8] = some (.rt (.bool false)) else
    ∃ y7 y8, loopF (gN 7) laB (idx i k) [some (matD cs), x1, x2, x3, some (vecD fs), some (vecD r), x6, x7, x8] = some (.nx [some (matD cs), x1, x2, x3, some (vecD fs), some (vecD (rst (fs.drop i) (cs.drop i) r)), x6, y7, y8])
  | 0, i, r, B, x6, x7, x8, hi, _, hr, _, _ => by
    rw [List.drop_of_length_le (by omega : fs.length ≤ i)]
    exact ⟨x7, x8, rfl⟩
  | k + 1, i, r, B, x6, x7, x8, hi, hc, hr, sr, hB => by
    have h1 : i < fs.length := by omega
    have h2 : i < cs.length := by omega
    rw [List.drop_eq_getElem_cons h1, List.drop_eq_getElem_cons h2, idx_succ]
    obtain ⟨lc, sc⟩ := hc _ (List.getElem_mem h2)
    have hf0 := hf _ (List.getElem_mem h1)
    generalize ef : fs[i] = f at *
    generalize ec : cs[i] = c at *
    have hg : (-f).natAbs < 2 ^ 41 := by rw [Int.natAbs_neg]; exact hf0
    have kf : ∀ y5 y8 : Option PyData, fBin dIx (fVar 4) (fVar 7) [some (matD cs), x1, x2, x3, some (vecD fs), y5, x6, some (.int (i : Int)), y8] = some (.int f) := fun y5 y8 => (fBin_eq rfl rfl).trans (dIx_v (j := i) rfl (by rw [List.getElem?_eq_getElem h1, ef]))
    have kc : ∀ y5 y8 : Option PyData, fBin dIx (fVar 0) (fVar 7) [some (matD cs), x1, x2, x3, some (vecD fs), y5, x6, some (.int (i : Int)), y8] = some (vecD c) := fun y5 y8 => (fBin_eq rfl rfl).trans (matD_ix (by rw [List.getElem?_eq_getElem h2, ec]))
    have tt : tV (fBin dLt (fBin dIx (fVar 4) (fVar 7)) (fC (.int 0))) [some (matD cs), x1, x2, x3, some (vecD fs), some (vecD r), x6, some (.int (i : Int)), x8] = some (decide (f < 0)) := tV_b ((fBin_eq (kf _ _) rfl).trans (dLt_i ..))
    by_cases hneg : f < 0
    · rw [if_pos (by rw [List.any_cons, decide_eq_true hneg] <;> rfl)]
      have hb : laB [some (matD cs), x1, x2, x3, some (vecD fs), some (vecD r), x6, some (.int (i : Int)), x8] = some (.rt (.bool false)) := seq_rt ((if_t (tt.trans (by rw [decide_eq_true hneg]))).trans (ret_rt rfl))
      show Option.bind (some [some (matD cs), x1, x2, x3, some (vecD fs), some (vecD r), x6, some (.int (i : Int)), x8]) _ = _
      rw [Option.bind_some, hb, Option.bind_some]
    · have s1 := small_comb (n := B) (m := 41) (f := 1) (g := -f) (a := r) (b := c) (by decide) hg sr sc
      have hlcv : fLc (iR1 (fFn (g1 dLen) (fConsA (fVar 5) fNilA))) (gN 8) tYesF (fBin dSub (fBin dIx (fVar 5) (fVar 8)) (fBin dMul (fBin dIx (fVar 4) (fVar 7)) (fBin dIx (fBin dIx (fVar 0) (fVar 7)) (fVar 8)))) [8] [some (matD cs), x1, x2, x3, some (vecD fs), some (vecD r), x6, some (.int (i : Int)), x8] = some (vecD (comb 1 r (-f) c)) := by
        refine rng_lc (n := r.length) (fn1 rfl (dLen_v r)) (by omega) fun j hj => ?_
        have e1 : fBin dIx (fVar 5) (fVar 8) [some (matD cs), x1, x2, x3, some (vecD fs), some (vecD r), x6, some (.int (i : Int)), some (.int (j : Int))] = some (.int (r.getD j 0)) := (fBin_eq rfl rfl).trans (dIx_v (j := j) rfl (getD_at hj))
        have e2 : fBin dIx (fBin dIx (fVar 0) (fVar 7)) (fVar 8) [some (matD cs), x1, x2, x3, some (vecD fs), some (vecD r), x6, some (.int (i : Int)), some (.int (j : Int))] = some (.int (c.getD j 0)) := (fBin_eq (kc _ _) rfl).trans (dIx_v (j := j) rfl (getD_at (by omega)))
        refine ((fBin_eq e1 ((fBin_eq (kf _ _) e2).trans (dMul_b (n := 41) (m := B) hf0 (getD_small sc j) (by omega)))).trans (dSub_i ..)).trans ?_
        rw [show r.getD j 0 - f * c.getD j 0 = 1 * r.getD j 0 + -f * c.getD j 0 by rw [Int.one_mul, Int.neg_mul]; omega]
      have hb : laB [some (matD cs), x1, x2, x3, some (vecD fs), some (vecD r), x6, some (.int (i : Int)), x8] = some (.nx [some (matD cs), x1, x2, x3, some (vecD fs), some (vecD (comb 1 r (-f) c)), x6, some (.int (i : Int)), x8]) := seq_nx ((if_f (tt.trans (by rw [decide_eq_false hneg]))).trans rfl) (seq_nx (asg_nx hlcv) rfl)
      have ih := la_loop hn hf hlc x1 x2 x3 k (i + 1) (comb 1 r (-f) c) (B + 42) x6 (some (.int (i : Int))) x8 (by omega) (fun d hd => ⟨(hc d hd).1, (hc d hd).2.up (by omega)⟩) (by rw [comb_length, hr]) s1 (by omega)
      have go : loopF (gN 7) laB (.int (i : Int) :: idx (i + 1) k) [some (matD cs), x1, x2, x3, some (vecD fs), some (vecD r), x6, x7, x8] = loopF (gN 7) laB (idx (i + 1) k) [some (matD cs), x1, x2, x3, some (vecD fs), some (vecD (comb 1 r (-f) c)), x6, some (.int (i : Int)), x8] := by
        show Option.bind (some [some (matD cs), x1, x2, x3, some (vecD fs), some (vecD r), x6, some (.int (i : Int)), x8]) _ = _
        rw [Option.bind_some, hb, Option.bind_some]
      rw [go, List.any_cons, decide_eq_false hneg, Bool.false_or]
      exact ih
theorem R_larem (hn : n ≤ 1000) (hn0 : 0 < n) (hs : s.natAbs < 2 ^ 41) (hf : ∀ f ∈ fs, f.natAbs < 2 ^ 41) (hc : ∀ c ∈ cs, c.length = n ∧ Small B c) (ht : t.length = n) (st : Small B t) (hl : fs.length ≤ 1000) (hB : B ≤ 1000) : R_law_are [matD cs, vecD t, .tuple [.int s, vecD fs]] = some (.bool (res s fs cs t)) := by
  have t1 : (tO (tV (fBin dLt (fVar 3) (fC (.int 1)))) (tV (fBin dNe (fFn (g1 dLen) (fConsA (fVar 4) fNilA)) (fFn (g1 dLen) (fConsA (fVar 0) fNilA))))) [some (matD cs), some (vecD t), some (.tuple [.int s, vecD fs]), some (.int s), some (vecD fs), none, none, none, none] = some (decide (s < 1) || !decide (fs.length = cs.length)) := by
    refine tO_b (tV_b ((fBin_eq rfl rfl).trans (dLt_i ..))) (tV_b (((fBin_eq (fn1 rfl (dLen_v fs)) (fn1 rfl (matD_len cs))).trans (dNe_i ..)).trans ?_))
    congr 3
    rw [Bool.eq_iff_iff, beq_iff_eq, decide_eq_true_iff]
    omega
  unfold R_law_are B_law_are res
  cases hc1 : (decide (s < 1) || !decide (fs.length = cs.length)) with
  | true =>
    rw [hc1] at t1
    rw [← Bool.or_assoc, hc1, Bool.true_or, if_pos rfl]
    exact runF_rt (seq_nx (asgG_nx rfl rfl) (seq_rt ((if_t t1).trans (ret_rt rfl))))
  | false =>
    rw [hc1] at t1
    rw [← Bool.or_assoc, hc1, Bool.false_or]
    have hlen : fs.length = cs.length := by
      rw [Bool.or_eq_false_iff] at hc1
      simpa using hc1.2
    have h5 : fLc (iSeq (fVar 1)) (gN 6) tYesF (fBin dMul (fVar 3) (fVar 6)) [6] [some (matD cs), some (vecD t), some (.tuple [.int s, vecD fs]), some (.int s), some (vecD fs), none, none, none, none] = some (vecD (t.map (s * ·))) := scal_lc rfl (by omega) fun x hx => (fBin_eq rfl rfl).trans (dMul_b (n := 41) (m := B) hs (st x hx) (by omega))
    have lp := la_loop hn hf hlen (some (vecD t)) (some (.tuple [.int s, vecD fs])) (some (.int s)) fs.length 0 (t.map (s * ·)) (B + 41) none none none (by omega) (fun c h => ⟨(hc c h).1, (hc c h).2.up (by omega)⟩) (by rw [List.length_map, ht]) (small_scal hs st) (by omega)
    rw [List.drop_zero, List.drop_zero] at lp
    have hi : iR1 (fFn (g1 dLen) (fConsA (fVar 0) fNilA)) [some (matD cs), some (vecD t), some (.tuple [.int s, vecD fs]), some (.int s), some (vecD fs), some (vecD (t.map (s * ·))), none, none, none] = some (idx 0 fs.length) := by
      rw [iR1_ok (fn1 (x := matD cs) rfl (matD_len _)) (rgC_ok (by omega) (by omega)), ← rangeD_idx, hlen] <;> rfl
    obtain ⟨_, _, _, hlr⟩ := ar_loop hn none none none none none none fs cs (t.map (s * ·)) (B + 41) none none hf (fun c h => ⟨(hc c h).1, (hc c h).2.up (by omega)⟩) (by rw [List.length_map, ht]) (small_scal hs st) (by omega)
    cases ha : (fs.any fun f => decide (f < 0)) with
    | true =>
      rw [ha, if_pos rfl] at lp
      rw [if_pos rfl]
      exact runF_rt (seq_nx (asgG_nx rfl rfl) (seq_nx ((if_f t1).trans rfl) (seq_nx (asg_nx h5) (seq_rt ((for_eq hi).trans lp)))))
    | false =>
      rw [ha, if_neg Bool.false_ne_true] at lp
      obtain ⟨y7, y8, e⟩ := lp
      rw [if_neg Bool.false_ne_true]
      refine runF_rt (seq_nx (asgG_nx rfl rfl) (seq_nx ((if_f t1).trans rfl) (seq_nx (asg_nx h5) (seq_nx ((for_eq hi).trans e) (ret_rt ?_)))))
      refine fAnd_b ((fBin_eq ((fBin_eq rfl rfl).trans (dIx_v (j := 0) rfl (getD_at (by omega)))) rfl).trans (dGe_i ..)) ?_
      generalize rst fs cs (t.map (s * ·)) = r at *
      have hfl : fLc (iSeq (fSl (fVar 5) (oSome (fC (.int 1))) oNone)) (gN 6) (tV (fBin dNe (fVar 6) (fC (.int 0)))) (fVar 6) [6] [some (matD cs), some (vecD t), some (.tuple [.int s, vecD fs]), some (.int s), some (vecD fs), some (vecD r), none, y7, y8] = some (.list (((r.drop 1).filter fun x => x != 0).map PyData.int)) := by
        refine fLc_filter (α := Int) (h := PyData.int) (xs := r.drop 1) (by unfold iSeq; rw [sl_v (v := r) rfl] <;> rfl) (by rw [List.length_drop]; omega) fun x hx => ⟨_, rfl, ?_, fun _ => rfl⟩
        exact (tV_b ((fBin_eq rfl rfl).trans (dNe_i ..))).trans (by congr 1)
      refine ((fBin_eq (fn1 hfl (dLen_v _)) rfl).trans (dEq_i ..)).trans ?_
      rw [filt_len]
end
end Law
set_option Elab.async false
set_option linter.all false
set_option maxRecDepth 100000
set_option maxHeartbeats 2000000
namespace Law
open PySem PySem.Spec L2 DL
open PyProof.Rows hiding St
/-! ### what is tried -/
abbrev Ent := Vc × Int × List Int
def entD (e : Ent) : PyData := .list [vecD e.1, .tuple [.int e.2.1, vecD e.2.2]]
structure EntOk (n : Nat) (e : Ent) : Prop where
  l : e.1.length = n
  s : Small 200 e.1
  c : e.2.1.natAbs < 2 ^ 41
  f : ∀ f ∈ e.2.2, f.natAbs < 2 ^ 41
  m : e.2.2.length ≤ 100
theorem list_cat {a b : List PyData} (h : a.length + b.length ≤ 90000) : dCat (.list a) (.list b) = some (.list (a ++ b)) := by
  show (if catC a.length b.length = true then _ else _) = _
  rw [if_pos (catC_le (by omega))]
theorem ex_at {ds : Vc} {i : Nat} (h : i < ds.length) (hd : ∀ x ∈ ds, 0 ≤ x ∧ x < 27720) : ∃ d, ds[i]? = some d ∧ 0 ≤ d ∧ d < 27720 := ⟨_, List.getElem?_eq_getElem h, hd _ (List.getElem_mem h)⟩
theorem nat_of {x : Int} {k : Nat} (h0 : 0 ≤ x) (h : x < k) : ∃ m : Nat, x = (m : Int) ∧ m < k := ⟨x.toNat, by omega, by omega⟩
theorem small_set {M i : Nat} {v : Vc} {x : Int} (h : Small M v) (hx : x.natAbs < 2 ^ M) : Small M (v.set i x) := fun y hy => by
  rcases List.mem_or_eq_of_mem_set hy with h1 | h1
  · exact h y h1
  · rw [h1]; exact hx
theorem add_small {M : Nat} {x y : Int} (hx : x.natAbs < 2 ^ M) (hy : y.natAbs < 2 ^ M) : (x + y).natAbs < 2 ^ (M + 1) := by
  rw [Nat.pow_succ]
  omega
def bsB : FS := (sSeq (sAsg 8 (fLc (iR1 (fVar 3)) (gN 9) tYesF (fBin dAdd (fBin dIx (fVar 8) (fVar 9)) (fBin dMul (fBin dIx (fVar 5) (fVar 6)) (fBin dIx (fBin dIx (fVar 0) (fVar 6)) (fVar 9)))) [9])) sNil)
section
variable {n : Nat} {cs : List Vc} {t : Vc} {c : Int}
theorem bs_loop (hn : n ≤ 100) {fs : List Int} (hf : ∀ f ∈ fs, 0 ≤ f ∧ f < 4) (hl : fs.length = cs.length) (hc : ∀ c ∈ cs, c.length = n ∧ Small 80 c) (x1 x2 x4 x7 : Option PyData) : ∀ (k i : Nat) (b : Vc) (x6 x9 : Option PyData), i + k = fs.length → b.length = n → Small (83 + i) b →
    ∃ (b' : Vc) (y6 y9 : Option PyData), loopF (gN 6) bsB (idx i k) [some (matD cs), x1, x2, some (.int (n : Int)), x4, some (vecD fs), x6, x7, some (vecD b), x9, none, none, none, none, none, none] = some (.nx [some (matD cs), x1, x2, some (.int (n : Int)), x4, some (vecD fs), y6, x7, some (vecD b'), y9, none, none, none, none, none, none]) ∧ b'.length = n ∧ Small (83 + (i + k)) b'
  | 0, i, b, x6, x9, _, hb, sb => ⟨b, x6, x9, rfl, hb, sb⟩
  | k + 1, i, b, x6, x9, hi, hb, sb => by
    have h1 : i < fs.length := by omega
    have h2 : i < cs.length := by omega
    obtain ⟨lc, sc⟩ := hc _ (List.getElem_mem h2)
    obtain ⟨f0, f4⟩ := hf _ (List.getElem_mem h1)
    generalize ef : fs[i] = f at *
    generalize ec : cs[i] = d at *
    have hlc : fLc (iR1 (fVar 3)) (gN 9) tYesF (fBin dAdd (fBin dIx (fVar 8) (fVar 9)) (fBin dMul (fBin dIx (fVar 5) (fVar 6)) (fBin dIx (fBin dIx (fVar 0) (fVar 6)) (fVar 9)))) [9] [some (matD cs), x1, x2, some (.int (n : Int)), x4, some (vecD fs), some (.int (i : Int)), x7, some (vecD b), x9, none, none, none, none, none, none] = some (vecD ((List.range n).map fun j => b.getD j 0 + f * d.getD j 0)) := by
      refine rng_lc (n := n) rfl (by omega) fun j hj => ?_
      have e1 : fBin dIx (fVar 8) (fVar 9) [some (matD cs), x1, x2, some (.int (n : Int)), x4, some (vecD fs), some (.int (i : Int)), x7, some (vecD b), some (.int (j : Int)), none, none, none, none, none, none] = some (.int (b.getD j 0)) := (fBin_eq rfl rfl).trans (dIx_v (j := j) rfl (getD_at (by omega)))
      have e2 : fBin dIx (fVar 5) (fVar 6) [some (matD cs), x1, x2, some (.int (n : Int)), x4, some (vecD fs), some (.int (i : Int)), x7, some (vecD b), some (.int (j : Int)), none, none, none, none, none, none] = some (.int f) := (fBin_eq rfl rfl).trans (dIx_v (j := i) rfl (by rw [List.getElem?_eq_getElem h1, ef]))
      have e3 : fBin dIx (fBin dIx (fVar 0) (fVar 6)) (fVar 9) [some (matD cs), x1, x2, some (.int (n : Int)), x4, some (vecD fs), some (.int (i : Int)), x7, some (vecD b), some (.int (j : Int)), none, none, none, none, none, none] = some (.int (d.getD j 0)) := (fBin_eq ((fBin_eq rfl rfl).trans (matD_ix (by rw [List.getElem?_eq_getElem h2, ec]))) rfl).trans (dIx_v (j := j) rfl (getD_at (by omega)))
      exact (fBin_eq e1 ((fBin_eq e2 e3).trans (dMul_b (n := 3) (m := 80) (by omega) (getD_small sc j) (by decide)))).trans (dAdd_i ..)
    obtain ⟨b', y6, y9, ih, hb', sb'⟩ := bs_loop hn hf hl hc x1 x2 x4 x7 k (i + 1) ((List.range n).map fun j => b.getD j 0 + f * d.getD j 0) (some (.int (i : Int))) x9 (by omega) (by rw [List.length_map, List.length_range]) (fun x hx => by
      obtain ⟨j, _, rfl⟩ := List.mem_map.mp hx
      refine add_small (M := 83 + i) (getD_small sb j) ?_
      rw [Int.natAbs_mul]
      have : f.natAbs * (d.getD j 0).natAbs < 2 ^ 3 * 2 ^ 80 := Nat.mul_lt_mul_of_lt_of_lt (by omega) (getD_small sc j)
      exact Nat.lt_of_lt_of_le this (by rw [← Nat.pow_add]; exact Nat.pow_le_pow_right (by decide) (by omega)))
    refine ⟨b', y6, y9, ?_, hb', by rw [show i + (k + 1) = i + 1 + k by omega]; exact sb'⟩
    have hb1 : bsB [some (matD cs), x1, x2, some (.int (n : Int)), x4, some (vecD fs), some (.int (i : Int)), x7, some (vecD b), x9, none, none, none, none, none, none] = some (.nx [some (matD cs), x1, x2, some (.int (n : Int)), x4, some (vecD fs), some (.int (i : Int)), x7, some (vecD ((List.range n).map fun j => b.getD j 0 + f * d.getD j 0)), x9, none, none, none, none, none, none]) := seq_nx (asg_nx hlc) rfl
    rw [idx_succ]
    show Option.bind (some [some (matD cs), x1, x2, some (.int (n : Int)), x4, some (vecD fs), some (.int (i : Int)), x7, some (vecD b), x9, none, none, none, none, none, none]) _ = _
    rw [Option.bind_some, hb1, Option.bind_some]
    exact ih
theorem augI_v {i j : Nat} {g : PyData → PyData → Option PyData} {fi fe : F} {ρ : Rho} {v : Vc} {x y z : Int} (hj : fi ρ = some (.int (j : Int))) (hv : ρ[i]? = some (some (vecD v))) (hy : v[j]? = some y) (hx : fe ρ = some (.int x)) (hg : g (.int y) (.int x) = some (.int z)) (h62 : j < 2 ^ 62) : sAugI i g fi fe ρ = some (.nx (ρ.set i (some (vecD (v.set j z))))) := by
  unfold sAugI
  rw [hj, Option.bind_some, hv]
  show (if (decide (0 ≤ (j : Int)) && decide ((j : Int) < 2 ^ 62)) = true then ((v.map PyData.int)[(j : Int).toNat]?).bind fun y => (fe ρ).bind fun z => (g y z).map fun w => Out.nx (ρ.set i (some (.list ((v.map PyData.int).set (j : Int).toNat w)))) else none) = _
  rw [if_pos (by rw [decide_eq_true (by omega), decide_eq_true (by omega)] <;> rfl), Int.toNat_natCast, List.getElem?_map, hy]
  show Option.bind (fe ρ) _ = _
  rw [hx, Option.bind_some, hg]
  unfold vecD
  rw [List.map_set] <;> rfl
theorem R_tried (hn : n ≤ 5) (hn0 : 0 < n) (hc0 : 0 ≤ c) (hl : cs.length ≤ 7) (hc : ∀ c ∈ cs, c.length = n ∧ Small 80 c) (ht : t.length = n) (st : Small 80 t) :
    ∃ es : List Ent, R_law_tried [matD cs, vecD t, .int c] = some (.list (es.map entD)) ∧ (∀ e ∈ es, EntOk n e) ∧ es.length ≤ 100 := by
  obtain ⟨ds, e4, ld, hd⟩ := R_digits (c := c) (b := 27720) (m := cs.length + 3) hc0 (by decide) (by decide) (by omega)
  have a4 : fFn R_law_digits (fConsA (fVar 2) (fConsA (fC (.int 27720)) (fConsA (fBin dAdd (fFn (g1 dLen) (fConsA (fVar 0) fNilA)) (fC (.int 3))) fNilA))) [some (matD cs), some (vecD t), some (.int c), some (.int (n : Int)), none, none, none, none, none, none, none, none, none, none, none, none] = some (vecD ds) := fnn3 rfl rfl ((fBin_eq (fn1 rfl (matD_len cs)) rfl).trans (dAdd_i ..)) (by rw [show ((cs.length : Int) + 3) = ((cs.length + 3 : Nat) : Int) by omega]; exact e4)
  clear e4
  obtain ⟨dc, kc, dc0, dc1⟩ := ex_at (i := cs.length) (by omega) hd
  obtain ⟨d1, k1, d10, d11⟩ := ex_at (i := cs.length + 1) (by omega) hd
  obtain ⟨d2, k2, d20, d21⟩ := ex_at (i := cs.length + 2) (by omega) hd
  obtain ⟨d0, k0, d00, d01⟩ := ex_at (i := 0) (by omega) hd
  have at_ : ∀ (i : Nat) (d : Int) (fi : F) (ρ : Rho), ds[i]? = some d → ρ[4]? = some (some (vecD ds)) → fi ρ = some (.int (i : Int)) → fBin dIx (fVar 4) fi ρ = some (.int d) := fun i d fi ρ hk h4 hi => (fBin_eq (by unfold fVar; rw [h4] <;> rfl) hi).trans (dIx_v (j := i) rfl hk)
  generalize hfs : ((List.range cs.length).map fun k => ds.getD k 0 % 4) = fs
  have hfl : fs.length = cs.length := by rw [← hfs, List.length_map, List.length_range]
  have hf : ∀ f ∈ fs, 0 ≤ f ∧ f < 4 := fun f h => by
    rw [← hfs] at h
    obtain ⟨k, _, rfl⟩ := List.mem_map.mp h
    exact ⟨Int.emod_nonneg _ (by decide), Int.emod_lt_of_pos _ (by decide)⟩
  have a5 : fLc (iR1 (fFn (g1 dLen) (fConsA (fVar 0) fNilA))) (gN 6) tYesF (fBin dMod (fBin dIx (fVar 4) (fVar 6)) (fC (.int 4))) [6] [some (matD cs), some (vecD t), some (.int c), some (.int (n : Int)), some (vecD ds), none, none, none, none, none, none, none, none, none, none, none] = some (vecD fs) := by
    rw [← hfs]
    refine rng_lc (n := cs.length) (fn1 rfl (matD_len cs)) (by omega) fun k hk => ?_
    exact (fBin_eq (at_ k _ _ _ (getD_at (by omega)) rfl rfl) rfl).trans (dMod_p (by decide))
  obtain ⟨s, hs, hs0, hs3⟩ : ∃ s : Int, s = 1 + dc % 3 ∧ 1 ≤ s ∧ s ≤ 3 := ⟨_, rfl, by have := Int.emod_nonneg dc (show (3 : Int) ≠ 0 by decide); omega, by have := Int.emod_lt_of_pos dc (show (0 : Int) < 3 by decide); omega⟩
  have a7 : fBin dAdd (fC (.int 1)) (fBin dMod (fBin dIx (fVar 4) (fFn (g1 dLen) (fConsA (fVar 0) fNilA))) (fC (.int 3))) [some (matD cs), some (vecD t), some (.int c), some (.int (n : Int)), some (vecD ds), some (vecD fs), none, none, none, none, none, none, none, none, none, none] = some (.int s) := by
    rw [hs]
    exact (fBin_eq rfl ((fBin_eq (at_ cs.length dc _ _ kc rfl (fn1 rfl (matD_len cs))) rfl).trans (dMod_p (by decide)))).trans (dAdd_i ..)
  have a8 : fBin dRep (fFn dList (fConsA (fC (.int 0)) fNilA)) (fVar 3) [some (matD cs), some (vecD t), some (.int c), some (.int (n : Int)), some (vecD ds), some (vecD fs), none, some (.int s), none, none, none, none, none, none, none, none] = some (vecD (List.replicate n 0)) := (fBin_eq (x := vecD [0]) rfl rfl).trans (rep_v (by omega))
  obtain ⟨b, y6, y9, lp, lb, sb⟩ := bs_loop (n := n) (by omega) hf hfl hc (some (vecD t)) (some (.int c)) (some (vecD ds)) (some (.int s)) fs.length 0 (List.replicate n 0) none none (by omega) List.length_replicate fun x hx => by
    rw [(List.mem_replicate.mp hx).2]
    exact Nat.two_pow_pos _
  have sb : Small 90 b := Small.up sb (by omega)
  have hi : iR1 (fFn (g1 dLen) (fConsA (fVar 0) fNilA)) [some (matD cs), some (vecD t), some (.int c), some (.int (n : Int)), some (vecD ds), some (vecD fs), none, some (.int s), some (vecD (List.replicate n 0)), none, none, none, none, none, none, none] = some (idx 0 fs.length) := by
    rw [iR1_ok (fn1 (x := matD cs) rfl (matD_len _)) (rgC_ok (by omega) (by omega)), ← rangeD_idx, hfl] <;> rfl
  have sbs : Small 93 (b.map (s * ·)) := fun x hx => by
    obtain ⟨y, hy, rfl⟩ := List.mem_map.mp hx
    rw [Int.natAbs_mul, show (2 : Nat) ^ 93 = 2 ^ 3 * 2 ^ 90 from rfl]
    exact Nat.mul_lt_mul_of_lt_of_lt (show s.natAbs < 2 ^ 3 by omega) (sb y hy)
  have a8b : fLc (iSeq (fVar 8)) (gN 10) tYesF (fBin dMul (fVar 7) (fVar 10)) [10] [some (matD cs), some (vecD t), some (.int c), some (.int (n : Int)), some (vecD ds), some (vecD fs), y6, some (.int s), some (vecD b), y9, none, none, none, none, none, none] = some (vecD (b.map (s * ·))) := scal_lc rfl (by omega) fun x hx => (fBin_eq rfl rfl).trans (dMul_b (n := 3) (m := 90) (by omega) (sb x hx) (by decide))
  generalize hb2 : b.map (s * ·) = b2 at *
  have lb2 : b2.length = n := by rw [← hb2, List.length_map, lb]
  have a11 : fLc (iSeq (fVar 8)) (gN 10) tYesF (fBin dDiv (fVar 10) (fVar 7)) [10] [some (matD cs), some (vecD t), some (.int c), some (.int (n : Int)), some (vecD ds), some (vecD fs), y6, some (.int s), some (vecD b2), y9, none, none, none, none, none, none] = some (vecD (b2.map (· / s))) := scal_lc rfl (by omega) fun x hx => (fBin_eq rfl rfl).trans (dDiv_p (n := 3) (by omega) (by omega) (by decide) (by decide))
  have sf0 : Small 93 (b2.map (· / s)) := fun x hx => by
    obtain ⟨y, hy, rfl⟩ := List.mem_map.mp hx
    exact Nat.lt_of_le_of_lt (Int.natAbs_ediv_le_natAbs ..) (sbs y hy)
  have lf0 : (b2.map (· / s)).length = n := by rw [List.length_map, lb2]
  generalize b2.map (· / s) = f0 at *
  obtain ⟨v1, hv1, v10, v13⟩ : ∃ z : Int, z = d1 % 3 ∧ 0 ≤ z ∧ z < 3 := ⟨_, rfl, Int.emod_nonneg _ (by decide), Int.emod_lt_of_pos _ (by decide)⟩
  have s11 : sSetI 11 (fC (.int 0)) (fBin dAdd (fBin dIx (fVar 11) (fC (.int 0))) (fBin dMod (fBin dIx (fVar 4) (fBin dAdd (fFn (g1 dLen) (fConsA (fVar 0) fNilA)) (fC (.int 1)))) (fC (.int 3)))) [some (matD cs), some (vecD t), some (.int c), some (.int (n : Int)), some (vecD ds), some (vecD fs), y6, some (.int s), some (vecD b2), y9, none, some (vecD f0), none, none, none, none] = some (.nx [some (matD cs), some (vecD t), some (.int c), some (.int (n : Int)), some (vecD ds), some (vecD fs), y6, some (.int s), some (vecD b2), y9, none, some (vecD (f0.set 0 (f0.getD 0 0 + v1))), none, none, none, none]) := by
    rw [hv1]
    refine setI_v (i := 11) (j := 0) (v := f0) ((fBin_eq ((fBin_eq rfl rfl).trans (dIx_v (j := 0) rfl (getD_at (by omega)))) ((fBin_eq (at_ (cs.length + 1) d1 _ _ k1 rfl ((fBin_eq (fn1 rfl (matD_len cs)) rfl).trans ?_)) rfl).trans (dMod_p (by decide)))).trans (dAdd_i ..)) rfl rfl (by omega)
    show some (PyData.int ((cs.length : Int) + 1)) = _
    rw [show ((cs.length + 1 : Nat) : Int) = (cs.length : Int) + 1 by omega]
  have sf1 : Small 94 (f0.set 0 (f0.getD 0 0 + v1)) := small_set (sf0.up (by decide)) (add_small (M := 93) (getD_small sf0 0) (by omega))
  have lf1 : (f0.set 0 (f0.getD 0 0 + v1)).length = n := by rw [List.length_set, lf0]
  generalize f0.set 0 (f0.getD 0 0 + v1) = ft at *
  have s12 : sSetI 12 (fC (.int 0)) (fBin dSub (fBin dIx (fVar 12) (fC (.int 0))) (fC (.int 3))) [some (matD cs), some (vecD t), some (.int c), some (.int (n : Int)), some (vecD ds), some (vecD fs), y6, some (.int s), some (vecD b2), y9, none, some (vecD ft), some (vecD ft), none, none, none] = some (.nx [some (matD cs), some (vecD t), some (.int c), some (.int (n : Int)), some (vecD ds), some (vecD fs), y6, some (.int s), some (vecD b2), y9, none, some (vecD ft), some (vecD (ft.set 0 (ft.getD 0 0 - 3))), none, none, none]) := setI_v (i := 12) (j := 0) (v := ft) ((fBin_eq ((fBin_eq rfl rfl).trans (dIx_v (j := 0) rfl (getD_at (by omega)))) rfl).trans (dSub_i ..)) rfl rfl (by omega)
  have slo : Small 95 (ft.set 0 (ft.getD 0 0 - 3)) := small_set (sf1.up (by decide)) (add_small (M := 94) (y := -3) (getD_small sf1 0) (by decide))
  have llo : (ft.set 0 (ft.getD 0 0 - 3)).length = n := by rw [List.length_set, lf1]
  generalize ft.set 0 (ft.getD 0 0 - 3) = lo at *
  obtain ⟨j, hj, hjn⟩ := nat_of (Int.emod_nonneg d2 (show (n : Int) ≠ 0 by omega)) (Int.emod_lt_of_pos d2 (show (0 : Int) < (n : Int) by omega))
  obtain ⟨v2, hv2, v20, v22⟩ : ∃ z : Int, z = 1 + d1 / 3 % 2 ∧ 0 ≤ z ∧ z ≤ 2 := ⟨_, rfl, by have := Int.emod_nonneg (d1 / 3) (show (2 : Int) ≠ 0 by decide); omega, by have := Int.emod_lt_of_pos (d1 / 3) (show (0 : Int) < 2 by decide); omega⟩
  have lcs1 : ∀ ρ : Rho, ρ[0]? = some (some (matD cs)) → fBin dAdd (fFn (g1 dLen) (fConsA (fVar 0) fNilA)) (fC (.int 1)) ρ = some (.int ((cs.length + 1 : Nat) : Int)) := fun ρ h => by
    rw [fBin_eq (fn1 (by unfold fVar; rw [h] <;> rfl) (matD_len cs)) rfl, dAdd_i, show ((cs.length + 1 : Nat) : Int) = (cs.length : Int) + 1 by omega]
  have lcs2 : ∀ ρ : Rho, ρ[0]? = some (some (matD cs)) → fBin dAdd (fFn (g1 dLen) (fConsA (fVar 0) fNilA)) (fC (.int 2)) ρ = some (.int ((cs.length + 2 : Nat) : Int)) := fun ρ h => by
    rw [fBin_eq (fn1 (by unfold fVar; rw [h] <;> rfl) (matD_len cs)) rfl, dAdd_i, show ((cs.length + 2 : Nat) : Int) = (cs.length : Int) + 2 by omega]
  have s13 : sAugI 13 dAdd (fBin dMod (fBin dIx (fVar 4) (fBin dAdd (fFn (g1 dLen) (fConsA (fVar 0) fNilA)) (fC (.int 2)))) (fVar 3)) (fBin dAdd (fC (.int 1)) (fBin dMod (fBin dDiv (fBin dIx (fVar 4) (fBin dAdd (fFn (g1 dLen) (fConsA (fVar 0) fNilA)) (fC (.int 1)))) (fC (.int 3))) (fC (.int 2)))) [some (matD cs), some (vecD t), some (.int c), some (.int (n : Int)), some (vecD ds), some (vecD fs), y6, some (.int s), some (vecD b2), y9, none, some (vecD ft), some (vecD lo), some (vecD ft), none, none] = some (.nx [some (matD cs), some (vecD t), some (.int c), some (.int (n : Int)), some (vecD ds), some (vecD fs), y6, some (.int s), some (vecD b2), y9, none, some (vecD ft), some (vecD lo), some (vecD (ft.set j (ft.getD j 0 + v2))), none, none]) := by
    rw [hv2]
    refine augI_v (i := 13) (j := j) (v := ft) ((fBin_eq (at_ (cs.length + 2) d2 _ _ k2 rfl (lcs2 _ rfl)) rfl).trans ((dMod_p (by omega)).trans (by rw [hj]))) rfl (getD_at (by omega)) ((fBin_eq rfl ((fBin_eq ((fBin_eq (at_ (cs.length + 1) d1 _ _ k1 rfl (lcs1 _ rfl)) rfl).trans (dDiv_p (n := 2) (by decide) (by decide) (by decide) (by decide))) rfl).trans (dMod_p (by decide)))).trans (dAdd_i ..)) (dAdd_i ..) (by omega)
  have sot : Small 95 (ft.set j (ft.getD j 0 + v2)) := small_set (sf1.up (by decide)) (add_small (M := 94) (getD_small sf1 j) (by omega))
  have lot : (ft.set j (ft.getD j 0 + v2)).length = n := by rw [List.length_set, lf1]
  generalize ft.set j (ft.getD j 0 + v2) = ot at *
  have okf : ∀ f ∈ fs, f.natAbs < 2 ^ 41 := fun f h => by
    have := hf f h
    omega
  have oks : s.natAbs < 2 ^ 41 := by omega
  have mk : ∀ (v : Vc) (z : Int) (g : List Int), v.length = n → Small 95 v → z.natAbs < 2 ^ 41 → (∀ f ∈ g, f.natAbs < 2 ^ 41) → g.length ≤ 8 → EntOk n (v, z, g) := fun v z g h1 h2 h3 h4 h5 => ⟨h1, h2.up (by decide), h3, h4, by show g.length ≤ 100; omega⟩
  have sft : Small 95 ft := sf1.up (by decide)
  have sst : Small 95 t := st.up (by decide)
  have m1 : ∀ x14 : Option PyData, fLc (iSeq (fVar 5)) (gN 10) tYesF (fBin dMul (fVar 7) (fVar 10)) [10] [some (matD cs), some (vecD t), some (.int c), some (.int (n : Int)), some (vecD ds), some (vecD fs), y6, some (.int s), some (vecD b2), y9, none, some (vecD ft), some (vecD lo), some (vecD ot), x14, none] = some (vecD (fs.map (s * ·))) := fun x14 => scal_lc rfl (by omega) fun x hx => (fBin_eq rfl rfl).trans (dMul_b (n := 41) (m := 41) oks (okf x hx) (by decide))
  have m9 : ∀ x14 : Option PyData, fLc (iSeq (fVar 5)) (gN 10) tYesF (fBin dSub (fC (.int 0)) (fVar 10)) [10] [some (matD cs), some (vecD t), some (.int c), some (.int (n : Int)), some (vecD ds), some (vecD fs), y6, some (.int s), some (vecD b2), y9, none, some (vecD ft), some (vecD lo), some (vecD ot), x14, none] = some (vecD (fs.map (0 - ·))) := fun x14 => scal_lc rfl (by omega) fun x hx => (fBin_eq rfl rfl).trans (dSub_i ..)
  have m6 : ∀ x14 : Option PyData, fBin dRep (fFn dList (fConsA (fC (.int 0)) fNilA)) (fFn (g1 dLen) (fConsA (fVar 5) fNilA)) [some (matD cs), some (vecD t), some (.int c), some (.int (n : Int)), some (vecD ds), some (vecD fs), y6, some (.int s), some (vecD b2), y9, none, some (vecD ft), some (vecD lo), some (vecD ot), x14, none] = some (vecD (List.replicate fs.length 0)) := fun x14 => (fBin_eq (x := vecD [0]) rfl (fn1 rfl (dLen_v fs))).trans (rep_v (by omega))
  have m7 : ∀ x14 : Option PyData, fBin dCat (fVar 5) (fFn dList (fConsA (fC (.int 0)) fNilA)) [some (matD cs), some (vecD t), some (.int c), some (.int (n : Int)), some (vecD ds), some (vecD fs), y6, some (.int s), some (vecD b2), y9, none, some (vecD ft), some (vecD lo), some (vecD ot), x14, none] = some (vecD (fs ++ [0])) := fun x14 => (fBin_eq (y := vecD [0]) rfl rfl).trans (cat_v (by rw [List.length_singleton]; omega))
  have m8 : ∀ x14 : Option PyData, fSl (fVar 5) (oSome (fC (.int 1))) oNone [some (matD cs), some (vecD t), some (.int c), some (.int (n : Int)), some (vecD ds), some (vecD fs), y6, some (.int s), some (vecD b2), y9, none, some (vecD ft), some (vecD lo), some (vecD ot), x14, none] = some (vecD (fs.drop 1)) := fun x14 => sl_v rfl
  have m10 : ∀ x14 : Option PyData, fBin dSub (fC (.int 0)) (fVar 7) [some (matD cs), some (vecD t), some (.int c), some (.int (n : Int)), some (vecD ds), some (vecD fs), y6, some (.int s), some (vecD b2), y9, none, some (vecD ft), some (vecD lo), some (vecD ot), x14, none] = some (.int (0 - s)) := fun x14 => (fBin_eq rfl rfl).trans (dSub_i ..)
  have ent : ∀ (fv fz ff : F) (ρ : Rho) (v : Vc) (z : Int) (g : List Int), fv ρ = some (vecD v) → fz ρ = some (.int z) → ff ρ = some (vecD g) → fFn dList (fConsA fv (fConsA (fFn dTup (fConsA fz (fConsA ff fNilA))) fNilA)) ρ = some (entD (v, z, g)) := fun fv fz ff ρ v z g h1 h2 h3 => fnn2 h1 (fnn2 (G := dTup) h2 h3 rfl) rfl
  have q14 := fnn3 (G := dList) (ent (fVar 11) (fVar 7) _ _ _ _ _ rfl rfl (m1 none)) (ent (fVar 11) (fVar 7) (fVar 5) _ _ _ _ rfl rfl rfl) (ent (fVar 12) (fC (.int 1)) (fVar 5) [some (matD cs), some (vecD t), some (.int c), some (.int (n : Int)), some (vecD ds), some (vecD fs), y6, some (.int s), some (vecD b2), y9, none, some (vecD ft), some (vecD lo), some (vecD ot), none, none] _ _ _ rfl rfl rfl) rfl
  have q15 := fnn3 (G := dList) (ent (fVar 13) (fC (.int 1)) (fVar 5) _ _ _ _ rfl rfl rfl) (ent (fVar 1) (fVar 7) (fVar 5) _ _ _ _ rfl rfl rfl) (ent (fVar 11) (fC (.int 0)) _ _ _ _ _ rfl rfl (m6 (some (.list ([(ft, s, fs.map (s * ·)), (ft, s, fs), (lo, 1, fs)].map entD))))) rfl
  have q16 := fnn3 (G := dList) (ent (fVar 11) (fC (.int 1)) _ _ _ _ _ rfl rfl (m7 (some (.list ([(ft, s, fs.map (s * ·)), (ft, s, fs), (lo, 1, fs), (ot, 1, fs), (t, s, fs), (ft, 0, List.replicate fs.length 0)].map entD))))) (ent (fVar 11) (fC (.int 1)) _ _ _ _ _ rfl rfl (m8 _)) (ent (fVar 11) _ _ _ _ _ _ rfl (m10 _) (m9 _)) rfl
  have c15 := (fBin_eq (g := dCat) (a := fVar 14) (x := .list ([(ft, s, fs.map (s * ·)), (ft, s, fs), (lo, 1, fs)].map entD)) rfl q15).trans (list_cat (by show 3 + 3 ≤ _; decide))
  have c16 := (fBin_eq (g := dCat) (a := fVar 14) (x := .list ([(ft, s, fs.map (s * ·)), (ft, s, fs), (lo, 1, fs), (ot, 1, fs), (t, s, fs), (ft, 0, List.replicate fs.length 0)].map entD)) rfl q16).trans (list_cat (by show 6 + 3 ≤ _; decide))
  generalize hE : ([(ft, s, fs.map (s * ·)), (ft, s, fs), (lo, 1, fs), (ot, 1, fs), (t, s, fs), (ft, 0, List.replicate fs.length 0), (ft, 1, fs ++ [0]), (ft, 1, fs.drop 1), (ft, 0 - s, fs.map (0 - ·))] : List Ent) = E9 at *
  have e9 : PyData.list (List.map entD [(ft, s, fs.map (s * ·)), (ft, s, fs), (lo, 1, fs), (ot, 1, fs), (t, s, fs), (ft, 0, List.replicate fs.length 0)] ++ [entD (ft, 1, fs ++ [0]), entD (ft, 1, fs.drop 1), entD (ft, 0 - s, fs.map (0 - ·))]) = .list (E9.map entD) := by
    rw [← hE] <;> rfl
  rw [e9] at c16
  have ok9 : (∀ e ∈ E9, EntOk n e) ∧ E9.length = 9 := by
    rw [← hE]
    refine ⟨fun e he => ?_, rfl⟩
    have l8 : fs.length ≤ 7 := by omega
    simp only [List.mem_cons, List.not_mem_nil, or_false] at he
    rcases he with rfl | rfl | rfl | rfl | rfl | rfl | rfl | rfl | rfl
    · refine mk _ _ _ lf1 sft oks (fun f h => ?_) (by rw [List.length_map]; omega)
      obtain ⟨g, hg, rfl⟩ := List.mem_map.mp h
      have := hf g hg
      have h2 : s.natAbs * g.natAbs ≤ 3 * 3 := Nat.mul_le_mul (by omega) (by omega)
      rw [Int.natAbs_mul]
      exact Nat.lt_of_le_of_lt h2 (by decide)
    · exact mk _ _ _ lf1 sft oks okf (by omega)
    · exact mk _ _ _ llo slo (by decide) okf (by omega)
    · exact mk _ _ _ lot sot (by decide) okf (by omega)
    · exact mk _ _ _ ht sst oks okf (by omega)
    · exact mk _ _ _ lf1 sft (by decide) (fun f h => by rw [(List.mem_replicate.mp h).2]; decide) (by rw [List.length_replicate]; omega)
    · refine mk _ _ _ lf1 sft (by decide) (fun f h => ?_) (by rw [List.length_append, List.length_singleton]; omega)
      rcases List.mem_append.mp h with h | h
      · exact okf f h
      · rw [List.mem_singleton.mp h]; decide
    · exact mk _ _ _ lf1 sft (by decide) (fun f h => okf f (List.mem_of_mem_drop h)) (by rw [List.length_drop]; omega)
    · refine mk _ _ _ lf1 sft (by omega) (fun f h => ?_) (by rw [List.length_map]; omega)
      obtain ⟨g, hg, rfl⟩ := List.mem_map.mp h
      have := hf g hg
      omega
  clear hE e9
  have tl : tV (fBin dGt (fFn (g1 dLen) (fConsA (fVar 5) fNilA)) (fC (.int 0))) [some (matD cs), some (vecD t), some (.int c), some (.int (n : Int)), some (vecD ds), some (vecD fs), y6, some (.int s), some (vecD b2), y9, none, some (vecD ft), some (vecD lo), some (vecD ot), some (.list (E9.map entD)), none] = some (decide (0 < (fs.length : Int))) := tV_b ((fBin_eq (fn1 rfl (dLen_v fs)) rfl).trans (dGt_i ..))
  unfold R_law_tried B_law_tried
  by_cases hpos : 0 < fs.length
  · obtain ⟨i, hi2, hin⟩ := nat_of (Int.emod_nonneg d0 (show (fs.length : Int) ≠ 0 by omega)) (Int.emod_lt_of_pos d0 (show (0 : Int) < (fs.length : Int) by omega))
    have li : ∀ x14 : Option PyData, fBin dMod (fBin dIx (fVar 4) (fC (.int 0))) (fFn (g1 dLen) (fConsA (fVar 15) fNilA)) [some (matD cs), some (vecD t), some (.int c), some (.int (n : Int)), some (vecD ds), some (vecD fs), y6, some (.int s), some (vecD b2), y9, none, some (vecD ft), some (vecD lo), some (vecD ot), x14, some (vecD fs)] = some (.int (i : Int)) := fun x14 => (fBin_eq (at_ 0 d0 _ _ k0 rfl rfl) (fn1 rfl (dLen_v fs))).trans ((dMod_p (by omega)).trans (by rw [hi2]))
    have s15 := setI_v (i := 15) (fe := fBin dSub (fBin dIx (fVar 15) (fBin dMod (fBin dIx (fVar 4) (fC (.int 0))) (fFn (g1 dLen) (fConsA (fVar 15) fNilA)))) (fC (.int 1))) (x := fs.getD i 0 - 1) ((fBin_eq ((fBin_eq rfl (li (some (.list (E9.map entD))))).trans (dIx_v (j := i) rfl (getD_at hin))) rfl).trans (dSub_i ..)) (li _) rfl hin
    have ap := app_l (i := 14) (xs := E9.map entD) (ent (fVar 11) (fC (.int 1)) (fVar 15) [some (matD cs), some (vecD t), some (.int c), some (.int (n : Int)), some (vecD ds), some (vecD fs), y6, some (.int s), some (vecD b2), y9, none, some (vecD ft), some (vecD lo), some (vecD ot), some (.list (E9.map entD)), some (vecD (fs.set i (fs.getD i 0 - 1)))] _ _ _ rfl rfl rfl) rfl (by rw [List.length_map]; omega)
    refine ⟨E9 ++ [(ft, 1, fs.set i (fs.getD i 0 - 1))], runF_rt (seq_nx (asg_nx (fn1 rfl (ht ▸ dLen_v t))) (seq_nx (asg_nx a4) (seq_nx (asg_nx a5) (seq_nx (asg_nx a7) (seq_nx (asg_nx a8) (seq_nx ((for_eq hi).trans lp) (seq_nx (asg_nx a8b) (seq_nx (asg_nx a11) (seq_nx s11 (seq_nx (asg_nx (fn1 rfl rfl)) (seq_nx s12 (seq_nx (asg_nx (fn1 rfl rfl)) (seq_nx s13 (seq_nx (asg_nx q14) (seq_nx (asg_nx c15) (seq_nx (asg_nx c16) (seq_nx ((if_t (tl.trans (by rw [decide_eq_true (by omega)]))).trans (seq_nx (asg_nx (fn1 rfl rfl)) (seq_nx s15 (seq_nx ap rfl)))) (ret_rt ?_)))))))))))))))))), fun e he => ?_, ?_⟩
    · rw [List.map_append] <;> rfl
    · rcases List.mem_append.mp he with he | he
      · exact ok9.1 e he
      · rw [List.mem_singleton.mp he]
        refine mk _ _ _ lf1 sft (by decide) (fun f h => ?_) (by rw [List.length_set]; omega)
        rcases List.mem_or_eq_of_mem_set h with h | h
        · exact okf f h
        · have := hf _ (List.getElem_mem hin)
          have e : fs.getD i 0 = fs[i] := by rw [List.getD_eq_getElem?_getD, List.getElem?_eq_getElem hin] <;> rfl
          rw [h, e]
          omega
    · rw [List.length_append, List.length_singleton]; omega
  · exact ⟨E9, runF_rt (seq_nx (asg_nx (fn1 rfl (ht ▸ dLen_v t))) (seq_nx (asg_nx a4) (seq_nx (asg_nx a5) (seq_nx (asg_nx a7) (seq_nx (asg_nx a8) (seq_nx ((for_eq hi).trans lp) (seq_nx (asg_nx a8b) (seq_nx (asg_nx a11) (seq_nx s11 (seq_nx (asg_nx (fn1 rfl rfl)) (seq_nx s12 (seq_nx (asg_nx (fn1 rfl rfl)) (seq_nx s13 (seq_nx (asg_nx q14) (seq_nx (asg_nx c15) (seq_nx (asg_nx c16) (seq_nx ((if_f (tl.trans (by rw [decide_eq_false (by omega)]))).trans rfl) (ret_rt rfl)))))))))))))))))), ok9.1, by omega⟩
end
end Law
set_option Elab.async false
set_option linter.all false
set_option maxRecDepth 100000
set_option maxHeartbeats 2000000
namespace Law
open PySem PySem.Spec L2 DL
open PyProof.Rows hiding St
theorem plain_mat {k : Nat} {m : List Vc} (h : ∀ v ∈ m, ∀ x ∈ v, x.natAbs < 10 ^ k) : plainAll k (m.map vecD) = true := by
  induction m with
  | nil => rfl
  | cons v m ih =>
    rw [List.map_cons]
    show (plainAll k (v.map PyData.int) && plainAll k (m.map vecD)) = true
    rw [plain_ints (h v (List.mem_cons_self ..)), ih fun u hu => h u (List.mem_cons_of_mem _ hu)] <;> rfl
theorem nodes_mat {n : Nat} {m : List Vc} (h : ∀ v ∈ m, v.length = n) : nodesAll (m.map vecD) = m.length * (1 + n) := by
  induction m with
  | nil => simp [nodesAll]
  | cons v m ih =>
    rw [List.map_cons]
    show (1 + nodesAll (v.map PyData.int)) + nodesAll (m.map vecD) = _
    rw [nodes_ints, h v (List.mem_cons_self ..), ih fun u hu => h u (List.mem_cons_of_mem _ hu), List.length_cons, Nat.succ_mul]
    omega
theorem depth_mat (m : List Vc) : PyData.depthAll (m.map vecD) ≤ 2 := by
  induction m with
  | nil => simp [PyData.depthAll]
  | cons v m ih =>
    have h := depth_ints_all v
    rw [List.map_cons]
    unfold vecD at *
    simp only [PyData.depthAll, PyData.depth] at *
    omega
theorem p200 {x : Int} (h : x.natAbs < 2 ^ 200) : x.natAbs < 10 ^ 61 := Nat.lt_of_lt_of_le h (by decide)
theorem repr_mat {n : Nat} {m : List Vc} (hm : ∀ v ∈ m, v.length = n ∧ Small 200 v) (hn : n ≤ 100) (lm : m.length ≤ 100) : ∃ s, dRepr (matD m) = some (.str s) ∧ PyData.strOk s = true := by
  refine repr_plain (k := 61) (by omega) (by omega) ?_ ?_ ?_
  · unfold plainB
    exact plain_mat fun u hu x hx => p200 ((hm u hu).2 x hx)
  · have h1 := depth_mat m
    simp only [PyData.depth] at *
    omega
  · unfold nodesD
    rw [nodes_mat (n := n) (fun u hu => (hm u hu).1)]
    have : m.length * (1 + n) ≤ 100 * 101 := Nat.mul_le_mul lm (by omega)
    omega
theorem repr_ent {n : Nat} {e : Ent} (h : EntOk n e) (hn : n ≤ 100) : ∃ s, dRepr (entD e) = some (.str s) ∧ PyData.strOk s = true := by
  obtain ⟨t, s, fs⟩ := e
  have hl : t.length = n := h.l
  have hm : fs.length ≤ 100 := h.m
  refine repr_plain (k := 61) (by omega) (by omega) ?_ ?_ ?_
  · have h1 : plainAll 61 (t.map PyData.int) = true := plain_ints fun x hx => p200 (h.s x hx)
    have h2 : plainAll 61 (fs.map PyData.int) = true := plain_ints fun x hx => p200 (Nat.lt_of_lt_of_le (h.f x hx) (by decide))
    have h3 : s.natAbs < 10 ^ 61 := p200 (Nat.lt_of_lt_of_le h.c (by decide))
    unfold vecD
    simp only [plainB, plainAll, h1, h2, decide_eq_true h3] <;> rfl
  · have h1 := depth_ints_all t
    have h2 := depth_ints_all fs
    unfold vecD
    simp only [PyData.depth, PyData.depthAll]
    omega
  · unfold vecD
    simp only [nodesD, nodesAll, nodes_ints]
    omega
/-! ### the law's inner loop -/
def inB : FS := (sSeq (sAsg 15 (fFn (g1 dRepr) (fConsA (fFn dList (fConsA (fVar 13) (fConsA (fVar 14) fNilA))) fNilA))) (sSeq (sAsg 16 (fFn R_are_multipliers (fConsA (fVar 11) (fConsA (fVar 13) (fConsA (fVar 14) fNilA))))) (sSeq (sIf (tO (tN (tV (fUn (isTy "bool") (fVar 16)))) (tV (fBin dNe (fVar 16) (fFn R_law_are (fConsA (fVar 11) (fConsA (fVar 13) (fConsA (fVar 14) fNilA))))))) (sRet (fC (.bool false))) sNil) (sSeq (sIf (tO (tV (fBin dNe (fFn (g1 dRepr) (fConsA (fFn dList (fConsA (fVar 13) (fConsA (fVar 14) fNilA))) fNilA)) (fVar 15))) (tV (fBin dNe (fFn (g1 dRepr) (fConsA (fVar 11) fNilA)) (fVar 12)))) (sRet (fC (.bool false))) sNil) sNil))))
section
variable {n : Nat} {cs : List Vc} {sk : Str}
theorem in_step {e : Ent} (hn : n ≤ 5) (hn0 : 0 < n) (hc : ∀ c ∈ cs, c.length = n ∧ Small 80 c) (lc : cs.length ≤ 7) (he : EntOk n e) (hk : dRepr (matD cs) = some (.str sk)) (ok : PyData.strOk sk = true) (x0 x1 x2 x3 x4 x5 x6 x7 x8 x9 x10 x15 x16 : Option PyData) :
    ∃ y15 y16, inB [x0, x1, x2, x3, x4, x5, x6, x7, x8, x9, x10, some (matD cs), some (.str sk), some (vecD e.1), some (.tuple [.int e.2.1, vecD e.2.2]), x15, x16] = some (.nx [x0, x1, x2, x3, x4, x5, x6, x7, x8, x9, x10, some (matD cs), some (.str sk), some (vecD e.1), some (.tuple [.int e.2.1, vecD e.2.2]), y15, y16]) := by
  obtain ⟨s, hs, hso⟩ := repr_ent he (by omega)
  have r1 : R_are_multipliers [matD cs, vecD e.1, .tuple [.int e.2.1, vecD e.2.2]] = some (.bool (res e.2.1 e.2.2 cs e.1)) := R_arem (n := n) (B := 200) (by omega) hn0 he.c he.f (fun c h => ⟨(hc c h).1, (hc c h).2.up (by omega)⟩) he.l he.s (by have := he.m; omega) (by omega)
  have r2 : R_law_are [matD cs, vecD e.1, .tuple [.int e.2.1, vecD e.2.2]] = some (.bool (res e.2.1 e.2.2 cs e.1)) := R_larem (n := n) (B := 200) (by omega) hn0 he.c he.f (fun c h => ⟨(hc c h).1, (hc c h).2.up (by omega)⟩) he.l he.s (by have := he.m; omega) (by omega)
  generalize res e.2.1 e.2.2 cs e.1 = b at r1 r2
  have dNe_bb : dNe (.bool b) (.bool b) = some (.bool false) := by cases b <;> rfl
  have rp : ∀ x15 x16 : Option PyData, fFn (g1 dRepr) (fConsA (fFn dList (fConsA (fVar 13) (fConsA (fVar 14) fNilA))) fNilA) [x0, x1, x2, x3, x4, x5, x6, x7, x8, x9, x10, some (matD cs), some (.str sk), some (vecD e.1), some (.tuple [.int e.2.1, vecD e.2.2]), x15, x16] = some (.str s) := fun _ _ => fn1 (fnn2 rfl rfl rfl) hs
  refine ⟨some (.str s), some (.bool b), ?_⟩
  refine seq_nx (asg_nx (rp _ _)) (seq_nx (asg_nx (fnn3 rfl rfl rfl r1)) (seq_nx ((if_f (tO_ff (tN_b (b := true) (tV_b rfl)) (tV_b ((fBin_eq rfl (fnn3 rfl rfl rfl r2)).trans dNe_bb)))).trans rfl) (seq_nx ((if_f (tO_ff (tV_b ((fBin_eq (rp _ _) rfl).trans (dNe_s hso))) (tV_b ((fBin_eq (fn1 rfl hk) rfl).trans (dNe_s ok))))).trans rfl) rfl)))
theorem in_loop (hn : n ≤ 5) (hn0 : 0 < n) (hc : ∀ c ∈ cs, c.length = n ∧ Small 80 c) (lc : cs.length ≤ 7) (hk : dRepr (matD cs) = some (.str sk)) (ok : PyData.strOk sk = true) (x0 x1 x2 x3 x4 x5 x6 x7 x8 x9 x10 : Option PyData) : ∀ (es : List Ent) (x13 x14 x15 x16 : Option PyData), (∀ e ∈ es, EntOk n e) →
    ∃ y13 y14 y15 y16, loopF (gTL [(gN 13), (gN 14)]) inB (es.map entD) [x0, x1, x2, x3, x4, x5, x6, x7, x8, x9, x10, some (matD cs), some (.str sk), x13, x14, x15, x16] = some (.nx [x0, x1, x2, x3, x4, x5, x6, x7, x8, x9, x10, some (matD cs), some (.str sk), y13, y14, y15, y16])
  | [], x13, x14, x15, x16, _ => ⟨x13, x14, x15, x16, rfl⟩
  | e :: es, x13, x14, x15, x16, he => by
    obtain ⟨y15, y16, h⟩ := in_step hn hn0 hc lc (he e (List.mem_cons_self ..)) hk ok x0 x1 x2 x3 x4 x5 x6 x7 x8 x9 x10 x15 x16
    obtain ⟨z13, z14, z15, z16, ih⟩ := in_loop hn hn0 hc lc hk ok x0 x1 x2 x3 x4 x5 x6 x7 x8 x9 x10 es (some (vecD e.1)) (some (.tuple [.int e.2.1, vecD e.2.2])) y15 y16 fun x hx => he x (List.mem_cons_of_mem _ hx)
    refine ⟨z13, z14, z15, z16, ?_⟩
    rw [List.map_cons]
    show Option.bind (some [x0, x1, x2, x3, x4, x5, x6, x7, x8, x9, x10, some (matD cs), some (.str sk), some (vecD e.1), some (.tuple [.int e.2.1, vecD e.2.2]), x15, x16]) _ = _
    rw [Option.bind_some, h, Option.bind_some]
    exact ih
/-! ### the law's outer loop -/
def ouB : FS := (sSeq (sFor (iSeq (fFn R_law_tried (fConsA (fVar 11) (fConsA (fBin dIx (fVar 6) (fVar 3)) (fConsA (fBin dAdd (fFn R_law_cell (fConsA (fVar 0) (fConsA (fBin dAdd (fC (.int 2)) (fVar 8)) fNilA))) (fVar 8)) fNilA))))) (gTL [(gN 13), (gN 14)]) inB) sNil)
theorem ou_loop {ns : List Int} {rows : List Vc} (hn : n ≤ 5) (hn0 : 0 < n) (hr : ∀ c ∈ rows, c.length = n ∧ Small 80 c) (lr : rows.length = cs.length + 1) (hcs : cs = rows.take cs.length) (lc : cs.length ≤ 7) (hk : dRepr (matD cs) = some (.str sk)) (ok : PyData.strOk sk = true) (x1 x2 x4 x5 x7 x9 x10 : Option PyData) : ∀ (k i : Nat) (x8 x13 x14 x15 x16 : Option PyData),
    ∃ y8 y13 y14 y15 y16, loopF (gN 8) ouB (idx i k) [some (vecD ns), x1, x2, some (.int (cs.length : Int)), x4, x5, some (matD rows), x7, x8, x9, x10, some (matD cs), some (.str sk), x13, x14, x15, x16] = some (.nx [some (vecD ns), x1, x2, some (.int (cs.length : Int)), x4, x5, some (matD rows), x7, y8, x9, x10, some (matD cs), some (.str sk), y13, y14, y15, y16])
  | 0, _, x8, x13, x14, x15, x16 => ⟨x8, x13, x14, x15, x16, rfl⟩
  | k + 1, i, x8, x13, x14, x15, x16 => by
    have hc : ∀ c ∈ cs, c.length = n ∧ Small 80 c := fun c h => hr c (List.mem_of_mem_take (hcs ▸ h))
    obtain ⟨t, ht⟩ : ∃ t, rows[cs.length]? = some t := ⟨_, List.getElem?_eq_getElem (by omega)⟩
    obtain ⟨lt, st⟩ := hr t (List.mem_of_getElem? ht)
    have hcell : 0 ≤ cellA ns (2 + (i : Int)) + (i : Int) := by
      have := cellA_nn ns (2 + (i : Int))
      omega
    obtain ⟨es, he, hes, _⟩ := R_tried (n := n) (cs := cs) (t := t) hn hn0 hcell lc hc lt st
    obtain ⟨y13, y14, y15, y16, h⟩ := in_loop hn hn0 hc lc hk ok (some (vecD ns)) x1 x2 (some (.int (cs.length : Int))) x4 x5 (some (matD rows)) x7 (some (.int (i : Int))) x9 x10 es x13 x14 x15 x16 hes
    obtain ⟨z8, z13, z14, z15, z16, ih⟩ := ou_loop hn hn0 hr lr hcs lc hk ok x1 x2 x4 x5 x7 x9 x10 k (i + 1) (some (.int (i : Int))) y13 y14 y15 y16
    refine ⟨z8, z13, z14, z15, z16, ?_⟩
    have src : fFn R_law_tried (fConsA (fVar 11) (fConsA (fBin dIx (fVar 6) (fVar 3)) (fConsA (fBin dAdd (fFn R_law_cell (fConsA (fVar 0) (fConsA (fBin dAdd (fC (.int 2)) (fVar 8)) fNilA))) (fVar 8)) fNilA))) [some (vecD ns), x1, x2, some (.int (cs.length : Int)), x4, x5, some (matD rows), x7, some (.int (i : Int)), x9, x10, some (matD cs), some (.str sk), x13, x14, x15, x16] = some (.list (es.map entD)) :=
      fnn3 rfl ((fBin_eq rfl rfl).trans (matD_ix ht)) ((fBin_eq (fnn2 rfl ((fBin_eq rfl rfl).trans (dAdd_i ..)) (R_cell ns (by omega))) rfl).trans (dAdd_i ..)) he
    have hb : ouB [some (vecD ns), x1, x2, some (.int (cs.length : Int)), x4, x5, some (matD rows), x7, some (.int (i : Int)), x9, x10, some (matD cs), some (.str sk), x13, x14, x15, x16] = some (.nx [some (vecD ns), x1, x2, some (.int (cs.length : Int)), x4, x5, some (matD rows), x7, some (.int (i : Int)), x9, x10, some (matD cs), some (.str sk), y13, y14, y15, y16]) :=
      seq_nx ((for_eq (ds := es.map entD) (by unfold iSeq; rw [src] <;> rfl)).trans h) rfl
    rw [idx_succ]
    show Option.bind (some [some (vecD ns), x1, x2, some (.int (cs.length : Int)), x4, x5, some (matD rows), x7, some (.int (i : Int)), x9, x10, some (matD cs), some (.str sk), x13, x14, x15, x16]) _ = _
    rw [Option.bind_some, hb, Option.bind_some]
    exact ih
end
end Law
set_option Elab.async false
set_option linter.all false
set_option maxRecDepth 100000
set_option maxHeartbeats 2000000
namespace Law
open PySem PySem.Spec L2 DL
open PyProof.Rows hiding St
theorem law_true (ns : List Int) (h : ns.length ≤ 63) (hb : ∀ z ∈ ns, Builtin.Int.intBits z ≤ 1048576) : R_law [.list (ns.map .int)] = some (.bool true) := by
  obtain ⟨fs, e1, lf, hf⟩ := R_digits (c := cellA ns 0) (b := 2520) (m := 4) (cellA_nn ns 0) (by decide) (by decide) (by omega)
  have c0 := R_cell ns (k := 0) (by decide)
  have c1 := R_cell ns (k := 1) (by decide)
  obtain ⟨f0, f1, f2, f3, rfl⟩ : ∃ a b c d, fs = [a, b, c, d] := by
    match fs, lf with
    | [a, b, c, d], _ => exact ⟨a, b, c, d, rfl⟩
  obtain ⟨n, hn, hn5, hn0⟩ : ∃ n : Nat, 1 + f0 % 5 = (n : Int) ∧ n ≤ 5 ∧ 0 < n := by
    have h1 := Int.emod_nonneg f0 (show (5 : Int) ≠ 0 by decide)
    have h2 := Int.emod_lt_of_pos f0 (show (0 : Int) < 5 by decide)
    exact ⟨(1 + f0 % 5).toNat, by omega, by omega, by omega⟩
  obtain ⟨m, hm, hm6⟩ : ∃ m : Nat, f1 % 7 = (m : Int) ∧ m ≤ 6 := by
    have h1 := Int.emod_nonneg f1 (show (7 : Int) ≠ 0 by decide)
    have h2 := Int.emod_lt_of_pos f1 (show (0 : Int) < 7 by decide)
    exact ⟨(f1 % 7).toNat, by omega, by omega⟩
  have hmn : (m + 1) * n ≤ 35 := Nat.le_trans (Nat.mul_le_mul (show m + 1 ≤ 7 by omega) hn5) (by decide)
  obtain ⟨ds, e4, ld, hd⟩ := R_digits (c := cellA ns 1) (b := 27720) (m := (m + 1) * n) (cellA_nn ns 1) (by decide) (by decide) (by omega)
  obtain ⟨w, hw, hw0, hw1⟩ : ∃ w : Int, dIx (vecD [5, 5, 2001]) (.int (f2 % 3)) = some (.int w) ∧ 0 < w ∧ w ≤ 2001 := by
    have h1 := Int.emod_nonneg f2 (show (3 : Int) ≠ 0 by decide)
    have h2 := Int.emod_lt_of_pos f2 (show (0 : Int) < 3 by decide)
    rcases (show f2 % 3 = 0 ∨ f2 % 3 = 1 ∨ f2 % 3 = 2 by omega) with h | h | h <;> rw [h]
    · exact ⟨5, rfl, by decide, by decide⟩
    · exact ⟨5, rfl, by decide, by decide⟩
    · exact ⟨2001, rfl, by decide, by decide⟩
  have a1 : fFn R_law_digits (fConsA (fFn R_law_cell (fConsA (fVar 0) (fConsA (fC (.int 0)) fNilA))) (fConsA (fC (.int 2520)) (fConsA (fC (.int 4)) fNilA))) [some (vecD ns), none, none, none, none, none, none, none, none, none, none, none, none, none, none, none, none] = some (vecD [f0, f1, f2, f3]) := fnn3 (fnn2 rfl rfl c0) rfl rfl e1
  have a2 : fBin dAdd (fC (.int 1)) (fBin dMod (fBin dIx (fVar 1) (fC (.int 0))) (fC (.int 5))) [some (vecD ns), some (vecD [f0, f1, f2, f3]), none, none, none, none, none, none, none, none, none, none, none, none, none, none, none] = some (.int (n : Int)) := (fBin_eq rfl ((fBin_eq ((fBin_eq rfl rfl).trans (dIx_v (j := 0) rfl rfl)) rfl).trans (dMod_p (by decide)))).trans ((dAdd_i ..).trans (by rw [hn]))
  have a3 : fBin dMod (fBin dIx (fVar 1) (fC (.int 1))) (fC (.int 7)) [some (vecD ns), some (vecD [f0, f1, f2, f3]), some (.int (n : Int)), none, none, none, none, none, none, none, none, none, none, none, none, none, none] = some (.int (m : Int)) := (fBin_eq ((fBin_eq rfl rfl).trans (dIx_v (j := 1) rfl rfl)) rfl).trans ((dMod_p (by decide)).trans (by rw [hm]))
  have a4 : fFn R_law_digits (fConsA (fFn R_law_cell (fConsA (fVar 0) (fConsA (fC (.int 1)) fNilA))) (fConsA (fC (.int 27720)) (fConsA (fBin dMul (fBin dAdd (fVar 3) (fC (.int 1))) (fVar 2)) fNilA))) [some (vecD ns), some (vecD [f0, f1, f2, f3]), some (.int (n : Int)), some (.int (m : Int)), none, none, none, none, none, none, none, none, none, none, none, none, none] = some (vecD ds) := by
    refine fnn3 (fnn2 rfl rfl c1) rfl ((fBin_eq ((fBin_eq rfl rfl).trans (dAdd_i ..)) rfl).trans (dMul_b (n := 10) (m := 10) (by omega) (by omega) (by decide))) ?_
    rw [show ((m : Int) + 1) * (n : Int) = (((m + 1) * n : Nat) : Int) by push_cast; rfl]
    exact e4
  have a5 : fBin dIx (fFn dList (fConsA (fC (.int 5)) (fConsA (fC (.int 5)) (fConsA (fC (.int 2001)) fNilA)))) (fBin dMod (fBin dIx (fVar 1) (fC (.int 2))) (fC (.int 3))) [some (vecD ns), some (vecD [f0, f1, f2, f3]), some (.int (n : Int)), some (.int (m : Int)), some (vecD ds), none, none, none, none, none, none, none, none, none, none, none, none] = some (.int w) := (fBin_eq (x := vecD [5, 5, 2001]) rfl ((fBin_eq ((fBin_eq rfl rfl).trans (dIx_v (j := 2) rfl rfl)) rfl).trans (dMod_p (by decide)))).trans hw
  obtain ⟨rows0, hr0, lr0, br0⟩ : ∃ rows : List Vc, fLc (iR1 (fBin dAdd (fVar 3) (fC (.int 1)))) (gN 8) tYesF (fLc (iR1 (fVar 2)) (gN 7) tYesF (fBin dSub (fBin dMod (fBin dIx (fVar 4) (fBin dAdd (fBin dMul (fVar 2) (fVar 8)) (fVar 7))) (fVar 5)) (fBin dDiv (fVar 5) (fC (.int 2)))) [7]) [8] [some (vecD ns), some (vecD [f0, f1, f2, f3]), some (.int (n : Int)), some (.int (m : Int)), some (vecD ds), some (.int w), none, none, none, none, none, none, none, none, none, none, none] = some (matD rows) ∧ rows.length = m + 1 ∧ ∀ c ∈ rows, c.length = n ∧ Small 12 c := by
    refine ⟨(List.range (m + 1)).map fun k => (List.range n).map fun j => ds.getD (n * k + j) 0 % w - w / 2, ?_, by rw [List.length_map, List.length_range], fun c hc => ?_⟩
    · unfold matD
      rw [List.map_map]
      have hs : iR1 (fBin dAdd (fVar 3) (fC (.int 1))) [some (vecD ns), some (vecD [f0, f1, f2, f3]), some (.int (n : Int)), some (.int (m : Int)), some (vecD ds), some (.int w), none, none, none, none, none, none, none, none, none, none, none] = some ((List.range (m + 1)).map fun (i : Nat) => PyData.int (0 + (i : Int))) := by
        rw [iR1_ok (j := ((m + 1 : Nat) : Int)) ((fBin_eq rfl rfl).trans (dAdd_i ..)) (rgC_ok (by omega) (by omega))]
        unfold rangeD
        rw [Int.toNat_natCast]
      refine fLc_map (α := Nat) hs (by rw [List.length_range]; omega) fun k hk => ⟨_, rfl, rfl, ?_⟩
      have hk := List.mem_range.mp hk
      refine rng_lc (n := n) rfl (by omega) fun j hj => ?_
      have hix : n * k + j < (m + 1) * n := by
        have h1 : n * k ≤ n * m := Nat.mul_le_mul_left n (by omega)
        rw [Nat.add_mul, Nat.one_mul, Nat.mul_comm m n]
        omega
      have hnk : dMul (.int (n : Int)) (.int (0 + (k : Int))) = some (.int ((n * k : Nat) : Int)) := by
        rw [Int.zero_add, dMul_b (n := 10) (m := 10) (by omega) (by omega) (by decide)]
        push_cast
        rfl
      have hij : dAdd (.int ((n * k : Nat) : Int)) (.int (j : Int)) = some (.int ((n * k + j : Nat) : Int)) := by
        rw [dAdd_i, show ((n * k + j : Nat) : Int) = ((n * k : Nat) : Int) + (j : Int) by push_cast; rfl]
      exact (fBin_eq ((fBin_eq ((fBin_eq rfl ((fBin_eq ((fBin_eq rfl rfl).trans hnk) rfl).trans hij)).trans (dIx_v (j := n * k + j) rfl (getD_at (by omega)))) rfl).trans (dMod_p hw0)) ((fBin_eq rfl rfl).trans (dDiv_p (n := 2) (by decide) (by decide) (by decide) (by decide)))).trans (dSub_i ..)
    · obtain ⟨k, _, rfl⟩ := List.mem_map.mp hc
      refine ⟨by rw [List.length_map, List.length_range], fun x hx => ?_⟩
      obtain ⟨j, _, rfl⟩ := List.mem_map.mp hx
      have h1 := Int.emod_nonneg (ds.getD (n * k + j) 0) (show w ≠ 0 by omega)
      have h2 := Int.emod_lt_of_pos (ds.getD (n * k + j) 0) hw0
      omega
  obtain ⟨rows, hr, lr, br⟩ : ∃ rows : List Vc, sIf (tV (fBin dEq (fBin dMod (fBin dIx (fVar 1) (fC (.int 3))) (fC (.int 3))) (fC (.int 0)))) (sSeq (sAsg 6 (fLc (iSeq (fVar 6)) (gN 10) tYesF (fLc (iSeq (fVar 10)) (gN 9) tYesF (fBin dAdd (fBin dMul (fVar 9) (fBin dPow (fC (.int 10)) (fC (.int 20)))) (fC (.int 1))) [9]) [10])) sNil) sNil [some (vecD ns), some (vecD [f0, f1, f2, f3]), some (.int (n : Int)), some (.int (m : Int)), some (vecD ds), some (.int w), some (matD rows0), none, none, none, none, none, none, none, none, none, none] = some (.nx [some (vecD ns), some (vecD [f0, f1, f2, f3]), some (.int (n : Int)), some (.int (m : Int)), some (vecD ds), some (.int w), some (matD rows), none, none, none, none, none, none, none, none, none, none]) ∧ rows.length = m + 1 ∧ ∀ c ∈ rows, c.length = n ∧ Small 80 c := by
    have ht : tV (fBin dEq (fBin dMod (fBin dIx (fVar 1) (fC (.int 3))) (fC (.int 3))) (fC (.int 0))) [some (vecD ns), some (vecD [f0, f1, f2, f3]), some (.int (n : Int)), some (.int (m : Int)), some (vecD ds), some (.int w), some (matD rows0), none, none, none, none, none, none, none, none, none, none] = some (f3 % 3 == 0) := tV_b ((fBin_eq ((fBin_eq ((fBin_eq rfl rfl).trans (dIx_v (j := 3) rfl rfl)) rfl).trans (dMod_p (by decide))) rfl).trans (dEq_i ..))
    cases hz : (f3 % 3 == 0) with
    | false =>
      rw [hz] at ht
      exact ⟨rows0, (if_f ht).trans rfl, lr0, fun c hc => ⟨(br0 c hc).1, (br0 c hc).2.up (by decide)⟩⟩
    | true =>
      rw [hz] at ht
      refine ⟨rows0.map fun v => v.map fun x => x * 10 ^ 20 + 1, (if_t ht).trans (seq_nx (asg_nx (mat_map rfl (by omega) fun v hv => scal_lc rfl (by have := (br0 v hv).1; omega) fun x hx => ?_)) rfl), by rw [List.length_map, lr0], fun c hc => ?_⟩
      · exact (fBin_eq ((fBin_eq rfl (y := .int (10 ^ 20)) rfl).trans (dMul_b (n := 12) (m := 67) ((br0 v hv).2 x hx) (by decide) (by decide))) rfl).trans (dAdd_i ..)
      · obtain ⟨v, hv, rfl⟩ := List.mem_map.mp hc
        refine ⟨by rw [List.length_map]; exact (br0 v hv).1, fun y hy => ?_⟩
        obtain ⟨x, hx, rfl⟩ := List.mem_map.mp hy
        have := (br0 v hv).2 x hx
        have h2 : (2 : Nat) ^ 80 = 1208925819614629174706176 := by decide
        omega
  have lcs : (rows.take m).length = m := by
    rw [List.length_take]
    omega
  have hcs : ∀ c ∈ rows.take m, c.length = n ∧ Small 80 c := fun c h => br c (List.mem_of_mem_take h)
  obtain ⟨sk, hk, ok⟩ := repr_mat (n := n) (m := rows.take m) (fun v hv => ⟨(hcs v hv).1, (hcs v hv).2.up (by decide)⟩) (by omega) (by omega)
  obtain ⟨y8, y13, y14, y15, y16, lp⟩ := ou_loop (cs := rows.take m) (sk := sk) (ns := ns) (rows := rows) hn5 hn0 br (by rw [lcs, lr]) (by rw [lcs]) (by omega) hk ok (some (vecD [f0, f1, f2, f3])) (some (.int (n : Int))) (some (vecD ds)) (some (.int w)) none none none 3 0 none none none none none
  rw [lcs] at lp
  have a11 : fSl (fVar 6) oNone (oSome (fVar 3)) [some (vecD ns), some (vecD [f0, f1, f2, f3]), some (.int (n : Int)), some (.int (m : Int)), some (vecD ds), some (.int w), some (matD rows), none, none, none, none, none, none, none, none, none, none] = some (matD (rows.take m)) := by
    show some (PyData.list (DL.cutD (rows.map vecD) none (some (m : Int)))) = _
    rw [cut_l] <;> rfl
  have hi : iR1 (fC (.int 3)) [some (vecD ns), some (vecD [f0, f1, f2, f3]), some (.int (n : Int)), some (.int (m : Int)), some (vecD ds), some (.int w), some (matD rows), none, none, none, none, some (matD (rows.take m)), some (.str sk), none, none, none, none] = some (idx 0 3) := rfl
  unfold R_law B_law
  exact runF_rt (seq_nx (asg_nx a1) (seq_nx (asg_nx a2) (seq_nx (asg_nx a3) (seq_nx (asg_nx a4) (seq_nx (asg_nx a5) (seq_nx (asg_nx hr0) (seq_nx hr (seq_nx (asg_nx a11) (seq_nx (asg_nx (fn1 rfl hk)) (seq_nx ((for_eq hi).trans lp) (ret_rt rfl)))))))))))
end Law
set_option Elab.async false
set_option linter.all false
set_option maxRecDepth 100000
namespace Law
open PySem PySem.Spec L2 DL
open PyProof.Rows hiding St
def mk_txt {K : PySem.W.Frag} {h : Heap} {mg : Str → Option Value} (X : K.In h) (G : h.Ns mainGlobals mg)  {f0 : Addr} {od0 an0 : Option Addr} {sl0 : Array (Option Value)} {oc0 kV0 dc0 pm0 cd0 ct0 : Value} {f1 : Addr} {od1 an1 : Option Addr} {sl1 : Array (Option Value)} {oc1 kV1 dc1 pm1 cd1 ct1 : Value} {f2 : Addr} {od2 an2 : Option Addr} {sl2 : Array (Option Value)} {oc2 kV2 dc2 pm2 cd2 ct2 : Value} {f3 : Addr} {od3 an3 : Option Addr} {sl3 : Array (Option Value)} {oc3 kV3 dc3 pm3 cd3 ct3 : Value} {f4 : Addr} {od4 an4 : Option Addr} {sl4 : Array (Option Value)} {oc4 kV4 dc4 pm4 cd4 ct4 : Value} {f5 : Addr} {od5 an5 : Option Addr} {sl5 : Array (Option Value)} {oc5 kV5 dc5 pm5 cd5 ct5 : Value} {f6 : Addr} {od6 an6 : Option Addr} {sl6 : Array (Option Value)} {oc6 kV6 dc6 pm6 cd6 ct6 : Value}
    (a0 : PySem.W.nsIn K mainGlobals "combined" = some (some (.ref f0))) (l0 : K.lookup f0 = some ⟨oc0, od0, .func (PySem.W.fnOf "combined" "combined" (defArgs s_combined) (defBody s_combined) (defScope s_combined) .none kV0 dc0 pm0 an0 cd0 ct0), sl0⟩) (c0 : PySem.W.codeIn K cd0 "combined" = true) (k0 : PySem.W.keepIn K (.ref f0) = true)
    (a1 : PySem.W.nsIn K mainGlobals "are_multipliers" = some (some (.ref f1))) (l1 : K.lookup f1 = some ⟨oc1, od1, .func (PySem.W.fnOf "are_multipliers" "are_multipliers" (defArgs s_are_multipliers) (defBody s_are_multipliers) (defScope s_are_multipliers) .none kV1 dc1 pm1 an1 cd1 ct1), sl1⟩) (c1 : PySem.W.codeIn K cd1 "are_multipliers" = true) (k1 : PySem.W.keepIn K (.ref f1) = true)
    (a2 : PySem.W.nsIn K mainGlobals "_law_cell" = some (some (.ref f2))) (l2 : K.lookup f2 = some ⟨oc2, od2, .func (PySem.W.fnOf "_law_cell" "_law_cell" (defArgs s_law_cell) (defBody s_law_cell) (defScope s_law_cell) .none kV2 dc2 pm2 an2 cd2 ct2), sl2⟩) (c2 : PySem.W.codeIn K cd2 "_law_cell" = true) (k2 : PySem.W.keepIn K (.ref f2) = true)
    (a3 : PySem.W.nsIn K mainGlobals "_law_digits" = some (some (.ref f3))) (l3 : K.lookup f3 = some ⟨oc3, od3, .func (PySem.W.fnOf "_law_digits" "_law_digits" (defArgs s_law_digits) (defBody s_law_digits) (defScope s_law_digits) .none kV3 dc3 pm3 an3 cd3 ct3), sl3⟩) (c3 : PySem.W.codeIn K cd3 "_law_digits" = true) (k3 : PySem.W.keepIn K (.ref f3) = true)
    (a4 : PySem.W.nsIn K mainGlobals "_law_are" = some (some (.ref f4))) (l4 : K.lookup f4 = some ⟨oc4, od4, .func (PySem.W.fnOf "_law_are" "_law_are" (defArgs s_law_are) (defBody s_law_are) (defScope s_law_are) .none kV4 dc4 pm4 an4 cd4 ct4), sl4⟩) (c4 : PySem.W.codeIn K cd4 "_law_are" = true) (k4 : PySem.W.keepIn K (.ref f4) = true)
    (a5 : PySem.W.nsIn K mainGlobals "_law_tried" = some (some (.ref f5))) (l5 : K.lookup f5 = some ⟨oc5, od5, .func (PySem.W.fnOf "_law_tried" "_law_tried" (defArgs s_law_tried) (defBody s_law_tried) (defScope s_law_tried) .none kV5 dc5 pm5 an5 cd5 ct5), sl5⟩) (c5 : PySem.W.codeIn K cd5 "_law_tried" = true) (k5 : PySem.W.keepIn K (.ref f5) = true)
    (a6 : PySem.W.nsIn K mainGlobals "law" = some (some (.ref f6))) (l6 : K.lookup f6 = some ⟨oc6, od6, .func (PySem.W.fnOf "law" "law" (defArgs s_law) (defBody s_law) (defScope s_law) .none kV6 dc6 pm6 an6 cd6 ct6), sl6⟩) (c6 : PySem.W.codeIn K cd6 "law" = true) (k6 : PySem.W.keepIn K (.ref f6) = true)
    (z_abs : PySem.W.nsIn K mainGlobals "abs" = some none)
    (z_any : PySem.W.nsIn K mainGlobals "any" = some none)
    (z_bool : PySem.W.nsIn K mainGlobals "bool" = some none)
    (z_int : PySem.W.nsIn K mainGlobals "int" = some none)
    (z_isinstance : PySem.W.nsIn K mainGlobals "isinstance" = some none)
    (z_len : PySem.W.nsIn K mainGlobals "len" = some none)
    (z_list : PySem.W.nsIn K mainGlobals "list" = some none)
    (z_range : PySem.W.nsIn K mainGlobals "range" = some none)
    (z_repr : PySem.W.nsIn K mainGlobals "repr" = some none)
    (z_zip : PySem.W.nsIn K mainGlobals "zip" = some none) : Txt K mg :=
  ⟨f0, _, fun_mk l0 c0 k0, PySem.W.mg_of X G a0, (fun_mk (st := s_combined) l0 c0 k0).binds (ps := ["first", "vector", "second", "other"]) fun _ _ _ _ _ _ us hl => match us, hl with | [_, _, _, _], _ => rfl,
   f1, _, fun_mk l1 c1 k1, PySem.W.mg_of X G a1, (fun_mk (st := s_are_multipliers) l1 c1 k1).binds (ps := ["conditions", "target", "multipliers"]) fun _ _ _ _ _ _ us hl => match us, hl with | [_, _, _], _ => rfl,
   f2, _, fun_mk l2 c2 k2, PySem.W.mg_of X G a2, (fun_mk (st := s_law_cell) l2 c2 k2).binds (ps := ["script", "k"]) fun _ _ _ _ _ _ us hl => match us, hl with | [_, _], _ => rfl,
   f3, _, fun_mk l3 c3 k3, PySem.W.mg_of X G a3, (fun_mk (st := s_law_digits) l3 c3 k3).binds (ps := ["cell", "base", "most"]) fun _ _ _ _ _ _ us hl => match us, hl with | [_, _, _], _ => rfl,
   f4, _, fun_mk l4 c4 k4, PySem.W.mg_of X G a4, (fun_mk (st := s_law_are) l4 c4 k4).binds (ps := ["conditions", "target", "told"]) fun _ _ _ _ _ _ us hl => match us, hl with | [_, _, _], _ => rfl,
   f5, _, fun_mk l5 c5 k5, PySem.W.mg_of X G a5, (fun_mk (st := s_law_tried) l5 c5 k5).binds (ps := ["conditions", "target", "cell"]) fun _ _ _ _ _ _ us hl => match us, hl with | [_, _, _], _ => rfl,
   f6, _, fun_mk l6 c6 k6, PySem.W.mg_of X G a6, (fun_mk (st := s_law) l6 c6 k6).binds (ps := ["script"]) fun _ _ _ _ _ _ us hl => match us, hl with | [_], _ => rfl,
   PySem.W.mg_none_of X G z_abs,
   PySem.W.mg_none_of X G z_any,
   PySem.W.mg_none_of X G z_bool,
   PySem.W.mg_none_of X G z_int,
   PySem.W.mg_none_of X G z_isinstance,
   PySem.W.mg_none_of X G z_len,
   PySem.W.mg_none_of X G z_list,
   PySem.W.mg_none_of X G z_range,
   PySem.W.mg_none_of X G z_repr,
   PySem.W.mg_none_of X G z_zip⟩
theorem cx_none {P : Program} {w : World} (H : Hp) (s : Shared) (e : Value) (s' : Shared) (h : L2.CX P w [] H s (fun _ _ _ => False) e s') : False := cx_dead h
theorem all_of {P : Program} {w : World} {K : PySem.W.Frag} {mg : Str → Option Value} {fa : Addr} (T : Txt K mg) (hfa : mg "law" = some (.ref fa)) :
    ∃ fd : FuncData, (∀ (s : Shared) (u : Value), BindsTo s fd ⟨[u], []⟩ [("script", u)]) ∧ ∀ base : Heap, K.In base → base.Ns mainGlobals mg → base.NoSeer → FnG P w K mg base (L2.CX P w) 3 fa fd ["script"] (@spF ⟨K, true⟩ 1 .cl R_law) := by
  letI : KF := ⟨K, true⟩
  have e := hfa.symm.trans T.g_law
  cases e
  refine ⟨T.d_law, fun s u => ?_, fun base _ _ hs => ok_law T⟩
  obtain ⟨oc, od, kV, doc, pm, an, cdv, ct, osl, e, _, _⟩ := T.F_law.ex
  rw [e]
  exact .of_eq rfl
end Law
open PySem PySem.W PyProof.Rows
set_option maxHeartbeats 0 in
theorem PySem.Challenge.cw_floodmark_k46_multipliers_checked_holds : PySem.Challenge.rw_floodmark_k46_multipliers_checked.Holds := by
  w_on; o_law; k_head; (case hw => w_witness2)
  k_fill
  refine DL.walk_D (l := PySem.Challenge.rw_floodmark_k46_multipliers_checked) (n := 63) (k := 3) (x := "script") (CX := fun w => L2.CX PySem.Challenge.rw_floodmark_k46_multipliers_checked.prog w) (Fn := Law.R_law) rfl (by decide) rfl ⟨⟨rfl, by decide, by decide⟩, rfl, by decide⟩ (by decide +kernel) (fun w h Y => PySem.W.kIn_of Y) ?F Law.law_true (fun w H s e s' h => Law.cx_none (P := PySem.Challenge.rw_floodmark_k46_multipliers_checked.prog) H s e s' h)
  case F =>
    intro w mg fa h KX G hmg
    refine' Law.all_of (Law.mk_txt KX G ?a0 ?l0 ?c0 ?k0 ?a1 ?l1 ?c1 ?k1 ?a2 ?l2 ?c2 ?k2 ?a3 ?l3 ?c3 ?k3 ?a4 ?l4 ?c4 ?k4 ?a5 ?l5 ?c5 ?k5 ?a6 ?l6 ?c6 ?k6 ?z_abs ?z_any ?z_bool ?z_int ?z_isinstance ?z_len ?z_list ?z_range ?z_repr ?z_zip     ) hmg
    (case a0 => k_is)
    (case l0 => k_is)
    (case c0 => k_is)
    (case k0 => k_is)
    (case a1 => k_is)
    (case l1 => k_is)
    (case c1 => k_is)
    (case k1 => k_is)
    (case a2 => k_is)
    (case l2 => k_is)
    (case c2 => k_is)
    (case k2 => k_is)
    (case a3 => k_is)
    (case l3 => k_is)
    (case c3 => k_is)
    (case k3 => k_is)
    (case a4 => k_is)
    (case l4 => k_is)
    (case c4 => k_is)
    (case k4 => k_is)
    (case a5 => k_is)
    (case l5 => k_is)
    (case c5 => k_is)
    (case k5 => k_is)
    (case a6 => k_is)
    (case l6 => k_is)
    (case c6 => k_is)
    (case k6 => k_is)
    (case z_abs => k_is)
    (case z_any => k_is)
    (case z_bool => k_is)
    (case z_int => k_is)
    (case z_isinstance => k_is)
    (case z_len => k_is)
    (case z_list => k_is)
    (case z_range => k_is)
    (case z_repr => k_is)
    (case z_zip => k_is)
